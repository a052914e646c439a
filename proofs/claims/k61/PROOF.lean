import PyProof.Rows.All
import HandS.ForMost
import HandS.ForExc
import HandS.IsInst
import HandS.TupAny
import HandS.TupMul
import HandS.RaiseMore
import HandS.Zip
import PyProof.ReprRoads
import HandS.SortInts
import HandS.Walk
import PyProof.ReprLen
import KE.GoesEnum
import HandS.Conv
import KE.DataMinMax
import HandS.Style
import HandS.Defaults
import PyProof.StrBlock2
import HandS.Rev
import HandS.TryOnly
import HandS.TryMany
import HandS.ExcInit
import HandS.ExcField
import HandS.ExcOwn
import KE.KExcInit
import PyProof.ExcBaseAll.LookupError
import HandS.Deep
import HandS.SortKw
import HandS.HotCalls
import HandS.ExcIs
import KE.KExcIs
import HandS.Call
import KE.KIsAll
import HandS.TupLe
import HandS.StrMore
import HandS.SetFor
import KE.DataFind
import PySem.Challenge.RW_leftspaces_k61_no_lay_in_so_many
set_option Elab.async false
set_option linter.all false
set_option maxRecDepth 100000
set_option autoImplicit false
namespace DL
open PySem PySem.Spec L2

/-! ## data without addresses: tuples are trees, what can be changed is a cell of the store -/
inductive D where
  | non | bl (b : Bool) | int (i : Int) | str (x : Str) | tup (xs : List D) | ref (n : Nat) | fz (xs : List D) | obj (a dd : Addr) (vs : List (Str × V))

inductive Cell where
  | lst (xs : List D) | dic (kvs : List (Key × D))

abbrev Store := List Cell
abbrev Env := List (Option D)
abbrev DQ := D → Store → Prop
abbrev DT := Env → Store → DQ → Prop
abbrev DTT := Env → Store → (Bool → Store → Prop) → Prop
abbrev DTA := Env → Store → (List D → Store → Prop) → Prop

variable {K : PySem.W.Frag}

/-- a list that nobody changes -/
def FzL (K : PySem.W.Frag) (H : Hp) (a : Addr) (vs : List V) : Prop := (∃ o, H a = some (.frz o (.lst vs))) ∨ ∀ H', SqL K H' a vs
theorem FzL.sq {H : Hp} {a : Addr} {vs : List V} (h : FzL K H a vs) : SqL K H a vs := by
  rcases h with ⟨o, h⟩ | h
  · exact .inl (.inr ⟨o, h⟩)
  · exact h H

mutual
inductive RD (K : PySem.W.Frag) (φ : List Addr) (H : Hp) : D → V → Prop
  | non : RD K φ H .non .non
  | bl (b : Bool) : RD K φ H (.bl b) (.bl b)
  | int (i : Int) : RD K φ H (.int i) (.int i)
  | str (x : Str) : RD K φ H (.str x) (.str x)
  | tup {a : Addr} {vs : List V} {ds : List D} : SqT K H a vs → RDs K φ H ds vs → RD K φ H (.tup ds) (.ref a)
  | ref {n : Nat} {a : Addr} : φ[n]? = some a → RD K φ H (.ref n) (.ref a)
  | fz {a : Addr} {vs : List V} {ds : List D} : FzL K H a vs → RDs K φ H ds vs → RD K φ H (.fz ds) (.ref a)
  | obj {a dd : Addr} {vs : List (Str × V)} : H dd = some (.xd vs) → dd ∉ φ → RD K φ H (.obj a dd vs) (.ref a)
inductive RDs (K : PySem.W.Frag) (φ : List Addr) (H : Hp) : List D → List V → Prop
  | nil : RDs K φ H [] []
  | cons {d : D} {v : V} {ds : List D} {vs : List V} : RD K φ H d v → RDs K φ H ds vs → RDs K φ H (d :: ds) (v :: vs)
end

/-- what is kept from one moment to a later one -/
structure Ext (K : PySem.W.Frag) (φ φ' : List Addr) (H H' : Hp) : Prop where
  pre : ∀ (n : Nat) (a : Addr), φ[n]? = some a → φ'[n]? = some a
  tup : ∀ a vs, SqT K H a vs → SqT K H' a vs
  fz : ∀ a vs, FzL K H a vs → FzL K H' a vs
  out : ∀ b o, H b = some o → b ∉ φ → H' b = some o
  new : ∀ b, b ∈ φ' → b ∈ φ ∨ H b = none

theorem Ext.refl {φ : List Addr} {H : Hp} : Ext K φ φ H H := ⟨fun _ _ e => e, fun _ _ e => e, fun _ _ e => e, fun _ _ e _ => e, fun _ h => .inl h⟩
theorem Ext.trans {φ φ1 φ2 : List Addr} {H H1 H2 : Hp} (a : Ext K φ φ1 H H1) (b : Ext K φ1 φ2 H1 H2) : Ext K φ φ2 H H2 := by
  refine ⟨fun n x e => b.pre n x (a.pre n x e), fun x vs e => b.tup x vs (a.tup x vs e), fun x vs e => b.fz x vs (a.fz x vs e), fun x o e h => ?_, fun x h => ?_⟩
  · refine b.out x o (a.out x o e h) fun z => ?_
    rcases a.new x z with z | z
    · exact h z
    · rw [e] at z; cases z
  · rcases b.new x h with z | z
    · exact a.new x z
    · by_cases hx : x ∈ φ
      · exact .inl hx
      · refine .inr ?_
        cases q : H x with
        | none => rfl
        | some o =>
          have := a.out x o q hx
          rw [this] at z; cases z

section
variable {φ φ' : List Addr} {H H' : Hp}
/-- what data lean on -/
structure Kp (K : PySem.W.Frag) (φ φ' : List Addr) (H H' : Hp) : Prop where
  xd : ∀ dd vs, H dd = some (.xd vs) → dd ∉ φ → H' dd = some (.xd vs) ∧ dd ∉ φ'
  pre : ∀ (n : Nat) (a : Addr), φ[n]? = some a → φ'[n]? = some a
  tup : ∀ a vs, SqT K H a vs → SqT K H' a vs
  fz : ∀ a vs, FzL K H a vs → FzL K H' a vs
theorem Ext.kp (e : Ext K φ φ' H H') : Kp K φ φ' H H' := ⟨fun dd vs h n => ⟨e.out dd _ h n, fun z => (e.new dd z).elim n fun q => by rw [h] at q; cases q⟩, e.pre, e.tup, e.fz⟩
mutual
theorem RD.kp (e : Kp K φ φ' H H') : ∀ {d : D} {v : V}, RD K φ H d v → RD K φ' H' d v
  | _, _, .non => .non
  | _, _, .bl b => .bl b
  | _, _, .int i => .int i
  | _, _, .str x => .str x
  | _, _, .tup h r => .tup (e.tup _ _ h) (RDs.kp e r)
  | _, _, .ref h => .ref (e.pre _ _ h)
  | _, _, .fz h r => .fz (e.fz _ _ h) (RDs.kp e r)
  | _, _, .obj h n => .obj (e.xd _ _ h n).1 (e.xd _ _ h n).2
theorem RDs.kp (e : Kp K φ φ' H H') : ∀ {ds : List D} {vs : List V}, RDs K φ H ds vs → RDs K φ' H' ds vs
  | _, _, .nil => .nil
  | _, _, .cons h r => .cons (RD.kp e h) (RDs.kp e r)
end
theorem RD.ext (e : Ext K φ φ' H H') {d : D} {v : V} (h : RD K φ H d v) : RD K φ' H' d v := h.kp e.kp
theorem RDs.ext (e : Ext K φ φ' H H') {ds : List D} {vs : List V} (h : RDs K φ H ds vs) : RDs K φ' H' ds vs := h.kp e.kp
theorem RDs.length : ∀ {ds : List D} {vs : List V}, RDs K φ H ds vs → ds.length = vs.length
  | _, _, .nil => rfl
  | _, _, .cons _ r => by rw [List.length_cons, List.length_cons, RDs.length r]
theorem RDs.get : ∀ {ds : List D} {vs : List V} {i : Nat} {d : D}, RDs K φ H ds vs → ds[i]? = some d → ∃ v, vs[i]? = some v ∧ RD K φ H d v
  | _, _, _, _, .nil, e => by simp at e
  | _, _, 0, _, .cons h _, e => by simp at e; subst e; exact ⟨_, rfl, h⟩
  | _, _, i + 1, d, .cons _ r, e => by
    obtain ⟨v, h1, h2⟩ := RDs.get (i := i) (d := d) r (by simpa using e)
    exact ⟨v, by simpa using h1, h2⟩
theorem RDs.get' : ∀ {ds : List D} {vs : List V} {i : Nat} {v : V}, RDs K φ H ds vs → vs[i]? = some v → ∃ d, ds[i]? = some d ∧ RD K φ H d v
  | _, _, _, _, .nil, e => by simp at e
  | _, _, 0, _, .cons h _, e => by simp at e; subst e; exact ⟨_, rfl, h⟩
  | _, _, i + 1, v, .cons _ r, e => by
    obtain ⟨d, h1, h2⟩ := RDs.get' (i := i) (v := v) r (by simpa using e)
    exact ⟨d, by simpa using h1, h2⟩
theorem RDs.append : ∀ {ds es : List D} {vs ws : List V}, RDs K φ H ds vs → RDs K φ H es ws → RDs K φ H (ds ++ es) (vs ++ ws)
  | _, _, _, _, .nil, s => s
  | _, _, _, _, .cons h r, s => .cons h (RDs.append r s)
theorem RDs.take : ∀ {ds : List D} {vs : List V} (n : Nat), RDs K φ H ds vs → RDs K φ H (ds.take n) (vs.take n)
  | _, _, 0, _ => .nil
  | _, _, _ + 1, .nil => .nil
  | _, _, n + 1, .cons h r => .cons h (RDs.take n r)
theorem RDs.drop : ∀ {ds : List D} {vs : List V} (n : Nat), RDs K φ H ds vs → RDs K φ H (ds.drop n) (vs.drop n)
  | _, _, 0, r => r
  | _, _, _ + 1, .nil => .nil
  | _, _, n + 1, .cons _ r => RDs.drop n r
theorem RDs.set {d : D} {v : V} (h : RD K φ H d v) : ∀ {ds : List D} {vs : List V} (i : Nat), RDs K φ H ds vs → RDs K φ H (ds.set i d) (vs.set i v)
  | _, _, _, .nil => .nil
  | _, _, 0, .cons _ r => .cons h r
  | _, _, i + 1, .cons q r => .cons q (RDs.set h i r)
theorem RDs.eraseIdx : ∀ {ds : List D} {vs : List V} (i : Nat), RDs K φ H ds vs → RDs K φ H (ds.eraseIdx i) (vs.eraseIdx i)
  | _, _, _, .nil => .nil
  | _, _, 0, .cons _ r => r
  | _, _, i + 1, .cons h r => .cons h (RDs.eraseIdx i r)
theorem RDs.dropLast : ∀ {ds : List D} {vs : List V}, RDs K φ H ds vs → RDs K φ H ds.dropLast vs.dropLast
  | _, _, .nil => .nil
  | _, _, .cons _ .nil => .nil
  | _, _, .cons h (.cons h2 r) => .cons h (RDs.dropLast (.cons h2 r))
theorem RDs.reverse {ds : List D} {vs : List V} (h : RDs K φ H ds vs) : RDs K φ H ds.reverse vs.reverse := by
  have go : ∀ {ds : List D} {vs : List V}, RDs K φ H ds vs → RDs K φ H ds.reverse vs.reverse := by
    intro ds
    induction ds with
    | nil => intro vs h; cases h; exact .nil
    | cons d ds ih =>
      intro vs h
      cases h with
      | cons h r => rw [List.reverse_cons, List.reverse_cons]; exact RDs.append (ih r) (.cons h .nil)
  exact go h
theorem RDs.rep {ds : List D} {vs : List V} (h : RDs K φ H ds vs) : ∀ k : Nat, RDs K φ H (List.replicate k ds).flatten (List.replicate k vs).flatten
  | 0 => .nil
  | k + 1 => by
    rw [List.replicate_succ, List.replicate_succ, List.flatten_cons, List.flatten_cons]
    exact RDs.append h (RDs.rep h k)
theorem RDs.ints {ns : List Int} : RDs K φ H (ns.map D.int) (ns.map V.int) := by
  induction ns with
  | nil => exact .nil
  | cons n ns ih => exact .cons (.int n) ih
theorem RDs.ints_of : ∀ {ns : List Int} {vs : List V}, RDs K φ H (ns.map D.int) vs → vs = ns.map V.int
  | [], _, .nil => rfl
  | n :: ns, _, .cons h r => by cases h; rw [RDs.ints_of r]; rfl
theorem RDs.strs_of : ∀ {ns : List Str} {vs : List V}, RDs K φ H (ns.map D.str) vs → vs = ns.map V.str
  | [], _, .nil => rfl
  | n :: ns, _, .cons h r => by cases h; rw [RDs.strs_of r]; rfl
theorem RDs.bls_of : ∀ {ns : List Bool} {vs : List V}, RDs K φ H (ns.map D.bl) vs → vs = ns.map V.bl
  | [], _, .nil => rfl
  | n :: ns, _, .cons h r => by cases h; rw [RDs.bls_of r]; rfl
end

/-! ## the store over the heap -/
inductive RK (K : PySem.W.Frag) (φ : List Addr) (H : Hp) : List (Key × D) → List (Key × V) → Prop
  | nil : RK K φ H [] []
  | cons {k : Key} {d : D} {v : V} {ds : List (Key × D)} {vs : List (Key × V)} : RD K φ H d v → RK K φ H ds vs → RK K φ H ((k, d) :: ds) ((k, v) :: vs)
theorem RK.kp {φ φ' : List Addr} {H H' : Hp} (e : Kp K φ φ' H H') : ∀ {ds : List (Key × D)} {vs : List (Key × V)}, RK K φ H ds vs → RK K φ' H' ds vs
  | _, _, .nil => .nil
  | _, _, .cons h r => .cons (h.kp e) (RK.kp e r)
theorem RK.ext {φ φ' : List Addr} {H H' : Hp} (e : Ext K φ φ' H H') {ds : List (Key × D)} {vs : List (Key × V)} (h : RK K φ H ds vs) : RK K φ' H' ds vs := h.kp e.kp

def RC (K : PySem.W.Frag) (φ : List Addr) (H : Hp) : Cell → Addr → Prop
  | .lst xs, a => ∃ vs, H a = some (.lst vs) ∧ RDs K φ H xs vs
  | .dic kvs, a => ∃ vs, H a = some (.dK vs) ∧ RK K φ H kvs vs
theorem RC.there {φ : List Addr} {H : Hp} {c : Cell} {a : Addr} (h : RC K φ H c a) : H a ≠ none := by
  cases c with
  | lst xs => obtain ⟨vs, e, _⟩ := h; rw [e]; exact fun z => nomatch z
  | dic kvs => obtain ⟨vs, e, _⟩ := h; rw [e]; exact fun z => nomatch z
theorem RC.kp {φ φ' : List Addr} {H H' : Hp} (e : Kp K φ φ' H H') {c : Cell} {a : Addr} (h : RC K φ H c a) (q : H' a = H a) : RC K φ' H' c a := by
  cases c with
  | lst xs => obtain ⟨vs, e1, r⟩ := h; exact ⟨vs, by rw [q, e1], r.kp e⟩
  | dic kvs => obtain ⟨vs, e1, r⟩ := h; exact ⟨vs, by rw [q, e1], r.kp e⟩
theorem RC.ext {φ φ' : List Addr} {H H' : Hp} (e : Ext K φ φ' H H') {c : Cell} {a : Addr} (h : RC K φ H c a) (q : H' a = H a) : RC K φ' H' c a := h.kp e.kp q

structure RH (K : PySem.W.Frag) (φ : List Addr) (H : Hp) (S : Store) : Prop where
  nd : φ.Nodup
  len : φ.length = S.length
  at_ : ∀ (n : Nat) (a : Addr) (c : Cell), φ[n]? = some a → S[n]? = some c → RC K φ H c a

section
variable {φ : List Addr} {H : Hp} {S : Store}
theorem RH.cell (h : RH K φ H S) {n : Nat} {c : Cell} (e : S[n]? = some c) : ∃ a, φ[n]? = some a ∧ RC K φ H c a := by
  have hn : n < S.length := by
    rcases Nat.lt_or_ge n S.length with h | h
    · exact h
    · rw [List.getElem?_eq_none_iff.mpr h] at e; cases e
  have hn' : n < φ.length := by rw [h.len]; exact hn
  exact ⟨φ[n], List.getElem?_eq_getElem hn', h.at_ n _ c (List.getElem?_eq_getElem hn') e⟩
theorem RH.there (h : RH K φ H S) {b : Addr} (hb : b ∈ φ) : H b ≠ none := by
  obtain ⟨n, hn, e⟩ := List.mem_iff_getElem.mp hb
  have hn' : n < S.length := by rw [← h.len]; exact hn
  exact (h.at_ n b _ (by rw [List.getElem?_eq_getElem hn, e]) (List.getElem?_eq_getElem hn')).there
theorem RH.notin (h : RH K φ H S) {p : Addr} (hp : H p = none) : p ∉ φ := fun z => h.there z hp
/-- a new object that is no cell -/
theorem SqT.upd_new {a p : Addr} {vs : List V} {o : HO} (h : SqT K H a vs) (hp : H p = none) : SqT K (upd H p o) a vs := by
  rcases h with (h | ⟨ob, h⟩) | h
  · exact .inl (.inl (by rw [upd_ne (ne_of_none h hp)]; exact h))
  · exact .inl (.inr ⟨ob, by rw [upd_ne (ne_of_none h hp)]; exact h⟩)
  · exact .inr h
theorem FzL.upd_new {a p : Addr} {vs : List V} {o : HO} (h : FzL K H a vs) (hp : H p = none) : FzL K (upd H p o) a vs := by
  rcases h with ⟨ob, h⟩ | h
  · exact .inl ⟨ob, by rw [upd_ne (ne_of_none h hp)]; exact h⟩
  · exact .inr h
theorem Ext.side {p : Addr} {o : HO} (hp : H p = none) : Ext K φ φ H (upd H p o) :=
  ⟨fun _ _ e => e, fun _ _ h => SqT.upd_new h hp, fun _ _ h => h.upd_new hp, fun b u e _ => by rw [upd_ne (ne_of_none e hp)]; exact e, fun _ h => .inl h⟩
theorem RH.side (h : RH K φ H S) {p : Addr} {o : HO} (hp : H p = none) : RH K φ (upd H p o) S :=
  ⟨h.nd, h.len, fun n a c e1 e2 => (h.at_ n a c e1 e2).ext (Ext.side hp) (by
    have hne : a ≠ p := fun z => (h.at_ n a c e1 e2).there (by rw [z]; exact hp)
    rw [upd_ne hne])⟩
theorem Ext.cell {p : Addr} {o : HO} (h : RH K φ H S) (hp : H p = none) : Ext K φ (φ ++ [p]) H (upd H p o) :=
  ⟨fun n a e => by rw [List.getElem?_append_left]; exact e; exact (List.getElem?_eq_some_iff.mp e).1, fun _ _ h => SqT.upd_new h hp, fun _ _ h => h.upd_new hp,
    fun b u e _ => by rw [upd_ne (ne_of_none e hp)]; exact e, fun b hb => by
      rcases List.mem_append.mp hb with z | z
      · exact .inl z
      · rw [List.mem_singleton.mp z]; exact .inr hp⟩
theorem RH.alloc (h : RH K φ H S) {p : Addr} {o : HO} {c : Cell} (hp : H p = none) (hc : RC K (φ ++ [p]) (upd H p o) c p) : RH K (φ ++ [p]) (upd H p o) (S ++ [c]) := by
  refine ⟨?_, by rw [List.length_append, List.length_append, h.len]; rfl, fun n a c' e1 e2 => ?_⟩
  · rw [List.nodup_append]
    refine ⟨h.nd, by simp, fun a ha b hb => ?_⟩
    rw [List.mem_singleton.mp hb]
    exact fun z => h.notin hp (z ▸ ha)
  · by_cases hn : n < φ.length
    · rw [List.getElem?_append_left hn] at e1
      rw [List.getElem?_append_left (by rw [← h.len]; exact hn)] at e2
      refine (h.at_ n a c' e1 e2).ext (Ext.cell h hp) ?_
      have hne : a ≠ p := fun z => (h.at_ n a c' e1 e2).there (by rw [z]; exact hp)
      rw [upd_ne hne]
    · have hn2 : n = φ.length := by
        have := (List.getElem?_eq_some_iff.mp e1).1
        rw [List.length_append] at this
        simp at this
        omega
      subst hn2
      rw [List.getElem?_concat_length] at e1
      rw [h.len, List.getElem?_concat_length] at e2
      cases e1; cases e2
      exact hc
theorem RH.write (h : RH K φ H S) {n : Nat} {a : Addr} {o : HO} {c : Cell} (e : φ[n]? = some a) (hm : ∀ vs, H a ≠ some (.tup vs)) (hf : ∀ ob u, H a ≠ some (.frz ob u)) (hc : RC K φ (upd H a o) c a) :
    Ext K φ φ H (upd H a o) ∧ RH K φ (upd H a o) (S.set n c) := by
  have hx : Ext K φ φ H (upd H a o) := by
    refine ⟨fun _ _ e => e, fun b vs q => ?_, fun b vs q => ?_, fun b u q hb => ?_, fun _ h => .inl h⟩
    · rcases q with (q | ⟨ob, q⟩) | q
      · have hne : b ≠ a := fun z => hm vs (by rw [← z]; exact q)
        exact .inl (.inl (by rw [upd_ne hne]; exact q))
      · have hne : b ≠ a := fun z => hf ob _ (by rw [← z]; exact q)
        exact .inl (.inr ⟨ob, by rw [upd_ne hne]; exact q⟩)
      · exact .inr q
    · rcases q with ⟨ob, q⟩ | q
      · have hne : b ≠ a := fun z => hf ob _ (by rw [← z]; exact q)
        exact .inl ⟨ob, by rw [upd_ne hne]; exact q⟩
      · exact .inr q
    · have hne : b ≠ a := fun z => hb (by rw [z]; exact List.mem_of_getElem? e)
      rw [upd_ne hne]; exact q
  refine ⟨hx, h.nd, by rw [List.length_set]; exact h.len, fun m b c' e1 e2 => ?_⟩
  by_cases hmn : m = n
  · subst hmn
    rw [e] at e1; cases e1
    have hlt : m < S.length := by
      have := (List.getElem?_eq_some_iff.mp e2).1
      rw [List.length_set] at this
      exact this
    rw [List.getElem?_set_self hlt] at e2
    cases e2
    exact hc
  · rw [List.getElem?_set_ne (Ne.symm hmn)] at e2
    refine (h.at_ m b c' e1 e2).ext hx ?_
    have hne : b ≠ a := fun z => by
      subst z
      have h1 := (List.getElem?_eq_some_iff.mp e1)
      have h2 := (List.getElem?_eq_some_iff.mp e)
      exact hmn ((List.getElem_inj h.nd).mp (h1.2.trans h2.2.symm))
    rw [upd_ne hne]
end

/-! ## slots -/
structure RS (K : PySem.W.Frag) (φ : List Addr) (H : Hp) (σ : St) (δ : Env) : Prop where
  len : σ.length = δ.length
  at_ : ∀ (i : Nat) (d : D), δ[i]? = some (some d) → ∃ v, σ[i]? = some (some v) ∧ RD K φ H d v
section
variable {φ φ' : List Addr} {H H' : Hp} {σ : St} {δ : Env}
theorem RS.ext (h : RS K φ H σ δ) (e : Ext K φ φ' H H') : RS K φ' H' σ δ :=
  ⟨h.len, fun i d q => let ⟨v, h1, h2⟩ := h.at_ i d q; ⟨v, h1, h2.ext e⟩⟩
theorem RS.set (h : RS K φ H σ δ) {d : D} {v : V} (r : RD K φ H d v) (i : Nat) : RS K φ H (σ.set i (some v)) (δ.set i (some d)) := by
  refine ⟨by rw [List.length_set, List.length_set]; exact h.len, fun j e q => ?_⟩
  by_cases hj : i = j
  · subst hj
    have hlt : i < δ.length := by
      have := (List.getElem?_eq_some_iff.mp q).1
      rw [List.length_set] at this
      exact this
    rw [List.getElem?_set_self hlt] at q
    cases q
    exact ⟨v, by rw [List.getElem?_set_self (by rw [h.len]; exact hlt)], r⟩
  · rw [List.getElem?_set_ne hj] at q
    obtain ⟨w, h1, h2⟩ := h.at_ j e q
    exact ⟨w, by rw [List.getElem?_set_ne hj]; exact h1, h2⟩
theorem RS.unset (h : RS K φ H σ δ) (i : Nat) : RS K φ H (σ.set i none) (δ.set i none) := by
  refine ⟨by rw [List.length_set, List.length_set]; exact h.len, fun j e q => ?_⟩
  by_cases hj : i = j
  · subst hj
    have hlt : i < δ.length := by
      have := (List.getElem?_eq_some_iff.mp q).1
      rw [List.length_set] at this
      exact this
    rw [List.getElem?_set_self hlt] at q
    cases q
  · rw [List.getElem?_set_ne hj] at q
    obtain ⟨w, h1, h2⟩ := h.at_ j e q
    exact ⟨w, by rw [List.getElem?_set_ne hj]; exact h1, h2⟩
def dwipe (δ : Env) : List Nat → Env
  | [] => δ
  | v :: vs => (dwipe δ vs).set v none
theorem RS.wipe (h : RS K φ H σ δ) : ∀ vs : List Nat, RS K φ H (wipe σ vs) (dwipe δ vs)
  | [] => h
  | v :: vs => (RS.wipe h vs).unset v
def dstart (N : List Str) (ds : List D) : Env := ds.map some ++ List.replicate (N.length - ds.length) none
theorem RS.start {N : List Str} : ∀ {ds : List D} {vs : List V}, RDs K φ H ds vs → RS K φ H (start N vs) (dstart N ds) := by
  intro ds vs h
  have hl := h.length
  refine ⟨by unfold L2.start dstart; simp [hl], fun i d q => ?_⟩
  unfold dstart at q
  by_cases hi : i < ds.length
  · rw [List.getElem?_append_left (by simpa using hi), List.getElem?_map] at q
    cases e : ds[i]? with
    | none => rw [e] at q; cases q
    | some x =>
      rw [e] at q; cases q
      obtain ⟨v, h1, h2⟩ := h.get e
      refine ⟨v, ?_, h2⟩
      unfold L2.start
      rw [List.getElem?_append_left (by rw [List.length_map, ← hl]; exact hi), List.getElem?_map, h1]
      rfl
  · rw [List.getElem?_append_right (by simpa using hi), List.getElem?_replicate] at q
    split at q <;> cases q
end

/-! ## the readings over data, as readings of the hand layer -/
structure Base where
  φ : List Addr
  H : Hp

def lift (K : PySem.W.Frag) (B : Base) (t : DT) : TE := fun σ H Q => ∃ (φ : List Addr) (δ : Env) (S : Store) (P : DQ), Ext K B.φ φ B.H H ∧ RS K φ H σ δ ∧ RH K φ H S ∧ t δ S P ∧
  ∀ φ' H' d v S', Ext K φ φ' H H' → RH K φ' H' S' → RD K φ' H' d v → P d S' → Q v H'
def liftT (K : PySem.W.Frag) (B : Base) (t : DTT) : TT := fun σ H Q => ∃ (φ : List Addr) (δ : Env) (S : Store) (P : Bool → Store → Prop), Ext K B.φ φ B.H H ∧ RS K φ H σ δ ∧ RH K φ H S ∧ t δ S P ∧
  ∀ φ' H' b S', Ext K φ φ' H H' → RH K φ' H' S' → P b S' → Q b H'
def liftA (K : PySem.W.Frag) (B : Base) (t : DTA) : TA := fun σ H Q => ∃ (φ : List Addr) (δ : Env) (S : Store) (P : List D → Store → Prop), Ext K B.φ φ B.H H ∧ RS K φ H σ δ ∧ RH K φ H S ∧ t δ S P ∧
  ∀ φ' H' ds vs S', Ext K φ φ' H H' → RH K φ' H' S' → RDs K φ' H' ds vs → P ds S' → Q vs H'
/-- a list that is just made and not kept: its items -/
def liftL (K : PySem.W.Frag) (B : Base) (t : DTA) : TE := fun σ H Q => ∃ (φ : List Addr) (δ : Env) (S : Store) (P : List D → Store → Prop), Ext K B.φ φ B.H H ∧ RS K φ H σ δ ∧ RH K φ H S ∧ t δ S P ∧
  ∀ φ' H' ds vs S' p, Ext K φ φ' H H' → H' p = some (.lst vs) → p ∉ φ' → H p = none → RH K φ' H' S' → RDs K φ' H' ds vs → P ds S' → Q (.ref p) H'

structure DEnds where
  nx : Env → Store → Prop
  rt : DQ
  bk : Env → Store → Prop := fun _ _ => False
  ct : Env → Store → Prop := fun _ _ => False
abbrev DTS := DEnds → Env → Store → Prop
structure Le (K : PySem.W.Frag) (φ : List Addr) (H : Hp) (P : DEnds) (E : Ends) : Prop where
  nx : ∀ φ' H' σ δ S, Ext K φ φ' H H' → RS K φ' H' σ δ → RH K φ' H' S → P.nx δ S → E.nx σ H'
  rt : ∀ φ' H' d v S, Ext K φ φ' H H' → RH K φ' H' S → RD K φ' H' d v → P.rt d S → E.rt v H'
  bk : ∀ φ' H' σ δ S, Ext K φ φ' H H' → RS K φ' H' σ δ → RH K φ' H' S → P.bk δ S → E.bk σ H'
  ct : ∀ φ' H' σ δ S, Ext K φ φ' H H' → RS K φ' H' σ δ → RH K φ' H' S → P.ct δ S → E.ct σ H'
theorem Le.ext {φ φ' : List Addr} {H H' : Hp} {P : DEnds} {E : Ends} (l : Le K φ H P E) (e : Ext K φ φ' H H') : Le K φ' H' P E :=
  ⟨fun _ _ _ _ _ e' => l.nx _ _ _ _ _ (e.trans e'), fun _ _ _ _ _ e' => l.rt _ _ _ _ _ (e.trans e'), fun _ _ _ _ _ e' => l.bk _ _ _ _ _ (e.trans e'), fun _ _ _ _ _ e' => l.ct _ _ _ _ _ (e.trans e')⟩
def liftS (K : PySem.W.Frag) (B : Base) (t : DTS) : TS := fun E σ H => ∃ (φ : List Addr) (δ : Env) (S : Store) (P : DEnds), Ext K B.φ φ B.H H ∧ RS K φ H σ δ ∧ RH K φ H S ∧ t P δ S ∧ Le K φ H P E

theorem PE.imp {X : Cx} {e : Expr} {t t' : TE} (h : PE X e t) (i : ∀ σ H Q, t' σ H Q → t σ H Q) : PE X e t' := ⟨fun pins s σ H Q I q => h.run pins s σ H Q I (i σ H Q q)⟩
theorem PT.imp {X : Cx} {e : Expr} {t t' : TT} (h : PT X e t) (i : ∀ σ H Q, t' σ H Q → t σ H Q) : PT X e t' := ⟨fun pins s σ H Q I q => h.run pins s σ H Q I (i σ H Q q)⟩
theorem PA.imp {X : Cx} {e : List Expr} {t t' : TA} (h : PA X e t) (i : ∀ σ H Q, t' σ H Q → t σ H Q) : PA X e t' := ⟨fun pos pins s σ H Q I q => h.run pos pins s σ H Q I (i σ H Q q)⟩
theorem PS.imp {X : Cx} {e : Stmt} {t t' : TS} (h : PS X e t) (i : ∀ σ H E, t' E σ H → t E σ H) : PS X e t' := ⟨fun pins s σ H E I q => h.run pins s σ H E I (i σ H E q)⟩
theorem PSs.imp {X : Cx} {e : List Stmt} {t t' : TS} (h : PSs X e t) (i : ∀ σ H E, t' E σ H → t E σ H) : PSs X e t' := ⟨fun pins s σ H E I q => h.run pins s σ H E I (i σ H E q)⟩
theorem PW.imp {X : Cx} {e : Expr} {t t' : TT} (h : PW X e t) (i : ∀ σ H Q, t' σ H Q → t σ H Q) : PW X e t' := ⟨fun w pins s σ H Q I q => h.run w pins s σ H Q I (i σ H Q q)⟩

end DL

set_option Elab.async false
set_option linter.all false
set_option maxRecDepth 100000
set_option autoImplicit false
namespace DL
open PySem PySem.Spec L2

/-! ## readings by values -/
abbrev D1 := D → Store → DQ → Prop
abbrev D2 := D → D → Store → DQ → Prop
abbrev DN := List D → Store → DQ → Prop
def Snd1 (K : PySem.W.Frag) (r : D1) (r' : V → Hp → VK → Prop) : Prop := ∀ (φ : List Addr) (H : Hp) (S : Store) (x : D) (v : V) (P : DQ) (Q : VK), RH K φ H S → RD K φ H x v → r x S P →
  (∀ φ' H' d u S', Ext K φ φ' H H' → RH K φ' H' S' → RD K φ' H' d u → P d S' → Q u H') → r' v H Q
def Snd2 (K : PySem.W.Frag) (r : D2) (r' : R2) : Prop := ∀ (φ : List Addr) (H : Hp) (S : Store) (x y : D) (v w : V) (P : DQ) (Q : VK), RH K φ H S → RD K φ H x v → RD K φ H y w → r x y S P →
  (∀ φ' H' d u S', Ext K φ φ' H H' → RH K φ' H' S' → RD K φ' H' d u → P d S' → Q u H') → r' v w H Q
def SndN (K : PySem.W.Frag) (r : DN) (r' : List V → Hp → VK → Prop) : Prop := ∀ (φ : List Addr) (H : Hp) (S : Store) (xs : List D) (vs : List V) (P : DQ) (Q : VK), RH K φ H S → RDs K φ H xs vs → r xs S P →
  (∀ φ' H' d u S', Ext K φ φ' H H' → RH K φ' H' S' → RD K φ' H' d u → P d S' → Q u H') → r' vs H Q
/-- of a fresh list's items -/
def SndL (K : PySem.W.Frag) (r : DN) (r' : List V → Hp → VK → Prop) : Prop := ∀ (φ : List Addr) (H : Hp) (S : Store) (xs : List D) (vs : List V) (p : Addr) (P : DQ) (Q : VK), RH K φ H S → H p = some (.lst vs) → p ∉ φ → RDs K φ H xs vs → r xs S P →
  (∀ φ' H' d u S', Ext K φ φ' H H' → RH K φ' H' S' → RD K φ' H' d u → P d S' → Q u H') → r' [.ref p] H Q

section
variable {K : PySem.W.Frag} {B : Base}
def dUn (r : D1) (ta : DT) (δ : Env) (S : Store) (Q : DQ) : Prop := ta δ S fun x S1 => r x S1 Q
def dOp (r : D2) (ta tb : DT) (δ : Env) (S : Store) (Q : DQ) : Prop := ta δ S fun x S1 => tb δ S1 fun y S2 => r x y S2 Q
def dCB (r : DN) (t : DTA) (δ : Env) (S : Store) (Q : DQ) : Prop := t δ S fun xs S1 => r xs S1 Q
theorem lift_un {r : D1} {r' : V → Hp → VK → Prop} (s : Snd1 K r r') {ta : DT} {σ : L2.St} {H : Hp} {Q : VK} (h : lift K B (dUn r ta) σ H Q) : tUn r' (lift K B ta) σ H Q := by
  obtain ⟨φ, δ, S, P, e, rs, rh, t, k⟩ := h
  exact ⟨φ, δ, S, _, e, rs, rh, t, fun φ1 H1 x v S1 e1 rh1 rx q1 => s φ1 H1 S1 x v P Q rh1 rx q1 fun φ2 H2 d u S2 e2 => k φ2 H2 d u S2 (e1.trans e2)⟩
theorem lift_op {r : D2} {r' : R2} (s : Snd2 K r r') {ta tb : DT} {σ : L2.St} {H : Hp} {Q : VK} (h : lift K B (dOp r ta tb) σ H Q) : tOp r' (lift K B ta) (lift K B tb) σ H Q := by
  obtain ⟨φ, δ, S, P, e, rs, rh, t, k⟩ := h
  exact ⟨φ, δ, S, _, e, rs, rh, t, fun φ1 H1 x v S1 e1 rh1 rx q1 => ⟨φ1, δ, S1, _, e.trans e1, rs.ext e1, rh1, q1, fun φ2 H2 y w S2 e2 rh2 ry q2 =>
    s φ2 H2 S2 x y v w P Q rh2 (rx.ext e2) ry q2 fun φ3 H3 d u S3 e3 => k φ3 H3 d u S3 ((e1.trans e2).trans e3)⟩⟩
theorem lift_cb {r : DN} {r' : List V → Hp → VK → Prop} (s : SndN K r r') {t : DTA} {σ : L2.St} {H : Hp} {Q : VK} (h : lift K B (dCB r t) σ H Q) : tCB r' (liftA K B t) σ H Q := by
  obtain ⟨φ, δ, S, P, e, rs, rh, t, k⟩ := h
  exact ⟨φ, δ, S, _, e, rs, rh, t, fun φ1 H1 xs vs S1 e1 rh1 rx q1 => s φ1 H1 S1 xs vs P Q rh1 rx q1 fun φ2 H2 d u S2 e2 => k φ2 H2 d u S2 (e1.trans e2)⟩
/-- a call with one fresh list -/
theorem lift_cbL {r : DN} {r' : List V → Hp → VK → Prop} (s : SndL K r r') {t : DTA} {σ : L2.St} {H : Hp} {Q : VK} (h : lift K B (dCB r t) σ H Q) : tCB r' (tCons (liftL K B t) tNil) σ H Q := by
  obtain ⟨φ, δ, S, P, e, rs, rh, t, k⟩ := h
  exact ⟨φ, δ, S, _, e, rs, rh, t, fun φ1 H1 xs vs S1 p e1 hp np hn rh1 rx q1 => s φ1 H1 S1 xs vs p P Q rh1 hp np rx q1 fun φ2 H2 d u S2 e2 => k φ2 H2 d u S2 (e1.trans e2)⟩
end

section
variable {X : Cx} {B : Base} {a b c e o : Expr} {es : List Expr} {ta tb tc : DT} {uA uB uC : DTT} {t : DTA} {pos p p2 : Pos}

/-! ## names and constants -/
def optD : Option D → (D → Prop) → Prop
  | some d, k => k d
  | none, _ => False
def dGet : Env → Nat → (D → Prop) → Prop
  | [], _, _ => False
  | o :: _, 0, k => optD o k
  | _ :: r, n + 1, k => dGet r n k
theorem dGet_at : ∀ {δ : Env} {i : Nat} {k : D → Prop}, dGet δ i k → ∃ d, δ[i]? = some (some d) ∧ k d
  | [], _, _, h => h.elim
  | some d :: _, 0, k, h => ⟨d, rfl, h⟩
  | none :: _, 0, _, h => h.elim
  | _ :: r, n + 1, k, h => by
    have h' : dGet r n k := h
    obtain ⟨d, e, q⟩ := dGet_at h'
    exact ⟨d, by simpa using e, q⟩
def dVar (i : Nat) (δ : Env) (S : Store) (Q : DQ) : Prop := dGet δ i fun d => Q d S
def dC (d : D) (_ : Env) (S : Store) (Q : DQ) : Prop := Q d S
theorem de_var (i : Nat) {x : Str} (hN : X.N[i]? = some x := by rfl) (hv : Vis X.env.scope x := by first | exact Or.inl rfl | exact Or.inr (Or.inl rfl) | exact Or.inr (Or.inr rfl)) (hd : (x == ("__debug__" : Str)) = false := by decide)
    (hcd : (x == ("__classdict__" : Str)) = false := by decide) : PE X (.Name x pos) (lift X.K B (dVar i)) :=
  (PE.imp (pe_var hN hv hd hcd)) fun σ H Q h => by
    obtain ⟨φ, δ, S, P, e, rs, rh, t, k⟩ := h
    obtain ⟨d, ed, q⟩ := dGet_at t
    obtain ⟨v, ev, rv⟩ := rs.at_ i d ed
    exact ⟨v, ev, k φ H d v S .refl rh rv q⟩
theorem de_c {e : Expr} {d : D} {v : V} (h : PE X e (tC v)) (r : ∀ φ H, RD X.K φ H d v) : PE X e (lift X.K B (dC d)) :=
  (PE.imp h) fun σ H Q h => by
    obtain ⟨φ, δ, S, P, e, rs, rh, t, k⟩ := h
    exact k φ H d v S .refl rh (r φ H) t
theorem de_int {i : Int} {j} : PE X (.Constant (.int i) j pos) (lift X.K B (dC (.int i))) := de_c pe_int fun _ _ => .int i
theorem de_bl {i : Bool} {j} : PE X (.Constant (.bool i) j pos) (lift X.K B (dC (.bl i))) := de_c pe_bl fun _ _ => .bl i
theorem de_non {j} : PE X (.Constant .none j pos) (lift X.K B (dC .non)) := de_c pe_non fun _ _ => .non
theorem de_str {x j} : PE X (.Constant (.str x) j pos) (lift X.K B (dC (.str x))) := de_c pe_str fun _ _ => .str x
theorem de_globI {x : Str} {i : Int} {t : Tok} (hg : Gl X x) (hm : X.mg x = some (.int i t)) (hd : (x == ("__debug__" : Str)) = false := by decide) : PE X (.Name x pos) (lift X.K B (dC (.int i))) :=
  de_c (pe_glob hg hm (v := .int i) ⟨_, rfl⟩ hd) fun _ _ => .int i
theorem de_globS {x : Str} {z : Str} {t : Tok} (hg : Gl X x) (hm : X.mg x = some (.str z t)) (hd : (x == ("__debug__" : Str)) = false := by decide) : PE X (.Name x pos) (lift X.K B (dC (.str z))) :=
  de_c (pe_glob hg hm (v := .str z) ⟨_, rfl⟩ hd) fun _ _ => .str z

/-! ## argument lists, tuples, lists -/
def dNil (_ : Env) (S : Store) (Q : List D → Store → Prop) : Prop := Q [] S
def dCons (ta : DT) (t : DTA) (δ : Env) (S : Store) (Q : List D → Store → Prop) : Prop := ta δ S fun x S1 => t δ S1 fun xs S2 => Q (x :: xs) S2
theorem da_nil : PA X [] (liftA X.K B dNil) := (PA.imp pa_nil) fun σ H Q h => by
  obtain ⟨φ, δ, S, P, e, rs, rh, t, k⟩ := h
  exact k φ H [] [] S .refl rh .nil t
theorem da_cons (ha : PE X a (lift X.K B ta)) (hr : PA X es (liftA X.K B t)) (hs : starEach (a :: es) X.env = (false, eval a X.env) :: starEach es X.env := by rfl) : PA X (a :: es) (liftA X.K B (dCons ta t)) :=
  (PA.imp (pa_cons ha hr hs)) fun σ H Q h => by
    obtain ⟨φ, δ, S, P, e, rs, rh, t, k⟩ := h
    exact ⟨φ, δ, S, _, e, rs, rh, t, fun φ1 H1 x v S1 e1 rh1 rx q1 => ⟨φ1, δ, S1, _, e.trans e1, rs.ext e1, rh1, q1, fun φ2 H2 xs vs S2 e2 rh2 rxs q2 => k φ2 H2 _ _ S2 (e1.trans e2) rh2 (.cons (rx.ext e2) rxs) q2⟩⟩
def dTup (t : DTA) (δ : Env) (S : Store) (Q : DQ) : Prop := t δ S fun xs S1 => xs.length ≤ sizeLine ∧ Q (.tup xs) S1
theorem RDs.mk_tup {K : PySem.W.Frag} {φ : List Addr} {H : Hp} {ds : List D} {vs : List V} {p : Addr} (hp : H p = none) (r : RDs K φ H ds vs) : RD K φ (upd H p (.tup vs)) (.tup ds) (.ref p) :=
  .tup (.inl (.inl upd_same)) (r.ext (Ext.side hp))
theorem de_tup {x1} (h : PA X es (liftA X.K B t)) : PE X (.Tuple es x1 pos) (lift X.K B (dTup t)) :=
  (PE.imp (pe_tup h)) fun σ H Q h => by
    obtain ⟨φ, δ, S, P, e, rs, rh, t, k⟩ := h
    exact ⟨φ, δ, S, _, e, rs, rh, t, fun φ1 H1 xs vs S1 e1 rh1 rx q1 => ⟨by rw [← rx.length]; exact q1.1, fun p hp =>
      k φ1 _ _ _ S1 (e1.trans (Ext.side hp)) (rh1.side hp) (RDs.mk_tup hp rx) q1.2⟩⟩
/-- a display, not kept -/
def dLen (t : DTA) (δ : Env) (S : Store) (Q : List D → Store → Prop) : Prop := t δ S fun xs S1 => xs.length ≤ sizeLine ∧ Q xs S1
theorem Ext.nof {K : PySem.W.Frag} {φ φ' : List Addr} {H H' : Hp} (e : Ext K φ φ' H H') {p : Addr} (h : H' p = none) (hp : p ∉ φ) : H p = none := by
  cases q : H p with
  | none => rfl
  | some o => rw [e.out p o q hp] at h; cases h
theorem RH.free {K : PySem.W.Frag} {φ φ' : List Addr} {H H' : Hp} {S S' : Store} (h : RH K φ H S) (h' : RH K φ' H' S') (e : Ext K φ φ' H H') {p : Addr} (hp : H' p = none) : H p = none := by
  refine e.nof hp fun z => ?_
  obtain ⟨n, hn, en⟩ := List.mem_iff_getElem.mp z
  exact h'.there (List.mem_of_getElem? (e.pre n p (by rw [List.getElem?_eq_getElem hn, en]))) hp
theorem dl_lst (h : PA X es (liftA X.K B t)) : PE X (.List es pos) (liftL X.K B (dLen t)) :=
  (PE.imp (pe_lst h)) fun σ H Q h => by
    obtain ⟨φ, δ, S, P, e, rs, rh, t, k⟩ := h
    exact ⟨φ, δ, S, _, e, rs, rh, t, fun φ1 H1 xs vs S1 e1 rh1 rx q1 => ⟨by rw [← rx.length]; exact q1.1, fun p hp =>
      k φ1 _ _ _ S1 p (e1.trans (Ext.side hp)) upd_same (rh1.notin hp) (rh.free rh1 e1 hp) (rh1.side hp) (rx.ext (Ext.side hp)) q1.2⟩⟩
/-- a fresh list is kept: a new cell -/
def dKeep (t : DTA) (δ : Env) (S : Store) (Q : DQ) : Prop := t δ S fun xs S1 => Q (.ref S1.length) (S1 ++ [.lst xs])
theorem RH.adopt {K : PySem.W.Frag} {φ : List Addr} {H : Hp} {S : Store} {p : Addr} {c : Cell} (h : RH K φ H S) (hp : p ∉ φ) (hc : RC K φ H c p) : RH K (φ ++ [p]) H (S ++ [c]) := by
  have ex : Ext K φ (φ ++ [p]) H H → ∀ c a, RC K φ H c a → RC K (φ ++ [p]) H c a := fun e c a r => r.ext e rfl
  have pre : ∀ (n : Nat) (a : Addr), φ[n]? = some a → (φ ++ [p])[n]? = some a := fun n a e => by rw [List.getElem?_append_left]; exact e; exact (List.getElem?_eq_some_iff.mp e).1
  have nxd : ∀ dd vs, H dd = some (HO.xd vs) → dd ∉ φ → dd ∉ φ ++ [p] := fun dd vs hd n z => (List.mem_append.mp z).elim n fun z => by
    rw [List.mem_singleton.mp z] at hd
    cases c with
    | lst xs => obtain ⟨ws, e, _⟩ := hc; rw [e] at hd; cases hd
    | dic kvs => obtain ⟨ws, e, _⟩ := hc; rw [e] at hd; cases hd
  have rc : ∀ c a, RC K φ H c a → RC K (φ ++ [p]) H c a := by
    have rd : (∀ {d : D} {v : V}, RD K φ H d v → RD K (φ ++ [p]) H d v) ∧ (∀ {ds : List D} {vs : List V}, RDs K φ H ds vs → RDs K (φ ++ [p]) H ds vs) := by
      constructor
      · intro d v r
        exact RD.rec (motive_1 := fun d v _ => RD K (φ ++ [p]) H d v) (motive_2 := fun ds vs _ => RDs K (φ ++ [p]) H ds vs) .non .bl .int .str (fun h _ r => .tup h r) (fun e => .ref (pre _ _ e)) (fun h _ r => .fz h r) (fun hd n => .obj hd (nxd _ _ hd n)) .nil (fun _ _ h r => .cons h r) r
      · intro ds vs r
        exact RDs.rec (motive_1 := fun d v _ => RD K (φ ++ [p]) H d v) (motive_2 := fun ds vs _ => RDs K (φ ++ [p]) H ds vs) .non .bl .int .str (fun h _ r => .tup h r) (fun e => .ref (pre _ _ e)) (fun h _ r => .fz h r) (fun hd n => .obj hd (nxd _ _ hd n)) .nil (fun _ _ h r => .cons h r) r
    intro c a r
    cases c with
    | lst xs => obtain ⟨vs, e, r⟩ := r; exact ⟨vs, e, rd.2 r⟩
    | dic kvs =>
      obtain ⟨vs, e, r⟩ := r
      refine ⟨vs, e, ?_⟩
      clear e
      induction r with
      | nil => exact .nil
      | cons h _ ih => exact .cons (rd.1 h) ih
  refine ⟨?_, by rw [List.length_append, List.length_append, h.len]; rfl, fun n a c' e1 e2 => ?_⟩
  · rw [List.nodup_append]
    refine ⟨h.nd, by simp, fun a ha b hb => ?_⟩
    rw [List.mem_singleton.mp hb]
    exact fun z => hp (z ▸ ha)
  · by_cases hn : n < φ.length
    · rw [List.getElem?_append_left hn] at e1
      rw [List.getElem?_append_left (by rw [← h.len]; exact hn)] at e2
      exact rc _ _ (h.at_ n a c' e1 e2)
    · have hn2 : n = φ.length := by
        have := (List.getElem?_eq_some_iff.mp e1).1
        rw [List.length_append] at this
        simp at this
        omega
      subst hn2
      rw [List.getElem?_concat_length] at e1
      rw [h.len, List.getElem?_concat_length] at e2
      cases e1; cases e2
      exact rc _ _ hc
theorem Ext.adopt {K : PySem.W.Frag} {φ φ' : List Addr} {H H' : Hp} {p : Addr} (e : Ext K φ φ' H H') (hp : H p = none) : Ext K φ (φ' ++ [p]) H H' :=
  ⟨fun n a q => by rw [List.getElem?_append_left]; exact e.pre n a q; exact (List.getElem?_eq_some_iff.mp (e.pre n a q)).1, e.tup, e.fz, e.out, fun b hb => by
    rcases List.mem_append.mp hb with z | z
    · exact e.new b z
    · rw [List.mem_singleton.mp z]; exact .inr hp⟩
theorem de_keep {t : DTA} (h : PE X e (liftL X.K B t)) : PE X e (lift X.K B (dKeep t)) :=
  (PE.imp h) fun σ H Q h => by
    obtain ⟨φ, δ, S, P, e, rs, rh, t, k⟩ := h
    refine ⟨φ, δ, S, _, e, rs, rh, t, fun φ1 H1 xs vs S1 p e1 hp np hn rh1 rx q1 => ?_⟩
    exact k (φ1 ++ [p]) H1 (.ref S1.length) (.ref p) (S1 ++ [.lst xs]) (e1.adopt hn) (rh1.adopt np (show RC X.K φ1 H1 (.lst xs) p from ⟨vs, hp, rx⟩)) (.ref (by rw [← rh1.len, List.getElem?_concat_length])) q1

/-! ## operators -/
theorem OpR.or {f : Value → Value → Sem Value} {r r' : R2} (h : OpR X f r) (h' : OpR X f r') : OpR X f (fun x y H Q => r x y H Q ∨ r' x y H Q) := by
  intro pins s σ H x y v u Q I rx ry q
  rcases q with q | q
  · exact h pins s σ H x y v u Q I rx ry q
  · exact h' pins s σ H x y v u Q I rx ry q
theorem de_op {op : Operator} {r : D2} {r' : R2} (s : Snd2 X.K r r') (ho : OpR X (binaryOp op) r') (ha : PE X a (lift X.K B ta)) (hb : PE X b (lift X.K B tb)) : PE X (.BinOp a op b pos) (lift X.K B (dOp r ta tb)) :=
  PE.imp (pe_op ho ha hb) fun _ _ _ h => lift_op s h
theorem de_un {op : UnaryOp} {r : D1} {r' : V → Hp → VK → Prop} (s : Snd1 X.K r r') (ho : UnR X (unaryOp op) r') (ha : PE X a (lift X.K B ta)) : PE X (.UnaryOp op a pos) (lift X.K B (dUn r ta)) :=
  PE.imp (pe_un ho ha) fun _ _ _ h => lift_un s h
end
end DL

set_option Elab.async false
set_option linter.all false
set_option maxRecDepth 100000
set_option autoImplicit false
namespace DL
open PySem PySem.Spec L2

/-! ## cells read -/
def dLst (S : Store) (n : Nat) (k : List D → Prop) : Prop :=
  match S[n]? with
  | some (.lst xs) => k xs
  | _ => False
theorem dLst_at {K : PySem.W.Frag} {φ : List Addr} {H : Hp} {S : Store} {n : Nat} {a : Addr} {k : List D → Prop} (rh : RH K φ H S) (ha : φ[n]? = some a) (h : dLst S n k) : ∃ xs vs, k xs ∧ SqL K H a vs ∧ RDs K φ H xs vs := by
  unfold dLst at h
  split at h
  · rename_i xs e
    obtain ⟨b, hb, vs, e2, r⟩ := rh.cell e
    rw [ha] at hb; cases hb
    exact ⟨xs, vs, h, .inl (.inl e2), r⟩
  · exact h.elim
/-- a list that can be changed -/
def dMut (S : Store) (n : Nat) (k : List D → Prop) : Prop :=
  match S[n]? with
  | some (.lst xs) => k xs
  | _ => False
theorem dMut_at {K : PySem.W.Frag} {φ : List Addr} {H : Hp} {S : Store} {n : Nat} {a : Addr} {k : List D → Prop} (rh : RH K φ H S) (ha : φ[n]? = some a) (h : dMut S n k) : ∃ xs vs, S[n]? = some (.lst xs) ∧ k xs ∧ H a = some (.lst vs) ∧ RDs K φ H xs vs := by
  unfold dMut at h
  split at h
  · rename_i xs e
    obtain ⟨b, hb, vs, e2, r⟩ := rh.cell e
    rw [ha] at hb; cases hb
    exact ⟨xs, vs, e, h, e2, r⟩
  · exact h.elim
theorem lineOk {K : PySem.W.Frag} {X : Cx} {pins : List (Addr × Obj)} {σ : L2.St} {H : Hp} {s : Shared} {a : Addr} {vs : List V} (I : Inv X pins σ H s) (h : SqL X.K H a vs) : vs.length ≤ sizeLine := by
  obtain ⟨_, _, _, z⟩ := I.list h
  exact z

section
variable {K : PySem.W.Frag}
/-! ## + - * // % ** -/
def dAdd : D2
  | .int i, .int j, S, Q => Q (.int (i + j)) S
  | .str x, .str y, S, Q => x.length + y.length ≤ sizeLine ∧ Q (.str (x ++ y)) S
  | .tup xs, .tup ys, S, Q => xs.length + ys.length ≤ sizeLine ∧ Q (.tup (xs ++ ys)) S
  | .ref n, .ref m, S, Q => dMut S n fun xs => dMut S m fun ys => xs.length + ys.length ≤ sizeLine ∧ Q (.ref S.length) (S ++ [.lst (xs ++ ys)])
  | _, _, _, _ => False
def rAddV (K : PySem.W.Frag) : R2 := fun x y H Q => rI0 (fun i j => .int (i + j)) x y H Q ∨ (∃ i j, x = .str i ∧ y = .str j ∧ i.length + j.length ≤ sizeLine ∧ Q (.str (i ++ j)) H) ∨ rCatA K x y H Q ∨ rCat x y H Q
theorem op_addV {X : Cx} : OpR X (binaryOp .Add) (rAddV X.K) := OpR.or op_add (OpR.or op_add_str (OpR.or op_catA op_cat))
theorem RDs.nil_of {φ : List Addr} {H : Hp} {vs : List V} (r : RDs K φ H [] vs) : vs = [] := by cases r; rfl
theorem RDs.of_nil {φ : List Addr} {H : Hp} {ds : List D} (r : RDs K φ H ds []) : ds = [] := by cases r; rfl
theorem dAdd_ok : Snd2 K dAdd (rAddV K) := by
  intro φ H S x y v w P Q rh rx ry h k
  cases x with
  | int i =>
    cases y with
    | int j => cases rx; cases ry; exact .inl ⟨i, j, rfl, rfl, k φ H _ _ S .refl rh (.int _) h⟩
    | _ => exact (show False from h).elim
  | str i =>
    cases y with
    | str j => cases rx; cases ry; exact .inr (.inl ⟨i, j, rfl, rfl, h.1, k φ H _ _ S .refl rh (.str _) h.2⟩)
    | _ => exact (show False from h).elim
  | tup xs =>
    cases y with
    | tup ys =>
      cases rx with
      | @tup a vs _ ha ra =>
        cases ry with
        | @tup b ws _ hb rb =>
          obtain ⟨hz, q⟩ : xs.length + ys.length ≤ sizeLine ∧ P (.tup (xs ++ ys)) S := h
          refine .inr (.inr (.inl ⟨a, b, vs, ws, rfl, rfl, ha, hb, by rw [← ra.length, ← rb.length]; exact hz, fun e => ?_, fun _ e => ?_, fun _ _ p hp => ?_⟩))
          · subst e
            have := ra.of_nil
            subst this
            exact k φ H (.tup ys) (.ref b) S .refl rh (.tup hb rb) q
          · subst e
            have := rb.of_nil
            subst this
            rw [List.append_nil] at q
            exact k φ H (.tup xs) (.ref a) S .refl rh (.tup ha ra) q
          · exact k φ _ _ _ S (Ext.side hp) (rh.side hp) (RDs.mk_tup hp (ra.append rb)) q
    | _ => exact (show False from h).elim
  | ref n =>
    cases y with
    | ref m =>
      cases rx with
      | ref ha =>
        cases ry with
        | ref hb =>
          obtain ⟨xs, vs, _, h2, e1, r1⟩ := dMut_at rh ha (show dMut S n _ from h)
          obtain ⟨ys, ws, _, ⟨hz, q⟩, e2, r2⟩ := dMut_at rh hb h2
          refine .inr (.inr (.inr ⟨_, _, vs, ws, rfl, rfl, e1, e2, by rw [← r1.length, ← r2.length]; exact hz, fun p hp => ?_⟩))
          exact k (φ ++ [p]) _ (.ref S.length) (.ref p) _ (Ext.cell rh hp) (rh.alloc hp (show RC K _ _ (.lst (xs ++ ys)) p from ⟨_, upd_same, (r1.append r2).ext (Ext.cell rh hp)⟩)) (.ref (by rw [← rh.len, List.getElem?_concat_length])) q
    | _ => exact (show False from h).elim
  | _ => exact (show False from h).elim

def dI (C : Int → Int → Prop) (f : Int → Int → Int) : D2
  | .int i, .int j, S, Q => C i j ∧ Q (.int (f i j)) S
  | _, _, _, _ => False
theorem dI_ok {C : Int → Int → Prop} {f : Int → Int → Int} : Snd2 K (dI C f) (rI C fun i j => .int (f i j)) := by
  intro φ H S x y v w P Q rh rx ry h k
  cases x with
  | int i =>
    cases y with
    | int j => cases rx; cases ry; exact ⟨i, j, rfl, rfl, h.1, k φ H _ _ S .refl rh (.int _) h.2⟩
    | _ => exact (show False from h).elim
  | _ => exact (show False from h).elim
def dSub : D2
  | .int i, .int j, S, Q => Q (.int (i - j)) S
  | _, _, _, _ => False
theorem dSub_ok : Snd2 K dSub (rI0 fun i j => .int (i - j)) := by
  intro φ H S x y v w P Q rh rx ry h k
  cases x with
  | int i =>
    cases y with
    | int j => cases rx; cases ry; exact ⟨i, j, rfl, rfl, k φ H _ _ S .refl rh (.int _) h⟩
    | _ => exact (show False from h).elim
  | _ => exact (show False from h).elim
/-- * : ints, list * int -/
def dMul : D2
  | .int i, .int j, S, Q => CMul i j ∧ Q (.int (i * j)) S
  | .ref n, .int j, S, Q => dMut S n fun xs => -(2 ^ 63) ≤ j ∧ j < 2 ^ 63 ∧ xs.length * j.toNat ≤ sizeLine ∧ Q (.ref S.length) (S ++ [.lst (List.replicate j.toNat xs).flatten])
  | _, _, _, _ => False
def rMulV : R2 := fun x y H Q => rI CMul (fun i j => .int (i * j)) x y H Q ∨ rRep x y H Q
theorem op_mulV {X : Cx} : OpR X (binaryOp .Mult) rMulV := OpR.or op_mul op_rep
theorem dMul_ok : Snd2 K dMul rMulV := by
  intro φ H S x y v w P Q rh rx ry h k
  cases x with
  | int i =>
    cases y with
    | int j => cases rx; cases ry; exact .inl ⟨i, j, rfl, rfl, h.1, k φ H _ _ S .refl rh (.int _) h.2⟩
    | _ => exact (show False from h).elim
  | ref n =>
    cases y with
    | int j =>
      cases rx with
      | ref ha =>
        cases ry
        obtain ⟨xs, vs, _, ⟨h1, h2, hz, q⟩, e1, r1⟩ := dMut_at rh ha (show dMut S n _ from h)
        refine .inr ⟨_, j, vs, rfl, rfl, e1, h1, h2, by rw [← r1.length]; exact hz, fun p hp => ?_⟩
        exact k (φ ++ [p]) _ (.ref S.length) (.ref p) _ (Ext.cell rh hp) (rh.alloc hp (show RC K _ _ (.lst _) p from ⟨_, upd_same, (r1.rep j.toNat).ext (Ext.cell rh hp)⟩)) (.ref (by rw [← rh.len, List.getElem?_concat_length])) q
    | _ => exact (show False from h).elim
  | _ => exact (show False from h).elim
def dNeg : D1
  | .int i, S, Q => Q (.int (-i)) S
  | _, _, _ => False
theorem dNeg_ok : Snd1 K dNeg (rU fun i => .int (-i)) := by
  intro φ H S x v P Q rh rx h k
  cases x with
  | int i => cases rx; exact ⟨i, rfl, k φ H _ _ S .refl rh (.int _) h⟩
  | _ => exact (show False from h).elim

/-! ## subscripts -/
def dIx : D2
  | .tup xs, .int i, S, Q => optD (atI xs i) fun d => Q d S
  | .str z, .int i, S, Q => z.length ≤ sizeLine ∧ match atI z.cps.toList i with | some c => Q (.str ⟨#[c]⟩) S | none => False
  | .ref n, .int i, S, Q => dLst S n fun xs => optD (atI xs i) fun d => Q d S
  | _, _, _, _ => False
theorem optD_at {o : Option D} {k : D → Prop} (h : optD o k) : ∃ d, o = some d ∧ k d := by
  cases o with
  | none => exact h.elim
  | some d => exact ⟨d, rfl, h⟩
theorem RDs.atI {φ : List Addr} {H : Hp} {ds : List D} {vs : List V} {i : Int} {d : D} (r : RDs K φ H ds vs) (h : atI ds i = some d) : ∃ v, L2.atI vs i = some v ∧ RD K φ H d v := by
  unfold L2.atI at h ⊢
  rw [← r.length]
  cases e : ixN ds.length i with
  | none => rw [e] at h; cases h
  | some j =>
    rw [e] at h
    obtain ⟨v, h1, h2⟩ := r.get (show ds[j]? = some d from h)
    exact ⟨v, h1, h2⟩
theorem dIx_ok : Snd2 K dIx (rIx K) := by
  intro φ H S x y v w P Q rh rx ry h k
  cases x with
  | tup xs =>
    cases y with
    | int i =>
      cases rx with
      | tup ha ra =>
        cases ry
        obtain ⟨d, e, q⟩ := optD_at (show optD _ _ from h)
        obtain ⟨u, e2, ru⟩ := ra.atI e
        exact .inr (.inl ⟨_, _, i, u, rfl, rfl, ha, e2, k φ H d u S .refl rh ru q⟩)
    | _ => exact (show False from h).elim
  | str z =>
    cases y with
    | int i =>
      cases rx
      cases ry
      obtain ⟨hz, q⟩ := h
      cases e : L2.atI z.cps.toList i with
      | none => rw [e] at q; exact q.elim
      | some c => rw [e] at q; exact .inr (.inr ⟨z, i, c, rfl, rfl, hz, e, k φ H _ _ S .refl rh (.str _) q⟩)
    | _ => exact (show False from h).elim
  | ref n =>
    cases y with
    | int i =>
      cases rx with
      | ref ha =>
        cases ry
        obtain ⟨xs, vs, q, hl, r⟩ := dLst_at rh ha (show dLst S n _ from h)
        obtain ⟨d, e, q⟩ := optD_at q
        obtain ⟨u, e2, ru⟩ := r.atI e
        exact .inl ⟨_, vs, i, u, rfl, rfl, hl, e2, k φ H d u S .refl rh ru q⟩
    | _ => exact (show False from h).elim
  | _ => exact (show False from h).elim

/-! ## slices a[lo:hi] -/
abbrev DTO := Env → Store → (Option Int → Store → Prop) → Prop
def liftO (K : PySem.W.Frag) (B : Base) (t : DTO) : TO := fun σ H Q => ∃ (φ : List Addr) (δ : Env) (S : Store) (P : Option Int → Store → Prop), Ext K B.φ φ B.H H ∧ RS K φ H σ δ ∧ RH K φ H S ∧ t δ S P ∧
  ∀ φ' H' o S', Ext K φ φ' H H' → RH K φ' H' S' → P o S' → Q o H'
def dNoPart (_ : Env) (S : Store) (Q : Option Int → Store → Prop) : Prop := Q none S
def dPart (t : DT) (δ : Env) (S : Store) (Q : Option Int → Store → Prop) : Prop := t δ S fun d S1 => match d with | .int i => Q (some i) S1 | _ => False
def cutD {α : Type} (xs : List α) (lo hi : Option Int) : List α := (xs.drop (HT.sIx xs.length 0 lo)).take (HT.sIx xs.length xs.length hi - HT.sIx xs.length 0 lo)
theorem RDs.cut {φ : List Addr} {H : Hp} {ds : List D} {vs : List V} (r : RDs K φ H ds vs) (lo hi : Option Int) : RDs K φ H (cutD ds lo hi) (cutV vs lo hi) := by
  unfold cutD cutV
  rw [← r.length]
  exact (r.drop _).take _
def dCut (lo hi : Option Int) : D1
  | .tup xs, S, Q => Q (.tup (cutD xs lo hi)) S
  | .str z, S, Q => z.length ≤ sizeLine ∧ Q (.str (cutS z lo hi)) S
  | .ref n, S, Q => dLst S n fun xs => Q (.ref S.length) (S ++ [.lst (cutD xs lo hi)])
  | .fz xs, S, Q => Q (.ref S.length) (S ++ [.lst (cutD xs lo hi)])
  | _, _, _ => False
def rSl (K : PySem.W.Frag) : V → Option Int → Option Int → Hp → VK → Prop := fun x lo hi H Q => rSlA K x lo hi H Q ∨ rSlS x lo hi H Q ∨ rSlL K x lo hi H Q
theorem sl_any {X : Cx} : SlR X (rSl X.K) := SlR.or sl_tupA (SlR.or sl_str sl_list)
theorem cutD_whole {α : Type} {xs : List α} {lo hi : Option Int} (h : HT.sIx xs.length 0 lo = 0 ∧ HT.sIx xs.length xs.length hi = xs.length) : cutD xs lo hi = xs := by
  unfold cutD
  rw [h.1, h.2]
  simp
theorem dCut_ok {lo hi : Option Int} : Snd1 K (dCut lo hi) (fun x H Q => rSl K x lo hi H Q) := by
  intro φ H S x v P Q rh rx h k
  cases x with
  | tup xs =>
    cases rx with
    | @tup a vs _ ha ra =>
      refine .inl ⟨_, _, rfl, ha, fun hw => ?_, fun _ p hp => ?_⟩
      · rw [← ra.length] at hw
        have q : P (.tup (cutD xs lo hi)) S := h
        rw [cutD_whole hw] at q
        exact k φ H _ _ S .refl rh (.tup ha ra) q
      · exact k φ _ _ _ S (Ext.side hp) (rh.side hp) (RDs.mk_tup hp (ra.cut lo hi)) h
  | str z =>
    cases rx
    exact .inr (.inl ⟨z, rfl, h.1, k φ H _ _ S .refl rh (.str _) h.2⟩)
  | ref n =>
    cases rx with
    | ref ha =>
      obtain ⟨xs, vs, q, hl, r⟩ := dLst_at rh ha (show dLst S n _ from h)
      refine .inr (.inr ⟨_, vs, rfl, hl, fun p hp => ?_⟩)
      exact k (φ ++ [p]) _ (.ref S.length) (.ref p) _ (Ext.cell rh hp) (rh.alloc hp (show RC K _ _ (.lst _) p from ⟨_, upd_same, (r.cut lo hi).ext (Ext.cell rh hp)⟩)) (.ref (by rw [← rh.len, List.getElem?_concat_length])) q
  | fz xs =>
    cases rx with
    | fz ha r =>
      refine .inr (.inr ⟨_, _, rfl, ha.sq, fun p hp => ?_⟩)
      exact k (φ ++ [p]) _ (.ref S.length) (.ref p) _ (Ext.cell rh hp) (rh.alloc hp (show RC K _ _ (.lst _) p from ⟨_, upd_same, (r.cut lo hi).ext (Ext.cell rh hp)⟩)) (.ref (by rw [← rh.len, List.getElem?_concat_length])) h
  | _ => exact (show False from h).elim
end

section
variable {X : Cx} {B : Base} {a b c e o : Expr} {es : List Expr} {ta tb tc : DT} {uA uB uC : DTT} {t : DTA} {pos p p2 : Pos} {lo hi : Option Expr} {tl th : DTO}
theorem de_add (ha : PE X a (lift X.K B ta)) (hb : PE X b (lift X.K B tb)) : PE X (.BinOp a .Add b pos) (lift X.K B (dOp dAdd ta tb)) := de_op dAdd_ok op_addV ha hb
theorem de_sub (ha : PE X a (lift X.K B ta)) (hb : PE X b (lift X.K B tb)) : PE X (.BinOp a .Sub b pos) (lift X.K B (dOp dSub ta tb)) := de_op dSub_ok op_sub ha hb
theorem de_mul (ha : PE X a (lift X.K B ta)) (hb : PE X b (lift X.K B tb)) : PE X (.BinOp a .Mult b pos) (lift X.K B (dOp dMul ta tb)) := de_op dMul_ok op_mulV ha hb
theorem de_fdiv (ha : PE X a (lift X.K B ta)) (hb : PE X b (lift X.K B tb)) : PE X (.BinOp a .FloorDiv b pos) (lift X.K B (dOp (dI CDivN Int.fdiv) ta tb)) := de_op dI_ok op_fdivN ha hb
theorem de_mod (ha : PE X a (lift X.K B ta)) (hb : PE X b (lift X.K B tb)) : PE X (.BinOp a .Mod b pos) (lift X.K B (dOp (dI (fun _ j => j ≠ 0) Int.fmod) ta tb)) := de_op dI_ok op_modN ha hb
theorem de_pow (ha : PE X a (lift X.K B ta)) (hb : PE X b (lift X.K B tb)) : PE X (.BinOp a .Pow b pos) (lift X.K B (dOp (dI CPow fun i j => i ^ j.toNat) ta tb)) := de_op dI_ok op_pow ha hb
theorem de_neg (ha : PE X a (lift X.K B ta)) : PE X (.UnaryOp .USub a pos) (lift X.K B (dUn dNeg ta)) := de_un dNeg_ok un_neg ha
theorem de_ix (ha : PE X a (lift X.K B ta)) (hb : PE X b (lift X.K B tb)) (hs : PlainIx b := by intro _ _; rfl) : PE X (.Subscript a b pos) (lift X.K B (dOp dIx ta tb)) :=
  PE.imp (pe_ix ix_seq ha hb hs) fun _ _ _ h => lift_op dIx_ok h
/-- of a display, not kept -/
def dIxL (t : DTA) (tb : DT) (δ : Env) (S : Store) (Q : DQ) : Prop := t δ S fun xs S1 => tb δ S1 fun y S2 => match y with | .int i => optD (atI xs i) fun d => Q d S2 | _ => False
theorem de_ixL (ha : PE X a (liftL X.K B t)) (hb : PE X b (lift X.K B tb)) (hs : PlainIx b := by intro _ _; rfl) : PE X (.Subscript a b pos) (lift X.K B (dIxL t tb)) :=
  PE.imp (pe_ix ix_list ha hb hs) fun σ H Q h => by
    obtain ⟨φ, δ, S, P, e, rs, rh, t, k⟩ := h
    refine ⟨φ, δ, S, _, e, rs, rh, t, fun φ1 H1 xs vs S1 p e1 hp np hn rh1 rx q1 => ⟨φ1, δ, S1, _, e.trans e1, rs.ext e1, rh1, q1, fun φ2 H2 y w S2 e2 rh2 ry q2 => ?_⟩⟩
    cases y with
    | int i =>
      cases ry
      obtain ⟨d, ed, q⟩ := optD_at (show optD _ _ from q2)
      obtain ⟨u, e3, ru⟩ := (rx.ext e2).atI ed
      exact ⟨p, vs, i, u, rfl, rfl, .inl (.inl (e2.out _ _ hp np)), e3, k φ2 H2 d u S2 (e1.trans e2) rh2 ru q⟩
    | _ => exact (show False from q2).elim
theorem do_none : PO X none (liftO X.K B dNoPart) := ⟨fun pins s σ H Q I h => by
  obtain ⟨φ, δ, S, P, e, rs, rh, t, k⟩ := h
  exact po_none.run pins s σ H Q I (k φ H none S .refl rh t)⟩
theorem do_some (h : PE X e (lift X.K B ta)) : PO X (some e) (liftO X.K B (dPart ta)) := ⟨fun pins s σ H Q I hq => by
  refine (po_some h).run pins s σ H Q I ?_
  obtain ⟨φ, δ, S, P, e, rs, rh, t, k⟩ := hq
  refine ⟨φ, δ, S, _, e, rs, rh, t, fun φ1 H1 x v S1 e1 rh1 rx q1 => ?_⟩
  cases x with
  | int i => cases rx; exact ⟨i, rfl, k φ1 H1 (some i) S1 e1 rh1 q1⟩
  | _ => exact (show False from q1).elim⟩
def dSl (ta : DT) (tl th : DTO) (δ : Env) (S : Store) (Q : DQ) : Prop := ta δ S fun x S1 => tl δ S1 fun l S2 => th δ S2 fun u S3 => dCut l u x S3 Q
theorem de_slice (ha : PE X a (lift X.K B ta)) (hl : PO X lo (liftO X.K B tl)) (hu : PO X hi (liftO X.K B th)) : PE X (.Subscript a (.Slice lo hi none p2) pos) (lift X.K B (dSl ta tl th)) :=
  PE.imp (pe_slice sl_any ha hl hu) fun σ H Q h => by
    obtain ⟨φ, δ, S, P, e, rs, rh, t, k⟩ := h
    exact ⟨φ, δ, S, _, e, rs, rh, t, fun φ1 H1 x v S1 e1 rh1 rx q1 => ⟨φ1, δ, S1, _, e.trans e1, rs.ext e1, rh1, q1, fun φ2 H2 l S2 e2 rh2 q2 =>
      ⟨φ2, δ, S2, _, (e.trans e1).trans e2, (rs.ext e1).ext e2, rh2, q2, fun φ3 H3 u S3 e3 rh3 q3 =>
        dCut_ok φ3 H3 S3 x v P Q rh3 ((rx.ext e2).ext e3) q3 fun φ4 H4 d w S4 e4 => k φ4 H4 d w S4 (((e1.trans e2).trans e3).trans e4)⟩⟩⟩
/-- a slice of a fresh list -/
def dSlL (t : DTA) (tl th : DTO) (δ : Env) (S : Store) (Q : List D → Store → Prop) : Prop := t δ S fun xs S1 => tl δ S1 fun l S2 => th δ S2 fun u S3 => Q (cutD xs l u) S3
theorem dl_slice (ha : PE X a (liftL X.K B t)) (hl : PO X lo (liftO X.K B tl)) (hu : PO X hi (liftO X.K B th)) : PE X (.Subscript a (.Slice lo hi none p2) pos) (liftL X.K B (dSlL t tl th)) :=
  PE.imp (pe_slice sl_list ha hl hu) fun σ H Q h => by
    obtain ⟨φ, δ, S, P, e, rs, rh, t, k⟩ := h
    refine ⟨φ, δ, S, _, e, rs, rh, t, fun φ1 H1 xs vs S1 p e1 hp np hn rh1 rx q1 => ⟨φ1, δ, S1, _, e.trans e1, rs.ext e1, rh1, q1, fun φ2 H2 l S2 e2 rh2 q2 =>
      ⟨φ2, δ, S2, _, (e.trans e1).trans e2, (rs.ext e1).ext e2, rh2, q2, fun φ3 H3 u S3 e3 rh3 q3 => ?_⟩⟩⟩
    have hp3 := e3.out _ _ (e2.out _ _ hp np) (fun z => by
      rcases e2.new _ z with z | z
      · exact np z
      · rw [hp] at z; cases z)
    have hx := (e1.trans e2).trans e3
    refine ⟨p, vs, rfl, .inl (.inl hp3), fun p2 hp2 => ?_⟩
    have rx3 := (rx.ext e2).ext e3
    exact k φ3 _ _ _ S3 p2 (hx.trans (Ext.side hp2)) upd_same (rh3.notin hp2) (rh.free rh3 hx hp2) (rh3.side hp2) ((rx3.cut l u).ext (Ext.side hp2)) q3
end
end DL

set_option Elab.async false
set_option linter.all false
set_option maxRecDepth 100000
set_option autoImplicit false
namespace DL
open PySem PySem.Spec L2

/-! ## data as a whole -/
mutual
inductive Py (S : Store) : D → PyData → Prop
  | non : Py S .non .none
  | bl (b : Bool) : Py S (.bl b) (.bool b)
  | int (i : Int) : Py S (.int i) (.int i)
  | str (x : Str) : Py S (.str x) (.str x)
  | tup {xs : List D} {ps : List PyData} : PyA S xs ps → Py S (.tup xs) (.tuple ps)
  | lst {n : Nat} {xs : List D} {ps : List PyData} : S[n]? = some (.lst xs) → PyA S xs ps → Py S (.ref n) (.list ps)
inductive PyA (S : Store) : List D → List PyData → Prop
  | nil : PyA S [] []
  | cons {d : D} {p : PyData} {ds : List D} {ps : List PyData} : Py S d p → PyA S ds ps → PyA S (d :: ds) (p :: ps)
end
section
variable {K : PySem.W.Frag} {φ : List Addr} {H : Hp} {S : Store}
mutual
theorem Py.dp (rh : RH K φ H S) : ∀ {d : D} {p : PyData} {v : V}, Py S d p → RD K φ H d v → Dp K H v p
  | _, _, _, .non, r => by cases r; exact .non
  | _, _, _, .bl b, r => by cases r; exact .bl b
  | _, _, _, .int i, r => by cases r; exact .int i
  | _, _, _, .str x, r => by cases r; exact .str x
  | _, _, _, .tup h, r => by
    cases r with
    | tup ha ra => exact .tup ha (PyA.dp rh h ra)
  | _, _, _, .lst e h, r => by
    cases r with
    | ref ha =>
      obtain ⟨b, hb, vs, e2, rs⟩ := rh.cell e
      rw [ha] at hb; cases hb
      exact .lst (.inl (.inl e2)) (PyA.dp rh h rs)
theorem PyA.dp (rh : RH K φ H S) : ∀ {ds : List D} {ps : List PyData} {vs : List V}, PyA S ds ps → RDs K φ H ds vs → DpAll K H vs ps
  | _, _, _, .nil, r => by cases r; exact .nil
  | _, _, _, .cons h t, r => by
    cases r with
    | cons r1 r2 => exact .cons (Py.dp rh h r1) (PyA.dp rh t r2)
end
end

/-! ## comparisons -/
section
variable {K : PySem.W.Frag}
def dEqP (neg : Bool) (x y : D) (S : Store) (Q : DQ) : Prop := ∃ p q, Py S x p ∧ Py S y q ∧ SeqAt.shaped p = true ∧ SeqAt.shaped q = true ∧ Q (.bl (if neg then !PyData.eqv p q else PyData.eqv p q)) S
def dEq (neg : Bool) : D2
  | .int i, .int j, S, Q => Q (.bl (if neg then !decide (i = j) else decide (i = j))) S
  | .str i, .str j, S, Q => Q (.bl (if neg then !decide (i = j) else decide (i = j))) S
  | x, y, S, Q => dEqP neg x y S Q
theorem dEqP_of {neg : Bool} {x y : D} {S : Store} {Q : DQ} (h : dEqP neg x y S Q) : dEq neg x y S Q := by
  obtain ⟨p, q, hx, hy, s1, s2, k⟩ := h
  unfold dEq
  split
  · cases hx; cases hy; simpa [PyData.eqv, Bool.beq_eq_decide_eq] using k
  · cases hx; cases hy; simpa [PyData.eqv, Bool.beq_eq_decide_eq] using k
  · exact ⟨p, q, hx, hy, s1, s2, k⟩
def rEqV (K : PySem.W.Frag) : R2 := fun x y H Q => rEq x y H Q ∨ rEqD K x y H Q
def rNeV (K : PySem.W.Frag) : R2 := fun x y H Q => rNe x y H Q ∨ rNeD K x y H Q
theorem dEq_ok : Snd2 K (dEq false) (rEqV K) := by
  intro φ H S x y v w P Q rh rx ry h k
  have gen : dEqP false x y S P → rEqV K v w H Q := fun ⟨p, q, hx, hy, s1, s2, h⟩ => .inr ⟨p, q, hx.dp rh rx, hy.dp rh ry, s1, s2, k φ H _ _ S .refl rh (.bl _) h⟩
  unfold dEq at h
  split at h
  · cases rx; cases ry
    exact .inl ⟨rfl, by have := k φ H _ (.bl _) S .refl rh (.bl _) h; simpa using this⟩
  · cases rx; cases ry
    exact .inl ⟨rfl, by have := k φ H _ (.bl _) S .refl rh (.bl _) h; simpa using this⟩
  · exact gen h
theorem dNe_ok : Snd2 K (dEq true) (rNeV K) := by
  intro φ H S x y v w P Q rh rx ry h k
  have gen : dEqP true x y S P → rNeV K v w H Q := fun ⟨p, q, hx, hy, s1, s2, h⟩ => .inr ⟨p, q, hx.dp rh rx, hy.dp rh ry, s1, s2, k φ H _ _ S .refl rh (.bl _) h⟩
  unfold dEq at h
  split at h
  · cases rx; cases ry
    exact .inl ⟨rfl, by have := k φ H _ (.bl _) S .refl rh (.bl _) h; simpa using this⟩
  · cases rx; cases ry
    exact .inl ⟨rfl, by have := k φ H _ (.bl _) S .refl rh (.bl _) h; simpa using this⟩
  · exact gen h
/-- an order of ints, and of texts by their codes -/
def dOrd (f : Int → Int → Bool) (g : List Nat → List Nat → Bool) : D2
  | .int i, .int j, S, Q => Q (.bl (f i j)) S
  | .str i, .str j, S, Q => Q (.bl (g i.cps.toList j.cps.toList)) S
  | _, _, _, _ => False
def rOrd (f : Int → Int → Bool) (g : List Nat → List Nat → Bool) : R2 := fun x y H Q => rI0 (fun i j => .bl (f i j)) x y H Q ∨ ∃ i j, x = .str i ∧ y = .str j ∧ Q (.bl (g i.cps.toList j.cps.toList)) H
theorem dOrd_ok {f : Int → Int → Bool} {g : List Nat → List Nat → Bool} : Snd2 K (dOrd f g) (rOrd f g) := by
  intro φ H S x y v w P Q rh rx ry h k
  unfold dOrd at h
  split at h
  · cases rx; cases ry; exact .inl ⟨_, _, rfl, rfl, k φ H _ _ S .refl rh (.bl _) h⟩
  · cases rx; cases ry; exact .inr ⟨_, _, rfl, rfl, k φ H _ _ S .refl rh (.bl _) h⟩
  · exact h.elim
def dLt : D2 := dOrd (fun i j => decide (i < j)) (fun a b => decide (a < b))
def dLe : D2 := dOrd (fun i j => decide (i ≤ j)) (fun a b => !decide (b < a))
def dGt : D2 := dOrd (fun i j => decide (j < i)) (fun a b => decide (b < a))
def dGe : D2 := dOrd (fun i j => decide (j ≤ i)) (fun a b => !decide (a < b))
/-- is None -/
def dIsN (neg : Bool) : D2
  | .non, .non, S, Q => Q (.bl (!neg)) S
  | .bl _, .non, S, Q => Q (.bl neg) S
  | .int _, .non, S, Q => Q (.bl neg) S
  | .str _, .non, S, Q => Q (.bl neg) S
  | .tup _, .non, S, Q => Q (.bl neg) S
  | .ref _, .non, S, Q => Q (.bl neg) S
  | .fz _, .non, S, Q => Q (.bl neg) S
  | _, _, _, _ => False
theorem dIsN_ok : Snd2 K (dIsN false) (fun x y H Q => y = .non ∧ Q (.bl (decide (x = .non))) H) := by
  intro φ H S x y v w P Q rh rx ry h k
  unfold dIsN at h
  split at h <;> first | exact h.elim | skip
  all_goals cases rx; cases ry; refine ⟨rfl, ?_⟩; have := k φ H _ (.bl _) S .refl rh (.bl _) h; simpa using this
theorem dNotN_ok : Snd2 K (dIsN true) (fun x y H Q => y = .non ∧ Q (.bl (!decide (x = .non))) H) := by
  intro φ H S x y v w P Q rh rx ry h k
  unfold dIsN at h
  split at h <;> first | exact h.elim | skip
  all_goals cases rx; cases ry; refine ⟨rfl, ?_⟩; have := k φ H _ (.bl _) S .refl rh (.bl _) h; simpa using this
/-- in: a text in a text -/
def dIn (neg : Bool) : D2
  | .str i, .str j, S, Q => Q (.bl (if neg then !(!(Builtin.Str.occurrences j i 0 j.length 1).isEmpty) else !(Builtin.Str.occurrences j i 0 j.length 1).isEmpty)) S
  | _, _, _, _ => False
theorem dInS_ok : Snd2 K (dIn false) (fun x y H Q => ∃ i j, x = .str i ∧ y = .str j ∧ Q (.bl (!(Builtin.Str.occurrences j i 0 j.length 1).isEmpty)) H) := by
  intro φ H S x y v w P Q rh rx ry h k
  unfold dIn at h
  split at h
  · cases rx; cases ry; exact ⟨_, _, rfl, rfl, k φ H _ _ S .refl rh (.bl _) h⟩
  · exact h.elim
theorem dNotInS_ok : Snd2 K (dIn true) (fun x y H Q => ∃ i j, x = .str i ∧ y = .str j ∧ Q (.bl (!(!(Builtin.Str.occurrences j i 0 j.length 1).isEmpty))) H) := by
  intro φ H S x y v w P Q rh rx ry h k
  unfold dIn at h
  split at h
  · cases rx; cases ry; exact ⟨_, _, rfl, rfl, k φ H _ _ S .refl rh (.bl _) h⟩
  · exact h.elim
end

/-! ## tests -/
def bIf (b : Bool) (x y : Prop) : Prop := match b with | true => x | false => y
def isB : D → (Bool → Prop) → Prop
  | .bl b, k => k b
  | _, _ => False
def dTest (t : DT) (δ : Env) (S : Store) (Q : Bool → Store → Prop) : Prop := t δ S fun d S1 => isB d fun b => Q b S1
def dTru (S : Store) (Q : Bool → Store → Prop) : D → Prop
  | .non => Q false S
  | .bl b => Q b S
  | .int i => Q (i != 0) S
  | .str y => y.length ≤ sizeLine ∧ Q ((y.length : Int) != 0) S
  | .tup xs => Q (!xs.isEmpty) S
  | .ref n => dLst S n fun xs => Q (!xs.isEmpty) S
  | .fz xs => Q (!xs.isEmpty) S
  | .obj _ _ _ => False
def dTruth (t : DT) (δ : Env) (S : Store) (Q : Bool → Store → Prop) : Prop := t δ S fun d S1 => dTru S1 Q d
def dAndT (t u : DTT) (δ : Env) (S : Store) (Q : Bool → Store → Prop) : Prop := t δ S fun c S1 => bIf c (u δ S1 Q) (Q false S1)
def dOrT (t u : DTT) (δ : Env) (S : Store) (Q : Bool → Store → Prop) : Prop := t δ S fun c S1 => bIf c (Q true S1) (u δ S1 Q)
def dNotT (t : DTT) (δ : Env) (S : Store) (Q : Bool → Store → Prop) : Prop := t δ S fun c S1 => Q (!c) S1
def dAnd (t u : DT) (δ : Env) (S : Store) (Q : DQ) : Prop := t δ S fun d S1 => isB d fun c => bIf c (u δ S1 Q) (Q (.bl false) S1)
def dOr (t u : DT) (δ : Env) (S : Store) (Q : DQ) : Prop := t δ S fun d S1 => isB d fun c => bIf c (Q (.bl true) S1) (u δ S1 Q)
def dNot (t : DT) (δ : Env) (S : Store) (Q : DQ) : Prop := t δ S fun d S1 => isB d fun c => Q (.bl (!c)) S1
def dIf (c : DTT) (t u : DT) (δ : Env) (S : Store) (Q : DQ) : Prop := c δ S fun b S1 => bIf b (t δ S1 Q) (u δ S1 Q)
def dChain (r r' : D2) (ta tb tc : DT) (δ : Env) (S : Store) (Q : DQ) : Prop := ta δ S fun x S1 => tb δ S1 fun y S2 => r x y S2 fun z S3 => isB z fun k => bIf k (tc δ S3 fun w S4 => r' y w S4 Q) (Q (.bl false) S3)
section
variable {X : Cx} {B : Base} {a b c e o : Expr} {rest : List Expr} {ta tb tc : DT} {uA uB uC : DTT} {pos p p2 : Pos}
theorem isBl' {φ : List Addr} {H : Hp} {K : PySem.W.Frag} {d : D} {v : V} {x : Bool → Prop} (r : RD K φ H d v) (h : isB d x) : ∃ b, d = .bl b ∧ v = .bl b ∧ x b := by
  cases d with
  | bl b => cases r; exact ⟨b, rfl, rfl, h⟩
  | _ => exact (show False from h).elim
theorem lift_test {t : DT} {σ : L2.St} {H : Hp} {Q : Bool → Hp → Prop} (h : liftT X.K B (dTest t) σ H Q) : lift X.K B t σ H (fun x H' => ∃ k, x = .bl k ∧ Q k H') := by
  obtain ⟨φ, δ, S, P, e, rs, rh, t, k⟩ := h
  refine ⟨φ, δ, S, _, e, rs, rh, t, fun φ1 H1 x v S1 e1 rh1 rx q1 => ?_⟩
  obtain ⟨b, rfl, rfl, q⟩ := isBl' rx q1
  exact ⟨b, rfl, k φ1 H1 b S1 e1 rh1 q⟩
theorem dt_val (h : PE X e (lift X.K B ta)) (he : ∀ whole, isTrue e X.env whole = (do let v ← whole; standAt e.pos; holding [v] (truthy v)) := by intro _; rfl) : PT X e (liftT X.K B (dTruth ta)) :=
  PT.imp (pt_truth h he) fun σ H Q h => by
    obtain ⟨φ, δ, S, P, e, rs, rh, t, k⟩ := h
    refine ⟨φ, δ, S, _, e, rs, rh, t, fun φ1 H1 x v S1 e1 rh1 rx q1 => ?_⟩
    cases rx with
    | non => exact ⟨false, rfl, k φ1 H1 _ S1 e1 rh1 q1⟩
    | bl b => exact ⟨b, rfl, k φ1 H1 _ S1 e1 rh1 q1⟩
    | int i => exact ⟨_, rfl, k φ1 H1 _ S1 e1 rh1 q1⟩
    | str i => exact ⟨_, ⟨q1.1, rfl⟩, k φ1 H1 _ S1 e1 rh1 q1.2⟩
    | obj _ _ => exact (show False from q1).elim
    | @tup a vs ds ha ra =>
      have hh : (!ds.isEmpty) = !vs.isEmpty := by cases ra <;> rfl
      exact ⟨!ds.isEmpty, .inr (.inl ⟨vs, ha, hh⟩), k φ1 H1 _ S1 e1 rh1 q1⟩
    | ref ha =>
      obtain ⟨xs, vs, q, hl, r⟩ := dLst_at rh1 ha (show dLst S1 _ _ from q1)
      have hh : (!xs.isEmpty) = !vs.isEmpty := by cases r <;> rfl
      exact ⟨!xs.isEmpty, .inl ⟨vs, hl, hh⟩, k φ1 H1 _ S1 e1 rh1 q⟩
    | @fz a vs xs ha r =>
      have hh : (!xs.isEmpty) = !vs.isEmpty := by cases r <;> rfl
      exact ⟨!xs.isEmpty, .inl ⟨vs, ha.sq, hh⟩, k φ1 H1 _ S1 e1 rh1 q1⟩
theorem dt_cmp {op : CmpOp} {r : D2} {r' : R2} (s : Snd2 X.K r r') (ho : OpR X (compareOp op) r') (ha : PE X a (lift X.K B ta)) (hb : PE X b (lift X.K B tb)) (hm : behindInMarks op b = false) : PT X (.Compare a [op] [b] pos) (liftT X.K B (dTest (dOp r ta tb))) :=
  PT.imp (pt_cmpR ho ha hb hm) fun σ H Q h => by
    obtain ⟨φ, δ, S, P, e, rs, rh, t, k⟩ := lift_test h
    exact lift_op s ⟨φ, δ, S, P, e, rs, rh, t, k⟩
theorem de_cmp {op : CmpOp} {r : D2} {r' : R2} (s : Snd2 X.K r r') (ho : OpR X (compareOp op) r') (ha : PE X a (lift X.K B ta)) (hb : PE X b (lift X.K B tb)) (hm : behindInMarks op b = false) : PE X (.Compare a [op] [b] pos) (lift X.K B (dOp r ta tb)) :=
  PE.imp (pe_cmpR ho ha hb hm) fun σ H Q h => lift_op s h
theorem op_ordLt : OpR X (compareOp .Lt) (rOrd (fun i j => decide (i < j)) fun a b => decide (a < b)) := OpR.or op_lt op_lt_str
theorem op_ordLe : OpR X (compareOp .LtE) (rOrd (fun i j => decide (i ≤ j)) fun a b => !decide (b < a)) := OpR.or op_le op_le_str
theorem op_ordGt : OpR X (compareOp .Gt) (rOrd (fun i j => decide (j < i)) fun a b => decide (b < a)) := OpR.or op_gt op_gt_str
theorem op_ordGe : OpR X (compareOp .GtE) (rOrd (fun i j => decide (j ≤ i)) fun a b => !decide (a < b)) := OpR.or op_ge op_ge_str
theorem de_lt (ha : PE X a (lift X.K B ta)) (hb : PE X b (lift X.K B tb)) : PE X (.Compare a [.Lt] [b] pos) (lift X.K B (dOp dLt ta tb)) := de_cmp dOrd_ok op_ordLt ha hb (nomark _)
theorem de_le (ha : PE X a (lift X.K B ta)) (hb : PE X b (lift X.K B tb)) : PE X (.Compare a [.LtE] [b] pos) (lift X.K B (dOp dLe ta tb)) := de_cmp dOrd_ok op_ordLe ha hb (nomark _)
theorem de_gt (ha : PE X a (lift X.K B ta)) (hb : PE X b (lift X.K B tb)) : PE X (.Compare a [.Gt] [b] pos) (lift X.K B (dOp dGt ta tb)) := de_cmp dOrd_ok op_ordGt ha hb (nomark _)
theorem de_ge (ha : PE X a (lift X.K B ta)) (hb : PE X b (lift X.K B tb)) : PE X (.Compare a [.GtE] [b] pos) (lift X.K B (dOp dGe ta tb)) := de_cmp dOrd_ok op_ordGe ha hb (nomark _)
theorem dt_lt (ha : PE X a (lift X.K B ta)) (hb : PE X b (lift X.K B tb)) : PT X (.Compare a [.Lt] [b] pos) (liftT X.K B (dTest (dOp dLt ta tb))) := dt_cmp dOrd_ok op_ordLt ha hb (nomark _)
theorem dt_le (ha : PE X a (lift X.K B ta)) (hb : PE X b (lift X.K B tb)) : PT X (.Compare a [.LtE] [b] pos) (liftT X.K B (dTest (dOp dLe ta tb))) := dt_cmp dOrd_ok op_ordLe ha hb (nomark _)
theorem dt_gt (ha : PE X a (lift X.K B ta)) (hb : PE X b (lift X.K B tb)) : PT X (.Compare a [.Gt] [b] pos) (liftT X.K B (dTest (dOp dGt ta tb))) := dt_cmp dOrd_ok op_ordGt ha hb (nomark _)
theorem dt_ge (ha : PE X a (lift X.K B ta)) (hb : PE X b (lift X.K B tb)) : PT X (.Compare a [.GtE] [b] pos) (liftT X.K B (dTest (dOp dGe ta tb))) := dt_cmp dOrd_ok op_ordGe ha hb (nomark _)
theorem op_eqV (hu : X.A.units + 64 < cLine) : OpR X (compareOp .Eq) (rEqV X.K) := OpR.or op_eq (op_eqD hu)
theorem op_neV (hu : X.A.units + 64 < cLine) : OpR X (compareOp .NotEq) (rNeV X.K) := OpR.or op_ne (op_neD hu)
theorem de_eq {k : Nat} (hr : Room k X.A) (ha : PE X a (lift X.K B ta)) (hb : PE X b (lift X.K B tb)) : PE X (.Compare a [.Eq] [b] pos) (lift X.K B (dOp (dEq false) ta tb)) := de_cmp dEq_ok (op_eqV hr.units) ha hb (nomark _)
theorem de_ne {k : Nat} (hr : Room k X.A) (ha : PE X a (lift X.K B ta)) (hb : PE X b (lift X.K B tb)) : PE X (.Compare a [.NotEq] [b] pos) (lift X.K B (dOp (dEq true) ta tb)) := de_cmp dNe_ok (op_neV hr.units) ha hb (nomark _)
theorem dt_eq {k : Nat} (hr : Room k X.A) (ha : PE X a (lift X.K B ta)) (hb : PE X b (lift X.K B tb)) : PT X (.Compare a [.Eq] [b] pos) (liftT X.K B (dTest (dOp (dEq false) ta tb))) := dt_cmp dEq_ok (op_eqV hr.units) ha hb (nomark _)
theorem dt_ne {k : Nat} (hr : Room k X.A) (ha : PE X a (lift X.K B ta)) (hb : PE X b (lift X.K B tb)) : PT X (.Compare a [.NotEq] [b] pos) (liftT X.K B (dTest (dOp (dEq true) ta tb))) := dt_cmp dNe_ok (op_neV hr.units) ha hb (nomark _)
theorem de_isN (ha : PE X a (lift X.K B ta)) (hb : PE X b (lift X.K B tb)) : PE X (.Compare a [.Is] [b] pos) (lift X.K B (dOp (dIsN false) ta tb)) := de_cmp dIsN_ok op_isN ha hb (nomark _)
theorem de_notN (ha : PE X a (lift X.K B ta)) (hb : PE X b (lift X.K B tb)) : PE X (.Compare a [.IsNot] [b] pos) (lift X.K B (dOp (dIsN true) ta tb)) := de_cmp dNotN_ok op_notN ha hb (nomark _)
theorem dt_isN (ha : PE X a (lift X.K B ta)) (hb : PE X b (lift X.K B tb)) : PT X (.Compare a [.Is] [b] pos) (liftT X.K B (dTest (dOp (dIsN false) ta tb))) := dt_cmp dIsN_ok op_isN ha hb (nomark _)
theorem dt_notN (ha : PE X a (lift X.K B ta)) (hb : PE X b (lift X.K B tb)) : PT X (.Compare a [.IsNot] [b] pos) (liftT X.K B (dTest (dOp (dIsN true) ta tb))) := dt_cmp dNotN_ok op_notN ha hb (nomark _)
theorem de_inS (ha : PE X a (lift X.K B ta)) (hb : PE X b (lift X.K B tb)) (hm : behindInMarks .In b = false := by rfl) : PE X (.Compare a [.In] [b] pos) (lift X.K B (dOp (dIn false) ta tb)) := de_cmp dInS_ok op_in_str ha hb hm
theorem de_notInS (ha : PE X a (lift X.K B ta)) (hb : PE X b (lift X.K B tb)) (hm : behindInMarks .NotIn b = false := by rfl) : PE X (.Compare a [.NotIn] [b] pos) (lift X.K B (dOp (dIn true) ta tb)) := de_cmp dNotInS_ok op_notIn_str ha hb hm
theorem dt_inS (ha : PE X a (lift X.K B ta)) (hb : PE X b (lift X.K B tb)) (hm : behindInMarks .In b = false := by rfl) : PT X (.Compare a [.In] [b] pos) (liftT X.K B (dTest (dOp (dIn false) ta tb))) := dt_cmp dInS_ok op_in_str ha hb hm
theorem dt_notInS (ha : PE X a (lift X.K B ta)) (hb : PE X b (lift X.K B tb)) (hm : behindInMarks .NotIn b = false := by rfl) : PT X (.Compare a [.NotIn] [b] pos) (liftT X.K B (dTest (dOp (dIn true) ta tb))) := dt_cmp dNotInS_ok op_notIn_str ha hb hm
theorem dw_and1 (ha : PT X a (liftT X.K B uA)) : PW X (.BoolOp .And [a] pos) (liftT X.K B uA) := pw_and1 ha
theorem dw_or1 (ha : PT X a (liftT X.K B uA)) : PW X (.BoolOp .Or [a] pos) (liftT X.K B uA) := pw_or1 ha
theorem dw_and (ha : PT X a (liftT X.K B uA)) (hb : PW X (.BoolOp .And (b :: rest) pos) (liftT X.K B uB)) : PW X (.BoolOp .And (a :: b :: rest) pos) (liftT X.K B (dAndT uA uB)) :=
  PW.imp (pw_and ha hb) fun σ H Q h => by
    obtain ⟨φ, δ, S, P, e, rs, rh, t, k⟩ := h
    refine ⟨φ, δ, S, _, e, rs, rh, t, fun φ1 H1 x S1 e1 rh1 q1 => ?_⟩
    cases x with
    | true => exact iteT ⟨φ1, δ, S1, _, e.trans e1, rs.ext e1, rh1, q1, fun φ2 H2 d S2 e2 => k φ2 H2 d S2 (e1.trans e2)⟩
    | false => exact iteF (k φ1 H1 false S1 e1 rh1 q1)
theorem dw_or (ha : PT X a (liftT X.K B uA)) (hb : PW X (.BoolOp .Or (b :: rest) pos) (liftT X.K B uB)) : PW X (.BoolOp .Or (a :: b :: rest) pos) (liftT X.K B (dOrT uA uB)) :=
  PW.imp (pw_or ha hb) fun σ H Q h => by
    obtain ⟨φ, δ, S, P, e, rs, rh, t, k⟩ := h
    refine ⟨φ, δ, S, _, e, rs, rh, t, fun φ1 H1 x S1 e1 rh1 q1 => ?_⟩
    cases x with
    | false => exact iteF ⟨φ1, δ, S1, _, e.trans e1, rs.ext e1, rh1, q1, fun φ2 H2 d S2 e2 => k φ2 H2 d S2 (e1.trans e2)⟩
    | true => exact iteT (k φ1 H1 true S1 e1 rh1 q1)
theorem dt_not (ha : PT X a (liftT X.K B uA)) : PT X (.UnaryOp .Not a pos) (liftT X.K B (dNotT uA)) :=
  PT.imp (pt_not ha) fun σ H Q h => by
    obtain ⟨φ, δ, S, P, e, rs, rh, t, k⟩ := h
    exact ⟨φ, δ, S, _, e, rs, rh, t, fun φ1 H1 x S1 e1 rh1 q1 => k φ1 H1 (!x) S1 e1 rh1 q1⟩
theorem de_one {op} (h : PE X a (lift X.K B ta)) : PE X (.BoolOp op [a] pos) (lift X.K B ta) := pe_one h
theorem de_and (ha : PE X a (lift X.K B ta)) (hb : PE X (.BoolOp .And (b :: rest) pos) (lift X.K B tb)) : PE X (.BoolOp .And (a :: b :: rest) pos) (lift X.K B (dAnd ta tb)) :=
  PE.imp (pe_and ha hb) fun σ H Q h => by
    obtain ⟨φ, δ, S, P, e, rs, rh, t, k⟩ := h
    refine ⟨φ, δ, S, _, e, rs, rh, t, fun φ1 H1 x v S1 e1 rh1 rx q1 => ?_⟩
    obtain ⟨c, rfl, rfl, q⟩ := isBl' rx q1
    refine ⟨c, rfl, ?_⟩
    cases c with
    | true => exact iteT ⟨φ1, δ, S1, _, e.trans e1, rs.ext e1, rh1, q, fun φ2 H2 d v S2 e2 => k φ2 H2 d v S2 (e1.trans e2)⟩
    | false => exact iteF (k φ1 H1 _ _ S1 e1 rh1 (.bl false) q)
theorem de_or (ha : PE X a (lift X.K B ta)) (hb : PE X (.BoolOp .Or (b :: rest) pos) (lift X.K B tb)) : PE X (.BoolOp .Or (a :: b :: rest) pos) (lift X.K B (dOr ta tb)) :=
  PE.imp (pe_or ha hb) fun σ H Q h => by
    obtain ⟨φ, δ, S, P, e, rs, rh, t, k⟩ := h
    refine ⟨φ, δ, S, _, e, rs, rh, t, fun φ1 H1 x v S1 e1 rh1 rx q1 => ?_⟩
    obtain ⟨c, rfl, rfl, q⟩ := isBl' rx q1
    refine ⟨c, rfl, ?_⟩
    cases c with
    | false => exact iteF ⟨φ1, δ, S1, _, e.trans e1, rs.ext e1, rh1, q, fun φ2 H2 d v S2 e2 => k φ2 H2 d v S2 (e1.trans e2)⟩
    | true => exact iteT (k φ1 H1 _ _ S1 e1 rh1 (.bl true) q)
theorem de_not (ha : PE X a (lift X.K B ta)) : PE X (.UnaryOp .Not a pos) (lift X.K B (dNot ta)) :=
  PE.imp (pe_not ha) fun σ H Q h => by
    obtain ⟨φ, δ, S, P, e, rs, rh, t, k⟩ := h
    refine ⟨φ, δ, S, _, e, rs, rh, t, fun φ1 H1 x v S1 e1 rh1 rx q1 => ?_⟩
    obtain ⟨c, rfl, rfl, q⟩ := isBl' rx q1
    exact ⟨c, rfl, k φ1 H1 _ _ S1 e1 rh1 (.bl _) q⟩
theorem de_if (hc : PT X c (liftT X.K B uC)) (ha : PE X a (lift X.K B ta)) (hb : PE X b (lift X.K B tb)) : PE X (.IfExp c a b pos) (lift X.K B (dIf uC ta tb)) :=
  PE.imp (pe_ifExp hc ha hb) fun σ H Q h => by
    obtain ⟨φ, δ, S, P, e, rs, rh, t, k⟩ := h
    refine ⟨φ, δ, S, _, e, rs, rh, t, fun φ1 H1 x S1 e1 rh1 q1 => ?_⟩
    cases x with
    | true => exact iteT ⟨φ1, δ, S1, _, e.trans e1, rs.ext e1, rh1, q1, fun φ2 H2 d v S2 e2 => k φ2 H2 d v S2 (e1.trans e2)⟩
    | false => exact iteF ⟨φ1, δ, S1, _, e.trans e1, rs.ext e1, rh1, q1, fun φ2 H2 d v S2 e2 => k φ2 H2 d v S2 (e1.trans e2)⟩
theorem lift_chain {r r' : D2} {s s' : R2} (h1 : Snd2 X.K r s) (h2 : Snd2 X.K r' s') {σ : L2.St} {H : Hp} {Q : VK} (h : lift X.K B (dChain r r' ta tb tc) σ H Q) : tChain s s' (lift X.K B ta) (lift X.K B tb) (lift X.K B tc) σ H Q := by
  obtain ⟨φ, δ, S, P, e, rs, rh, t, k⟩ := h
  refine ⟨φ, δ, S, _, e, rs, rh, t, fun φ1 H1 x v S1 e1 rh1 rx q1 => ⟨φ1, δ, S1, _, e.trans e1, rs.ext e1, rh1, q1, fun φ2 H2 y w S2 e2 rh2 ry q2 => ?_⟩⟩
  refine h1 φ2 H2 S2 x y v w _ _ rh2 (rx.ext e2) ry q2 fun φ3 H3 d u S3 e3 rh3 rd q3 => ?_
  obtain ⟨c, rfl, rfl, q⟩ := isBl' rd q3
  refine ⟨c, rfl, ?_⟩
  have e123 := (e1.trans e2).trans e3
  cases c with
  | false => exact iteF (k φ3 H3 _ _ S3 e123 rh3 (.bl false) q)
  | true => exact iteT ⟨φ3, δ, S3, _, e.trans e123, rs.ext e123, rh3, q, fun φ4 H4 z w4 S4 e4 rh4 rz q4 => h2 φ4 H4 S4 y z w w4 P Q rh4 ((ry.ext e3).ext e4) rz q4 fun φ5 H5 d u S5 e5 => k φ5 H5 d u S5 ((e123.trans e4).trans e5)⟩
theorem de_chain {op op' : CmpOp} {r r' : D2} {s s' : R2} (h1 : Snd2 X.K r s) (h2 : Snd2 X.K r' s') (ho : OpR X (compareOp op) s) (ho' : OpR X (compareOp op') s') (ha : PE X a (lift X.K B ta)) (hb : PE X b (lift X.K B tb)) (hc : PE X c (lift X.K B tc))
    (hm : lastMarks [op, op'] [b, c] = false := by with_unfolding_all rfl) : PE X (.Compare a [op, op'] [b, c] pos) (lift X.K B (dChain r r' ta tb tc)) :=
  PE.imp (pe_chain ho ho' ha hb hc hm) fun σ H Q h => lift_chain h1 h2 h
theorem dt_chain {op op' : CmpOp} {r r' : D2} {s s' : R2} (h1 : Snd2 X.K r s) (h2 : Snd2 X.K r' s') (ho : OpR X (compareOp op) s) (ho' : OpR X (compareOp op') s') (ha : PE X a (lift X.K B ta)) (hb : PE X b (lift X.K B tb)) (hc : PE X c (lift X.K B tc))
    (hm : lastMarks [op, op'] [b, c] = false := by with_unfolding_all rfl) : PT X (.Compare a [op, op'] [b, c] pos) (liftT X.K B (dTest (dChain r r' ta tb tc))) :=
  PT.imp (pt_chain ho ho' ha hb hc hm) fun σ H Q h => by
    have h := lift_test h
    exact lift_chain h1 h2 h
theorem de_chainLe (ha : PE X a (lift X.K B ta)) (hb : PE X b (lift X.K B tb)) (hc : PE X c (lift X.K B tc)) (hm : lastMarks [.LtE, .LtE] [b, c] = false := by with_unfolding_all rfl) : PE X (.Compare a [.LtE, .LtE] [b, c] pos) (lift X.K B (dChain dLe dLe ta tb tc)) :=
  de_chain dOrd_ok dOrd_ok op_ordLe op_ordLe ha hb hc hm
theorem dt_chainLe (ha : PE X a (lift X.K B ta)) (hb : PE X b (lift X.K B tb)) (hc : PE X c (lift X.K B tc)) (hm : lastMarks [.LtE, .LtE] [b, c] = false := by with_unfolding_all rfl) : PT X (.Compare a [.LtE, .LtE] [b, c] pos) (liftT X.K B (dTest (dChain dLe dLe ta tb tc))) :=
  dt_chain dOrd_ok dOrd_ok op_ordLe op_ordLe ha hb hc hm
end
end DL

set_option Elab.async false
set_option linter.all false
set_option maxRecDepth 100000
set_option autoImplicit false
namespace DL
open PySem PySem.Spec L2

/-! ## targets -/
inductive Tg where
  | nm (i : Nat)
  | tp (is : List Nat)
def gsN : List Nat → TGs
  | [] => gNil
  | i :: r => gCons (gName i) (gsN r)
def gOf (K : PySem.W.Frag) : Tg → TG
  | .nm i => gName i
  | .tp is => gTup K is.length (gsN is)
def dSets : List Nat → List D → Env → Option Env
  | [], [], δ => some δ
  | i :: is, d :: ds, δ => dSets is ds (δ.set i (some d))
  | _, _, _ => none
def dBind : Tg → D → Env → Option Env
  | .nm i, d, δ => some (δ.set i (some d))
  | .tp is, .tup ds, δ => dSets is ds δ
  | .tp _, _, _ => none
def optE : Option Env → (Env → Prop) → Prop
  | some δ, k => k δ
  | none, _ => False
def Tg.slots : Tg → List Nat
  | .nm i => [i]
  | .tp is => is
theorem wipe_set {σ : L2.St} {i : Nat} {o : Option V} : ∀ {vs : List Nat}, i ∈ vs → wipe (σ.set i o) vs = wipe σ vs
  | [], h => absurd h List.not_mem_nil
  | v :: vs, h => by
    show (wipe (σ.set i o) vs).set v none = (wipe σ vs).set v none
    by_cases hv : i ∈ vs
    · rw [wipe_set hv]
    · have e : v = i := by
        rcases List.mem_cons.mp h with z | z
        · exact z.symm
        · exact absurd z hv
      subst e
      clear h
      have aux : ∀ (ws : List Nat), v ∉ ws → wipe (σ.set v o) ws = (wipe σ ws).set v o := by
        intro ws
        induction ws with
        | nil => intro _; rfl
        | cons w ws ih =>
          intro hw
          rw [List.mem_cons, not_or] at hw
          show (wipe (σ.set v o) ws).set w none = ((wipe σ ws).set w none).set v o
          rw [ih hw.2, List.set_comm _ _ hw.1]
      rw [aux vs hv, List.set_set]
section
variable {K : PySem.W.Frag} {φ : List Addr} {H : Hp}
theorem sets_ok {Q : L2.St → Hp → Prop} : ∀ {is : List Nat} {ds : List D} {vs : List V} {σ : L2.St} {δ δ' : Env}, RS K φ H σ δ → RDs K φ H ds vs → dSets is ds δ = some δ' →
    (∀ σ', RS K φ H σ' δ' → (∀ ws : List Nat, (∀ i ∈ is, i ∈ ws) → wipe σ' ws = wipe σ ws) → Q σ' H) → gsN is vs σ H Q
  | [], [], _, σ, δ, δ', rs, r, e, k => by
    cases r
    have e' : δ = δ' := Option.some.inj e
    subst e'
    exact ⟨rfl, k σ rs fun _ _ => rfl⟩
  | i :: is, d :: ds, _, σ, δ, δ', rs, r, e, k => by
    cases r with
    | cons h r =>
      refine ⟨_, _, rfl, ?_⟩
      exact sets_ok (is := is) (rs.set h i) r e fun σ' rs' hw => k σ' rs' fun ws hi => by
        rw [hw ws fun j hj => hi j (List.mem_cons_of_mem _ hj), wipe_set (hi i List.mem_cons_self)]
  | [], _ :: _, _, _, _, _, _, _, e, _ => nomatch e
  | _ :: _, [], _, _, _, _, _, _, e, _ => nomatch e
theorem dSets_len : ∀ {is : List Nat} {ds : List D} {δ δ' : Env}, dSets is ds δ = some δ' → ds.length = is.length
  | [], [], _, _, _ => rfl
  | i :: is, d :: ds, δ, δ', e => by rw [List.length_cons, List.length_cons, dSets_len (is := is) e]
  | [], _ :: _, _, _, e => nomatch e
  | _ :: _, [], _, _, e => nomatch e
theorem bind_ok {t : Tg} {d : D} {v : V} {σ : L2.St} {δ δ' : Env} {Q : L2.St → Hp → Prop} (rs : RS K φ H σ δ) (r : RD K φ H d v) (e : dBind t d δ = some δ')
    (k : ∀ σ', RS K φ H σ' δ' → (∀ ws : List Nat, (∀ i ∈ t.slots, i ∈ ws) → wipe σ' ws = wipe σ ws) → Q σ' H) : gOf K t v σ H Q := by
  cases t with
  | nm i =>
    have e' : δ.set i (some d) = δ' := Option.some.inj e
    subst e'
    exact k _ (rs.set r i) fun ws hi => wipe_set (hi i List.mem_cons_self)
  | tp is =>
    cases d with
    | tup ds =>
      cases r with
      | tup ha ra =>
        have e' : dSets is ds δ = some δ' := e
        exact ⟨_, _, rfl, ha, by rw [← ra.length]; exact dSets_len e', sets_ok rs ra e' k⟩
    | _ => exact nomatch e
end
theorem optE_at {o : Option Env} {k : Env → Prop} (h : optE o k) : ∃ δ, o = some δ ∧ k δ := by
  cases o with
  | none => exact h.elim
  | some d => exact ⟨d, rfl, h⟩

/-! ## what is walked -/
structure Yl (K : PySem.W.Frag) (J : It) (φ0 : List Addr) (H0 : Hp) (xs : List D) (gd : Store → Prop) : Prop where
  go : ∀ φ H S i d, Ext K φ0 φ H0 H → RH K φ H S → gd S → xs[i]? = some d → J.go i H
  yl : ∀ φ H S i d x H', Ext K φ0 φ H0 H → RH K φ H S → gd S → xs[i]? = some d → J.yld i H x H' → Ext K φ φ H H' ∧ RH K φ H' S ∧ RD K φ H' d x
  st : ∀ φ H S, Ext K φ0 φ H0 H → RH K φ H S → gd S → J.stop xs.length H
abbrev DTI := Env → Store → (List D → (Store → Prop) → Store → Prop) → Prop
def liftI (K : PySem.W.Frag) (B : Base) (t : DTI) : TI := fun σ H R => ∃ (φ : List Addr) (δ : Env) (S : Store) (P : List D → (Store → Prop) → Store → Prop), Ext K B.φ φ B.H H ∧ RS K φ H σ δ ∧ RH K φ H S ∧ t δ S P ∧
  ∀ φ' H' J xs gd S', Ext K φ φ' H H' → RH K φ' H' S' → Yl K J φ' H' xs gd → P xs gd S' → R J H'
theorem PI.imp {X : Cx} {tg e : Expr} {t t' : TI} (h : PI X tg e t) (i : ∀ σ H Q, t' σ H Q → t σ H Q) : PI X tg e t' := ⟨fun pins s σ H Q I q => h.run pins s σ H Q I (i σ H Q q)⟩
def noG (_ : Store) : Prop := True
section
variable {X : Cx} {B : Base} {a b c e o tg : Expr} {es : List Expr} {ta tb tc : DT} {t t2 : DTA} {pos p p2 : Pos}
/-- lo, lo + 1, .. : n of them -/
def rangeD (lo : Int) (n : Nat) : List D := (List.range n).map fun i : Nat => .int (lo + i)
theorem rangeD_get {lo : Int} {n i : Nat} {d : D} : (rangeD lo n)[i]? = some d ↔ i < n ∧ d = .int (lo + i) := by
  unfold rangeD
  rw [List.getElem?_map]
  by_cases h : i < n
  · rw [List.getElem?_range h]
    simp only [Option.map_some, Option.some.injEq]
    exact ⟨fun e => ⟨h, e.symm⟩, fun e => e.2.symm⟩
  · rw [List.getElem?_eq_none (by simpa using Nat.le_of_not_lt h)]
    simp [h]
theorem rangeD_length {lo : Int} {n : Nat} : (rangeD lo n).length = n := by simp [rangeD]
theorem yl_range {K : PySem.W.Frag} {lo : Int} {n : Nat} {φ : List Addr} {H : Hp} : Yl K (Itr lo n) φ H (rangeD lo n) noG :=
  ⟨fun _ _ _ i d _ _ _ h => (rangeD_get.mp h).1, fun φ H S i d x H' _ rh _ h y => by
    obtain ⟨rfl, rfl⟩ := y
    rw [(rangeD_get.mp h).2]
    exact ⟨.refl, rh, .int _⟩, fun _ _ _ _ _ _ => by rw [rangeD_length]; exact Nat.le_refl n⟩
def iR1 (t : DTA) (δ : Env) (S : Store) (Q : List D → (Store → Prop) → Store → Prop) : Prop := t δ S fun xs S1 => match xs with
  | [.int j] => -(2 ^ 62) ≤ j ∧ j < 2 ^ 62 ∧ Q (rangeD 0 j.toNat) noG S1
  | _ => False
def iR2 (t : DTA) (δ : Env) (S : Store) (Q : List D → (Store → Prop) → Store → Prop) : Prop := t δ S fun xs S1 => match xs with
  | [.int i, .int j] => (-(2 ^ 62) ≤ i ∧ i < 2 ^ 62 ∧ -(2 ^ 62) ≤ j ∧ j < 2 ^ 62) ∧ Q (rangeD i (j - i).toNat) noG S1
  | _ => False
theorem di_range1 (hm : X.mg "range" = none) (ha : PA X [a] (liftA X.K B t)) (hg : Gl X "range" := by rfl) (hs : starEach [a] X.env = [(false, eval a X.env)] := by rfl) : PI X tg (.Call (.Name "range" p) [a] [] pos) (liftI X.K B (iR1 t)) :=
  PI.imp (pi_range1 hg hm ha hs) fun σ H R h => by
    obtain ⟨φ, δ, S, P, e, rs, rh, t, k⟩ := h
    refine ⟨φ, δ, S, _, e, rs, rh, t, fun φ1 H1 xs vs S1 e1 rh1 rx q1 => ?_⟩
    split at q1
    · cases rx with
      | cons r1 r2 =>
        cases r2; cases r1
        exact ⟨_, rfl, q1.1, q1.2.1, k φ1 H1 _ _ _ S1 e1 rh1 yl_range q1.2.2⟩
    · exact q1.elim
theorem di_range2 (hm : X.mg "range" = none) (ha : PA X [a, b] (liftA X.K B t)) (hg : Gl X "range" := by rfl) (hs : starEach [a, b] X.env = [(false, eval a X.env), (false, eval b X.env)] := by rfl) (hs2 : starEach [b] X.env = [(false, eval b X.env)] := by rfl) :
    PI X tg (.Call (.Name "range" p) [a, b] [] pos) (liftI X.K B (iR2 t)) :=
  PI.imp (pi_range2 hg hm ha hs hs2) fun σ H R h => by
    obtain ⟨φ, δ, S, P, e, rs, rh, t, k⟩ := h
    refine ⟨φ, δ, S, _, e, rs, rh, t, fun φ1 H1 xs vs S1 e1 rh1 rx q1 => ?_⟩
    split at q1
    · cases rx with
      | cons r1 r2 =>
        cases r2 with
        | cons r2 r3 =>
          cases r3; cases r1; cases r2
          exact ⟨_, _, rfl, q1.1, k φ1 H1 _ _ _ S1 e1 rh1 yl_range q1.2⟩
    · exact q1.elim
/-- the signs of a text -/
def signs (z : Str) : List D := z.cps.toList.map fun c => .str ⟨#[c]⟩
theorem yl_str {K : PySem.W.Frag} {z : Str} {φ : List Addr} {H : Hp} : Yl K (Its z) φ H (signs z) noG := by
  have get : ∀ {i : Nat} {d : D}, (signs z)[i]? = some d → ∃ c, z.cps[i]? = some c ∧ d = .str ⟨#[c]⟩ := by
    intro i d h
    unfold signs at h
    rw [List.getElem?_map] at h
    cases e : z.cps.toList[i]? with
    | none => rw [e] at h; cases h
    | some c => rw [e] at h; cases h; exact ⟨c, by simpa using e, rfl⟩
  refine ⟨fun _ _ _ i d _ _ _ h => ?_, fun φ H S i d x H' _ rh _ h y => ?_, fun _ _ _ _ _ _ => ?_⟩
  · obtain ⟨c, e, _⟩ := get h
    exact (Array.getElem?_eq_some_iff.mp e).1
  · obtain ⟨rfl, c, e, rfl⟩ := y
    obtain ⟨c', e', rfl⟩ := get h
    rw [e] at e'; cases e'
    exact ⟨.refl, rh, .str _⟩
  · show z.cps.size ≤ _
    unfold signs; simp
/-- over a value: a tuple, a list, a text -/
def iVal (S : Store) (Q : List D → (Store → Prop) → Store → Prop) : D → Prop
  | .tup xs => Q xs noG S
  | .ref n => dLst S n fun xs => Q xs (fun S' => S'[n]? = some (.lst xs)) S
  | _ => False
theorem yl_tup {K : PySem.W.Frag} {φ : List Addr} {H : Hp} {a : Addr} {xs : List D} {vs : List V} (ha : SqT K H a vs) (ra : RDs K φ H xs vs) : Yl K (Itt K a) φ H xs noG := by
  refine ⟨fun φ1 H1 S i d e rh _ h => ?_, fun φ1 H1 S i d x H' e rh _ h y => ?_, fun φ1 H1 S e rh _ => ?_⟩
  · obtain ⟨v, hv, _⟩ := ra.get h
    exact ⟨vs, v, e.tup _ _ ha, hv⟩
  · obtain ⟨rfl, y⟩ := y
    obtain ⟨v, hv, rv⟩ := ra.get h
    have := y vs (e.tup _ _ ha)
    rw [hv] at this; cases this
    exact ⟨.refl, rh, rv.ext e⟩
  · exact ⟨vs, e.tup _ _ ha, by rw [← ra.length]; exact Nat.le_refl _⟩
theorem yl_cell {K : PySem.W.Frag} {φ : List Addr} {H : Hp} {n : Nat} {a : Addr} {xs : List D} (ha : φ[n]? = some a) : Yl K (Itl K a) φ H xs (fun S => S[n]? = some (.lst xs)) := by
  have get : ∀ φ1 H1 S, Ext K φ φ1 H H1 → RH K φ1 H1 S → S[n]? = some (.lst xs) → ∃ vs, SqL K H1 a vs ∧ RDs K φ1 H1 xs vs := fun φ1 H1 S e rh h => by
    obtain ⟨b, hb, vs, e2, r⟩ := rh.cell h
    rw [e.pre _ _ ha] at hb; cases hb
    exact ⟨vs, .inl (.inl e2), r⟩
  refine ⟨fun φ1 H1 S i d e rh g h => ?_, fun φ1 H1 S i d x H' e rh g h y => ?_, fun φ1 H1 S e rh g => ?_⟩
  · obtain ⟨vs, hq, ra⟩ := get φ1 H1 S e rh g
    obtain ⟨v, hv, _⟩ := ra.get h
    exact ⟨vs, v, hq, hv⟩
  · obtain ⟨rfl, y⟩ := y
    obtain ⟨vs, hq, ra⟩ := get φ1 _ S e rh g
    obtain ⟨v, hv, rv⟩ := ra.get h
    have := y vs hq
    rw [hv] at this; cases this
    exact ⟨.refl, rh, rv⟩
  · obtain ⟨vs, hq, ra⟩ := get φ1 H1 S e rh g
    exact ⟨vs, hq, by rw [← ra.length]; exact Nat.le_refl _⟩
theorem yl_fresh {K : PySem.W.Frag} {φ : List Addr} {H : Hp} {p : Addr} {xs : List D} {vs : List V} (hp : H p = some (.lst vs)) (np : p ∉ φ) (ra : RDs K φ H xs vs) : Yl K (Itl K p) φ H xs noG := by
  refine ⟨fun φ1 H1 S i d e rh _ h => ?_, fun φ1 H1 S i d x H' e rh _ h y => ?_, fun φ1 H1 S e rh _ => ?_⟩
  · obtain ⟨v, hv, _⟩ := ra.get h
    exact ⟨vs, v, .inl (.inl (e.out _ _ hp np)), hv⟩
  · obtain ⟨rfl, y⟩ := y
    obtain ⟨v, hv, rv⟩ := ra.get h
    have := y vs (.inl (.inl (e.out _ _ hp np)))
    rw [hv] at this; cases this
    exact ⟨.refl, rh, rv.ext e⟩
  · exact ⟨vs, .inl (.inl (e.out _ _ hp np)), by rw [← ra.length]; exact Nat.le_refl _⟩
def iTupD (ta : DT) (δ : Env) (S : Store) (Q : List D → (Store → Prop) → Store → Prop) : Prop := ta δ S fun d S1 => match d with
  | .tup xs => Q xs noG S1
  | _ => False
theorem di_tup (ha : PE X a (lift X.K B ta)) : PI X tg a (liftI X.K B (iTupD ta)) :=
  PI.imp (pi_tup ha) fun σ H R h => by
    obtain ⟨φ, δ, S, P, e, rs, rh, t, k⟩ := h
    refine ⟨φ, δ, S, _, e, rs, rh, t, fun φ1 H1 x v S1 e1 rh1 rx q1 => ?_⟩
    cases x with
    | tup xs =>
      cases rx with
      | tup hq ra => exact ⟨_, rfl, ⟨_, hq⟩, k φ1 H1 _ _ _ S1 e1 rh1 (yl_tup hq ra) q1⟩
    | _ => exact (show False from q1).elim
def iLstD (ta : DT) (δ : Env) (S : Store) (Q : List D → (Store → Prop) → Store → Prop) : Prop := ta δ S fun d S1 => match d with
  | .ref n => dLst S1 n fun xs => Q xs (fun S' => S'[n]? = some (.lst xs)) S1
  | _ => False
theorem di_lst (ha : PE X a (lift X.K B ta)) : PI X tg a (liftI X.K B (iLstD ta)) :=
  PI.imp (pi_list ha) fun σ H R h => by
    obtain ⟨φ, δ, S, P, e, rs, rh, t, k⟩ := h
    refine ⟨φ, δ, S, _, e, rs, rh, t, fun φ1 H1 x v S1 e1 rh1 rx q1 => ?_⟩
    cases x with
    | ref n =>
      cases rx with
      | ref hq =>
        obtain ⟨xs, vs, q, hl, r⟩ := dLst_at rh1 hq (show dLst S1 n _ from q1)
        exact ⟨_, rfl, ⟨_, hl⟩, k φ1 H1 _ _ _ S1 e1 rh1 (yl_cell hq) q⟩
    | _ => exact (show False from q1).elim
def iStrD (ta : DT) (δ : Env) (S : Store) (Q : List D → (Store → Prop) → Store → Prop) : Prop := ta δ S fun d S1 => match d with
  | .str z => Q (signs z) noG S1
  | _ => False
theorem di_str (ha : PE X a (lift X.K B ta)) : PI X tg a (liftI X.K B (iStrD ta)) :=
  PI.imp (pi_str ha) fun σ H R h => by
    obtain ⟨φ, δ, S, P, e, rs, rh, t, k⟩ := h
    refine ⟨φ, δ, S, _, e, rs, rh, t, fun φ1 H1 x v S1 e1 rh1 rx q1 => ?_⟩
    cases x with
    | str z =>
      cases rx
      exact ⟨z, rfl, k φ1 H1 _ _ _ S1 e1 rh1 yl_str q1⟩
    | _ => exact (show False from q1).elim
/-- over a fresh list -/
def iFresh (t : DTA) (δ : Env) (S : Store) (Q : List D → (Store → Prop) → Store → Prop) : Prop := t δ S fun xs S1 => Q xs noG S1
theorem di_fresh (ha : PE X a (liftL X.K B t)) : PI X tg a (liftI X.K B (iFresh t)) :=
  PI.imp (pi_list ha) fun σ H R h => by
    obtain ⟨φ, δ, S, P, e, rs, rh, t, k⟩ := h
    exact ⟨φ, δ, S, _, e, rs, rh, t, fun φ1 H1 xs vs S1 p e1 hp np hn rh1 rx q1 => ⟨p, rfl, ⟨vs, .inl (.inl hp)⟩, k φ1 H1 _ _ _ S1 e1 rh1 (yl_fresh hp np rx) q1⟩⟩
/-- zip of two tuples -/
def zipD : List D → List D → List D
  | x :: xs, y :: ys => .tup [x, y] :: zipD xs ys
  | _, _ => []
theorem zipD_get : ∀ {xs ys : List D} {i : Nat} {d : D}, (zipD xs ys)[i]? = some d → ∃ x y, xs[i]? = some x ∧ ys[i]? = some y ∧ d = .tup [x, y]
  | x :: xs, y :: ys, 0, d, h => ⟨x, y, rfl, rfl, (Option.some.inj h).symm⟩
  | x :: xs, y :: ys, i + 1, d, h => by
    obtain ⟨a, b, h1, h2, h3⟩ := zipD_get (xs := xs) (ys := ys) (i := i) (d := d) h
    exact ⟨a, b, h1, h2, h3⟩
  | [], _, _, _, h => by simp [zipD] at h
  | _ :: _, [], _, _, h => by simp [zipD] at h
theorem zipD_length : ∀ {xs ys : List D}, (zipD xs ys).length = min xs.length ys.length
  | x :: xs, y :: ys => by show (zipD xs ys).length + 1 = min (xs.length + 1) (ys.length + 1); rw [zipD_length]; omega
  | [], ys => by simp [zipD]
  | _ :: _, [] => by simp [zipD]
theorem yl_zipT {K : PySem.W.Frag} {φ : List Addr} {H : Hp} {a b : Addr} {xs ys : List D} {vs ws : List V} (ha : SqT K H a vs) (ra : RDs K φ H xs vs) (hb : SqT K H b ws) (rb : RDs K φ H ys ws) : Yl K (RZ.ItzT K a b) φ H (zipD xs ys) noG := by
  refine ⟨fun φ1 H1 S i d e rh _ h => ?_, fun φ1 H1 S i d x H' e rh _ h y => ?_, fun φ1 H1 S e rh _ => ?_⟩
  · obtain ⟨x, y, h1, h2, _⟩ := zipD_get h
    obtain ⟨v, hv, _⟩ := ra.get h1
    obtain ⟨w, hw, _⟩ := rb.get h2
    exact ⟨vs, ws, v, w, e.tup _ _ ha, e.tup _ _ hb, hv, hw⟩
  · obtain ⟨x1, y1, h1, h2, rfl⟩ := zipD_get h
    obtain ⟨v, hv, rv⟩ := ra.get h1
    obtain ⟨w, hw, rw'⟩ := rb.get h2
    obtain ⟨T, p, q, rfl, nT, rfl, f1, f2⟩ := y
    have e1 := f1 _ (e.tup _ _ ha)
    have e2 := f2 _ (e.tup _ _ hb)
    rw [hv] at e1; cases e1
    rw [hw] at e2; cases e2
    exact ⟨Ext.side nT, rh.side nT, RDs.mk_tup nT (.cons (rv.ext e) (.cons (rw'.ext e) .nil))⟩
  · refine ⟨vs, ws, e.tup _ _ ha, e.tup _ _ hb, ?_⟩
    rw [zipD_length, ra.length, rb.length]
    omega
def iZipD (t : DTA) (δ : Env) (S : Store) (Q : List D → (Store → Prop) → Store → Prop) : Prop := t δ S fun ds S1 => match ds with
  | [.tup xs, .tup ys] => Q (zipD xs ys) noG S1
  | _ => False
theorem di_zip {elts : List Expr} {kk : Nat} {tpos : Pos} (hm : X.mg "zip" = none) (ha : PA X [a, b] (liftA X.K B t)) (hg : Gl X "zip" := by rfl) (hs : starEach [a, b] X.env = (false, eval a X.env) :: starEach [b] X.env := by rfl)
    (hpl : (backTo pos (starEach [b] X.env)).any (·.1) = false := by rfl) : PI X (.Tuple elts kk tpos) (.Call (.Name "zip" p) [a, b] [] pos) (liftI X.K B (iZipD t)) :=
  PI.imp (RZ.pi_zipA hg hm ha hs hpl) fun σ H R h => by
    obtain ⟨φ, δ, S, P, e, rs, rh, t, k⟩ := h
    refine ⟨φ, δ, S, _, e, rs, rh, t, fun φ1 H1 xs vs S1 e1 rh1 rx q1 => ?_⟩
    split at q1
    · cases rx with
      | cons r1 r2 =>
        cases r2 with
        | cons r2 r3 =>
          cases r3
          cases r1 with
          | tup ha ra =>
            cases r2 with
            | tup hb rb => exact ⟨_, _, _, _, rfl, .inr ⟨ha, hb, k φ1 H1 _ _ _ S1 e1 rh1 (yl_zipT ha ra hb rb) q1⟩⟩
    · exact q1.elim

/-! ## for -/
/-- by an invariant of the turn, the slots, the store -/
def dFor (g : Tg) (tb : DTS) (gd : Store → Prop) (xs : List D) (E : DEnds) (δ : Env) (S : Store) : Prop := ∃ I : Nat → Env → Store → Prop, I 0 δ S ∧ (∀ i δ S, i ≤ xs.length → I i δ S → gd S) ∧
  (∀ i d δ S, xs[i]? = some d → I i δ S → optE (dBind g d δ) fun δ1 => tb { E with nx := I (i + 1), ct := I (i + 1), bk := E.nx } δ1 S) ∧ ∀ δ S, I xs.length δ S → E.nx δ S
def dForI (ti : DTI) (g : Tg) (tb : DTS) (E : DEnds) (δ : Env) (S : Store) : Prop := ti δ S fun xs gd S1 => dFor g tb gd xs E δ S1
theorem ds_for {iter : Expr} {body : List Stmt} {ti : DTI} {g : Tg} {tb : DTS} (hp : PassesOwn (model X.prog X.w) X.A X.env X.xe) (hi : PI X tg iter (liftI X.K B ti)) (hg : PG X tg (gOf X.K g)) (hb : PSs X body (liftS X.K B tb)) (hc : X.calm = true := by rfl)
    (hs : ∀ x, foldedSetIterable iter X.env x = pure x := by intro _; rfl) : PS X (.For tg iter body [] pos) (liftS X.K B (dForI ti g tb)) :=
  PS.imp (ps_for hp hc hi hg hb hs) fun σ H E h => by
    obtain ⟨φ, δ, S, P, e, rs, rh, t, le⟩ := h
    refine ⟨φ, δ, S, _, e, rs, rh, t, fun φ1 H1 J xs gd S1 e1 rh1 yl q1 => ?_⟩
    obtain ⟨I, i0, igd, turn, fin⟩ := q1
    refine ⟨fun i m σ H => m = xs.length - i ∧ i ≤ xs.length ∧ ∃ φ' δ' S', Ext X.K φ1 φ' H1 H ∧ RS X.K φ' H σ δ' ∧ RH X.K φ' H S' ∧ I i δ' S',
      ⟨_, rfl, Nat.zero_le _, φ1, δ, S1, .refl, rs.ext e1, rh1, i0⟩, ?_⟩
    rintro i m σ2 H2 ⟨rfl, hi, φ2, δ2, S2, e2, rs2, rh2, q2⟩
    have hgd := igd i δ2 S2 hi q2
    by_cases hlt : i < xs.length
    · have hget : xs[i]? = some xs[i] := List.getElem?_eq_getElem hlt
      obtain ⟨δ3, ed, q3⟩ := optE_at (turn i _ δ2 S2 hget q2)
      refine .inr ⟨yl.go φ2 H2 S2 i _ e2 rh2 hgd hget, fun σ' H' => ∃ φ' δ' S', Ext X.K φ1 φ' H1 H' ∧ RS X.K φ' H' σ' δ' ∧ RH X.K φ' H' S' ∧ I (i + 1) δ' S', fun σ' H' hN => ⟨_, ?_, rfl, hlt, hN⟩, fun x H' y => ?_⟩
      · omega
      · obtain ⟨e3, rh3, rd⟩ := yl.yl φ2 H2 S2 i _ x H' e2 rh2 hgd hget y
        refine bind_ok (rs2.ext e3) rd ed fun σ4 rs4 _ => ?_
        have e23 := e2.trans e3
        refine ⟨φ2, δ3, S2, _, (e.trans e1).trans e23, rs4, rh3, q3, ?_⟩
        exact ⟨fun φ5 H5 σ5 δ5 S5 e5 rs5 rh5 q5 => ⟨φ5, δ5, S5, e23.trans e5, rs5, rh5, q5⟩, fun φ5 H5 d v S5 e5 rh5 rd5 q5 => le.rt φ5 H5 d v S5 ((e1.trans e23).trans e5) rh5 rd5 q5,
          fun φ5 H5 σ5 δ5 S5 e5 rs5 rh5 q5 => le.nx φ5 H5 σ5 δ5 S5 ((e1.trans e23).trans e5) rs5 rh5 q5, fun φ5 H5 σ5 δ5 S5 e5 rs5 rh5 q5 => ⟨φ5, δ5, S5, e23.trans e5, rs5, rh5, q5⟩⟩
    · have e' : i = xs.length := by omega
      subst e'
      exact .inl ⟨yl.st φ2 H2 S2 e2 rh2 hgd, le.nx φ2 H2 σ2 δ2 S2 (e1.trans e2) rs2 rh2 (fin δ2 S2 q2)⟩

/-! ## [e for x in xs if t], not kept -/
def dComp (g : Tg) (own : List Nat) (tt : DTT) (te : DT) (gd : Store → Prop) (δ : Env) (Q : List D → Store → Prop) (xs : List D) (S : Store) : Prop := ∃ I : Nat → List D → Store → Prop, I 0 [] S ∧ (∀ i acc S, i ≤ xs.length → I i acc S → gd S) ∧
  (∀ i d acc S, xs[i]? = some d → I i acc S → optE (dBind g d (dwipe δ own)) fun δ1 => tt δ1 S fun b S1 => bIf b (te δ1 S1 fun y S2 => acc.length < sizeLine ∧ I (i + 1) (acc ++ [y]) S2) (I (i + 1) acc S1)) ∧ ∀ acc S, I xs.length acc S → Q acc S
def dLc (ti : DTI) (g : Tg) (own : List Nat) (tt : DTT) (te : DT) (δ : Env) (S : Store) (Q : List D → Store → Prop) : Prop := ti δ S fun xs gd S1 => dComp g own tt te gd δ Q xs S1
def dYes (_ : Env) (S : Store) (Q : Bool → Store → Prop) : Prop := Q true S
theorem PTs.imp {X : Cx} {e : List Expr} {t t' : TT} (h : PTs X e t) (i : ∀ σ H Q, t' σ H Q → t σ H Q) : PTs X e t' := ⟨fun pins s σ H Q I q => h.run pins s σ H Q I (i σ H Q q)⟩
theorem dts_nil : PTs X [] (liftT X.K B dYes) := PTs.imp pts_nil fun σ H Q h => by
  obtain ⟨φ, δ, S, P, e, rs, rh, t, k⟩ := h
  exact k φ H true S .refl rh t
theorem wipe_wipe (σ : L2.St) : ∀ vs : List Nat, wipe (wipe σ vs) vs = wipe σ vs
  | [] => rfl
  | v :: vs => by
    show (wipe ((wipe σ vs).set v none) vs).set v none = (wipe σ vs).set v none
    by_cases hv : v ∈ vs
    · rw [wipe_set hv, wipe_wipe σ vs]
    · have aux : ∀ (τ : L2.St) (ws : List Nat), v ∉ ws → wipe (τ.set v none) ws = (wipe τ ws).set v none := by
        intro τ ws
        induction ws with
        | nil => intro _; rfl
        | cons w ws ih =>
          intro hw
          rw [List.mem_cons, not_or] at hw
          show (wipe (τ.set v none) ws).set w none = ((wipe τ ws).set w none).set v none
          rw [ih hw.2, List.set_comm _ _ hw.1]
      rw [aux _ vs hv, List.set_set, wipe_wipe σ vs]
theorem SqT.at_lst {K : PySem.W.Frag} {H : Hp} {a D : Addr} {vs ws xs : List V} (h : SqT K H a vs) (hD : H D = some (.lst ws)) : SqT K (upd H D (.lst xs)) a vs := by
  rcases h with (q | ⟨ob, q⟩) | q
  · exact .inl (.inl (by rw [upd_ne (ne_of q hD (fun z => nomatch z))]; exact q))
  · exact .inl (.inr ⟨ob, by rw [upd_ne (ne_of q hD (fun z => nomatch z))]; exact q⟩)
  · exact .inr q
theorem FzL.at_lst {K : PySem.W.Frag} {H : Hp} {a D : Addr} {vs ws xs : List V} (h : FzL K H a vs) (hD : H D = some (.lst ws)) : FzL K (upd H D (.lst xs)) a vs := by
  rcases h with ⟨ob, q⟩ | q
  · exact .inl ⟨ob, by rw [upd_ne (ne_of q hD (fun z => nomatch z))]; exact q⟩
  · exact .inr q
theorem Kp.at_lst {K : PySem.W.Frag} {φ : List Addr} {H : Hp} {D : Addr} {ws xs : List V} (hD : H D = some (.lst ws)) : Kp K φ φ H (upd H D (.lst xs)) := ⟨fun dd vs h n => ⟨by rw [upd_ne (ne_of h hD (fun z => nomatch z))]; exact h, n⟩, fun _ _ e => e, fun _ _ h => SqT.at_lst h hD, fun _ _ h => FzL.at_lst h hD⟩
theorem Ext.over {K : PySem.W.Frag} {φ φ' : List Addr} {H H' : Hp} {D : Addr} {ws xs : List V} (e : Ext K φ φ' H H') (h0 : H D = none) (hD : H' D = some (.lst ws)) : Ext K φ φ' H (upd H' D (.lst xs)) :=
  ⟨e.pre, fun a vs h => SqT.at_lst (e.tup a vs h) hD, fun a vs h => FzL.at_lst (e.fz a vs h) hD, fun b o q hb => by rw [upd_ne (ne_of_none q h0)]; exact e.out b o q hb, e.new⟩
theorem RH.over {K : PySem.W.Frag} {φ : List Addr} {H : Hp} {S : Store} {D : Addr} {ws xs : List V} (h : RH K φ H S) (nD : D ∉ φ) (hD : H D = some (.lst ws)) : RH K φ (upd H D (.lst xs)) S :=
  ⟨h.nd, h.len, fun n a c e1 e2 => (h.at_ n a c e1 e2).kp (Kp.at_lst hD) (by
    have hne : a ≠ D := fun z => nD (by rw [← z]; exact List.mem_of_getElem? e1)
    rw [upd_ne hne])⟩
theorem lc_ok {ti : DTI} {g : Tg} {own : List Nat} {tt : DTT} {te : DT} (hown : ∀ i ∈ g.slots, i ∈ own) {σ : L2.St} {H : Hp} {Q : VK} (h : liftL X.K B (dLc ti g own tt te) σ H Q) :
    tLc (liftI X.K B ti) (gOf X.K g) (liftT X.K B tt) (lift X.K B te) own σ H Q := by
  obtain ⟨φ, δ, S, P, e, rs, rh, t, k⟩ := h
  refine ⟨φ, δ, S, _, e, rs, rh, t, fun φ1 H1 J xs gd S1 e1 rh1 yl q1 => fun D hD => ?_⟩
  obtain ⟨I, i0, igd, turn, fin⟩ := q1
  refine ⟨fun i m H' => m = xs.length - i ∧ i ≤ xs.length ∧ ∃ φ' S' acc vs, Ext X.K φ1 φ' H1 H' ∧ H' D = some (.lst vs) ∧ D ∉ φ' ∧ RH X.K φ' H' S' ∧ RDs X.K φ' H' acc vs ∧ I i acc S',
    ⟨_, rfl, Nat.zero_le _, φ1, S1, [], [], Ext.side hD, upd_same, rh1.notin hD, rh1.side hD, .nil, i0⟩, ?_⟩
  rintro i m H2 ⟨rfl, hi, φ2, S2, acc, vs, e2, hD2, nD2, rh2, ra2, q2⟩
  have hgd := igd i acc S2 hi q2
  by_cases hlt : i < xs.length
  · have hget : xs[i]? = some xs[i] := List.getElem?_eq_getElem hlt
    obtain ⟨δ3, ed, q3⟩ := optE_at (turn i _ acc S2 hget q2)
    refine .inr ⟨yl.go φ2 H2 S2 i _ e2 rh2 hgd hget, fun H' => ∃ φ' S' acc vs, Ext X.K φ1 φ' H1 H' ∧ H' D = some (.lst vs) ∧ D ∉ φ' ∧ RH X.K φ' H' S' ∧ RDs X.K φ' H' acc vs ∧ I (i + 1) acc S',
      fun H' hN => ⟨_, ?_, rfl, hlt, hN⟩, fun x H' y => ?_⟩
    · omega
    obtain ⟨e3, rh3, rd⟩ := yl.yl φ2 H2 S2 i _ x H' e2 rh2 hgd hget y
    have e23 := e2.trans e3
    have keepD : ∀ {φ4 : List Addr} {H4 : Hp}, Ext X.K φ2 φ4 H2 H4 → H4 D = some (.lst vs) ∧ D ∉ φ4 := fun {φ4 H4} e4 => ⟨e4.out _ _ hD2 nD2, fun z => by
      rcases e4.new _ z with z | z
      · exact nD2 z
      · rw [hD2] at z; cases z⟩
    refine bind_ok ((rs.ext (e1.trans e23)).wipe own) rd ed fun σ4 rs4 hw => ⟨(hw own hown).trans (wipe_wipe σ own), ?_⟩
    refine ⟨φ2, δ3, S2, _, (e.trans e1).trans e23, rs4, rh3, q3, fun φ5 H5 b S5 e5 rh5 q5 => ?_⟩
    cases b with
    | false =>
      refine iteF ?_
      obtain ⟨h1, h2⟩ := keepD (e3.trans e5)
      exact ⟨φ5, S5, acc, vs, e23.trans e5, h1, h2, rh5, ra2.ext (e3.trans e5), q5⟩
    | true =>
      refine iteT ⟨φ5, δ3, S5, _, ((e.trans e1).trans e23).trans e5, rs4.ext e5, rh5, q5, fun φ6 H6 d v S6 e6 rh6 rd6 q6 => ?_⟩
      obtain ⟨h1, h2⟩ := keepD ((e3.trans e5).trans e6)
      have ra6 := ra2.ext ((e3.trans e5).trans e6)
      refine ⟨vs, h1, by rw [← ra6.length]; exact q6.1, ?_⟩
      have e26 := e23.trans (e5.trans e6)
      exact ⟨φ6, S6, acc ++ [d], vs ++ [v], e26.over hD h1, upd_same, h2, rh6.over h2 h1, (ra6.append (.cons rd6 .nil)).kp (Kp.at_lst h1), q6.2⟩
  · have e' : i = xs.length := by omega
    subst e'
    refine .inl ⟨yl.st φ2 H2 S2 e2 rh2 hgd, ?_⟩
    have e12 := e1.trans e2
    exact k φ2 H2 acc vs S2 D e12 hD2 nD2 (rh.free rh1 e1 hD) rh2 ra2 (fin acc S2 q2)
/-- own: the comprehension's names with their slots; g's slots are among them -/
theorem dl_comp {elt iter : Expr} {ifs : List Expr} {scope : Scope} {own : List (Str × Nat)} {ti : DTI} {g : Tg} {tt : DTT} {te : DT} (hN : X.N.Nodup) (hi : PI X tg iter (liftI X.K B ti)) (ok : BlkOk X.N X.env.scope scope own)
    (hg : ∀ (s : Shared) (H : Hp) (C : Addr) (cl : List (Str × Addr)) (fp : List Addr), PG (X.blk s H scope (compEnvC scope cl C X.env) fp) tg (gOf X.K g))
    (ht : ∀ (s : Shared) (H : Hp) (C : Addr) (cl : List (Str × Addr)) (fp : List Addr), PTs (X.blk s H scope (compEnvC scope cl C X.env) fp) ifs (liftT X.K B tt))
    (he : ∀ (s : Shared) (H : Hp) (C : Addr) (cl : List (Str × Addr)) (fp : List Addr), PE (X.blk s H scope (compEnvC scope cl C X.env) fp) elt (lift X.K B te))
    (hown : ∀ i ∈ g.slots, i ∈ own.map (·.2) := by decide) (hc : X.calm = true := by rfl) (hs : ∀ x, foldedSetIterable iter X.env x = pure x := by intro _; rfl) :
    PE X (.ListComp elt [⟨tg, iter, ifs, 0⟩] scope pos) (liftL X.K B (dLc ti g (own.map (·.2)) tt te)) :=
  PE.imp (pe_lc hc hN hi ok hg ht he hs) fun σ H Q h => lc_ok hown h
theorem dts_one {c : Expr} {uC : DTT} (h : PT X c (liftT X.K B uC)) : PTs X [c] (liftT X.K B uC) := pts_one h
/-- x = [..] on one line, x a local -/
theorem ds_setLc {i : Nat} {y : Str} {py spos : Pos} {elt iter : Expr} {ifs : List Expr} {scope : Scope} {own : List (Str × Nat)} {ti : DTI} {g : Tg} {tt : DTT} {te : DT} (hN : X.N.Nodup) (hi : PI X tg iter (liftI X.K B ti)) (ok : BlkOk X.N X.env.scope scope own)
    (hg : ∀ (s : Shared) (H : Hp) (C : Addr) (cl : List (Str × Addr)) (fp : List Addr), PG (X.blk s H scope (compEnvC scope cl C X.env) fp) tg (gOf X.K g))
    (ht : ∀ (s : Shared) (H : Hp) (C : Addr) (cl : List (Str × Addr)) (fp : List Addr), PTs (X.blk s H scope (compEnvC scope cl C X.env) fp) ifs (liftT X.K B tt))
    (he : ∀ (s : Shared) (H : Hp) (C : Addr) (cl : List (Str × Addr)) (fp : List Addr), PE (X.blk s H scope (compEnvC scope cl C X.env) fp) elt (lift X.K B te))
    (hsw : swapsWith (.ListComp elt [⟨tg, iter, ifs, 0⟩] scope pos) (some (.Name y py)) spos.line X.env = pure true)
    (hy : X.N[i]? = some y := by rfl) (hyl : X.env.scope.names.lookup y = some .local := by rfl)
    (hown : ∀ i ∈ g.slots, i ∈ own.map (·.2) := by decide) (hc : X.calm = true := by rfl) (hs : ∀ x, foldedSetIterable iter X.env x = pure x := by intro _; rfl) :
    PS X (.Assign [.Name y py] (.ListComp elt [⟨tg, iter, ifs, 0⟩] scope pos) spos)
      (liftS X.K B (fun E δ S => dLc ti g (own.map (·.2)) tt te δ S fun xs S1 => E.nx (δ.set i (some (.ref S1.length))) (S1 ++ [.lst xs]))) :=
  PS.imp (L2.ps_setLc hc hN hy hyl hsw hi ok hg ht he hs) fun σ H E h => by
    obtain ⟨φ, δ, S, P, e, rs, rh, t, le⟩ := h
    refine lc_ok (B := B) (Q := fun x H1 => gName i x σ H1 E.nx) hown ⟨φ, δ, S, _, e, rs, rh, t, fun φ1 H1 xs vs S1 p e1 hp np hn rh1 rx q1 => ?_⟩
    have e2 := e1.adopt hn
    have rh2 := rh1.adopt np (show RC X.K φ1 H1 (.lst xs) p from ⟨vs, hp, rx⟩)
    exact le.nx (φ1 ++ [p]) H1 _ _ _ e2 ((rs.ext e2).set (.ref (by rw [← rh1.len, List.getElem?_concat_length])) i) rh2 q1
end
end DL

set_option Elab.async false
set_option linter.all false
set_option maxRecDepth 100000
set_option autoImplicit false
namespace DL
open PySem PySem.Spec L2

section
variable {X : Cx} {B : Base} {a b c e o i value : Expr} {es : List Expr} {ta tb tc to ti tv : DT} {uC : DTT} {t : DTA} {pos p p2 : Pos} {st : Stmt} {rest : List Stmt} {u v : DTS}
/-! ## statements -/
def dNext (E : DEnds) (δ : Env) (S : Store) : Prop := E.nx δ S
def dSeq (t u : DTS) (E : DEnds) (δ : Env) (S : Store) : Prop := t { E with nx := u E } δ S
theorem dss_nil : PSs X [] (liftS X.K B dNext) := PSs.imp pss_nil fun σ H E h => by
  obtain ⟨φ, δ, S, P, e, rs, rh, t, le⟩ := h
  exact le.nx φ H σ δ S .refl rs rh t
theorem dss_cons (h1 : PS X st (liftS X.K B u)) (h2 : PSs X rest (liftS X.K B v)) : PSs X (st :: rest) (liftS X.K B (dSeq u v)) := PSs.imp (pss_cons h1 h2) fun σ H E h => by
  obtain ⟨φ, δ, S, P, e, rs, rh, t, le⟩ := h
  exact ⟨φ, δ, S, _, e, rs, rh, t, fun φ1 H1 σ1 δ1 S1 e1 rs1 rh1 q1 => ⟨φ1, δ1, S1, P, e.trans e1, rs1, rh1, q1, le.ext e1⟩, le.rt, le.bk, le.ct⟩
theorem dss_one (h1 : PS X st (liftS X.K B u)) : PSs X [st] (liftS X.K B u) := pss_one h1
theorem ds_pass : PS X (.Pass pos) (liftS X.K B dNext) := PS.imp ps_pass fun σ H E h => by
  obtain ⟨φ, δ, S, P, e, rs, rh, t, le⟩ := h
  exact le.nx φ H σ δ S .refl rs rh t
def dBreak (E : DEnds) (δ : Env) (S : Store) : Prop := E.bk δ S
def dCont (E : DEnds) (δ : Env) (S : Store) : Prop := E.ct δ S
theorem ds_break : PS X (.Break pos) (liftS X.K B dBreak) := PS.imp ps_break fun σ H E h => by
  obtain ⟨φ, δ, S, P, e, rs, rh, t, le⟩ := h
  exact le.bk φ H σ δ S .refl rs rh t
theorem ds_continue : PS X (.Continue pos) (liftS X.K B dCont) := PS.imp ps_continue fun σ H E h => by
  obtain ⟨φ, δ, S, P, e, rs, rh, t, le⟩ := h
  exact le.ct φ H σ δ S .refl rs rh t
theorem ds_doc {x j} : PS X (.Expr (.Constant (.str x) j pos) p) (liftS X.K B dNext) := PS.imp ps_doc fun σ H E h => by
  obtain ⟨φ, δ, S, P, e, rs, rh, t, le⟩ := h
  exact le.nx φ H σ δ S .refl rs rh t
/-- a statement that is never reached -/
def dNever (_ : DEnds) (_ : Env) (_ : Store) : Prop := False
theorem ds_never : PS X st (liftS X.K B dNever) := PS.imp ps_never fun σ H E h => by
  obtain ⟨φ, δ, S, P, e, rs, rh, t, le⟩ := h
  exact t
theorem dss_never {sts : List Stmt} : PSs X sts (liftS X.K B dNever) := PSs.imp pss_never fun σ H E h => by
  obtain ⟨φ, δ, S, P, e, rs, rh, t, le⟩ := h
  exact t
def dDrop (t : DT) (E : DEnds) (δ : Env) (S : Store) : Prop := t δ S fun _ S1 => E.nx δ S1
theorem ds_expr (he : PE X e (lift X.K B ta)) (hs : swapsWith e none pos.line X.env = pure false := by rfl) : PS X (.Expr e pos) (liftS X.K B (dDrop ta)) := PS.imp (ps_expr he hs) fun σ H E h => by
  obtain ⟨φ, δ, S, P, e, rs, rh, t, le⟩ := h
  exact ⟨φ, δ, S, _, e, rs, rh, t, fun φ1 H1 d v S1 e1 rh1 _ q1 => le.nx φ1 H1 σ δ S1 e1 (rs.ext e1) rh1 q1⟩
def dRet (t : DT) (E : DEnds) (δ : Env) (S : Store) : Prop := t δ S E.rt
theorem ds_ret (he : PE X e (lift X.K B ta)) : PS X (.Return (some e) pos) (liftS X.K B (dRet ta)) := PS.imp (ps_ret he) fun σ H E h => by
  obtain ⟨φ, δ, S, P, e, rs, rh, t, le⟩ := h
  exact ⟨φ, δ, S, _, e, rs, rh, t, fun φ1 H1 d v S1 e1 rh1 rd q1 => le.rt φ1 H1 d v S1 e1 rh1 rd q1⟩
def dRetN (E : DEnds) (_ : Env) (S : Store) : Prop := E.rt .non S
theorem ds_retN : PS X (.Return none pos) (liftS X.K B dRetN) := PS.imp ps_retN fun σ H E h => by
  obtain ⟨φ, δ, S, P, e, rs, rh, t, le⟩ := h
  exact le.rt φ H _ _ S .refl rh .non t
def dIfS (c : DTT) (t u : DTS) (E : DEnds) (δ : Env) (S : Store) : Prop := c δ S fun b S1 => bIf b (t E δ S1) (u E δ S1)
theorem ds_if {xs ys : List Stmt} (hc : PT X c (liftT X.K B uC)) (ha : PSs X xs (liftS X.K B u)) (hb : PSs X ys (liftS X.K B v)) : PS X (.If c xs ys pos) (liftS X.K B (dIfS uC u v)) := PS.imp (ps_if hc ha hb) fun σ H E h => by
  obtain ⟨φ, δ, S, P, e, rs, rh, t, le⟩ := h
  refine ⟨φ, δ, S, _, e, rs, rh, t, fun φ1 H1 b S1 e1 rh1 q1 => ?_⟩
  cases b with
  | true => exact iteT ⟨φ1, δ, S1, P, e.trans e1, rs.ext e1, rh1, q1, le.ext e1⟩
  | false => exact iteF ⟨φ1, δ, S1, P, e.trans e1, rs.ext e1, rh1, q1, le.ext e1⟩
/-- target = e -/
def dAsg (t : DT) (g : Tg) (E : DEnds) (δ : Env) (S : Store) : Prop := t δ S fun d S1 => optE (dBind g d δ) fun δ1 => E.nx δ1 S1
theorem ds_asg {tg : Expr} {g : Tg} (he : PE X e (lift X.K B ta)) (hg : PG X tg (gOf X.K g)) (hs : swapsWithSole [tg] e pos.line X.env = pure false := by rfl) (hw : swappedStores [tg] e X.env = pure none := by rfl)
    (h1 : (assignEach [tg] X.env).map (·.2) = [assign tg X.env] := by rfl) : PS X (.Assign [tg] e pos) (liftS X.K B (dAsg ta g)) := PS.imp (ps_asg he hg hs hw h1) fun σ H E h => by
  obtain ⟨φ, δ, S, P, e, rs, rh, t, le⟩ := h
  refine ⟨φ, δ, S, _, e, rs, rh, t, fun φ1 H1 d v S1 e1 rh1 rd q1 => ?_⟩
  obtain ⟨δ1, ed, q⟩ := optE_at q1
  exact bind_ok (rs.ext e1) rd ed fun σ1 rs1 _ => le.nx φ1 H1 σ1 δ1 S1 e1 rs1 rh1 q
/-- x = e -/
def dSet (i : Nat) (t : DT) (E : DEnds) (δ : Env) (S : Store) : Prop := t δ S fun d S1 => E.nx (δ.set i (some d)) S1
theorem ds_set {i : Nat} {x : Str} {pos' : Pos} (he : PE X e (lift X.K B ta)) (hN : X.N.Nodup) (hi : X.N[i]? = some x := by rfl) (hx : Loc X.env.scope x := by first | exact Or.inl rfl | exact Or.inr rfl) (hs : swapsWith e (some (.Name x pos')) pos.line X.env = pure false := by rfl)
    (hf : X.fn x = true ∨ X.env.scope.names.lookup x = some .local := by first | exact .inl rfl | exact .inr rfl) : PS X (.Assign [.Name x pos'] e pos) (liftS X.K B (dSet i ta)) := PS.imp (ps_set hN hi hx he hs hf) fun σ H E h => by
  obtain ⟨φ, δ, S, P, e, rs, rh, t, le⟩ := h
  exact ⟨φ, δ, S, _, e, rs, rh, t, fun φ1 H1 d v S1 e1 rh1 rd q1 => le.nx φ1 H1 _ _ S1 e1 ((rs.ext e1).set rd i) rh1 q1⟩
/-- x, y = e, f -/
def dPar (i j : Nat) (t : DTA) (E : DEnds) (δ : Env) (S : Store) : Prop := t δ S fun ds S1 => match ds with
  | [d, f] => E.nx ((δ.set i (some d)).set j (some f)) S1
  | _ => False
theorem ds_par {i j : Nat} {x y : Str} {px py pt : Pos} {kt k2 pt2} (hN : X.N.Nodup) (ha : PA X [a, b] (liftA X.K B t)) (hi : X.N[i]? = some x := by rfl) (hj : X.N[j]? = some y := by rfl) (hij : i ≠ j := by decide)
    (hx : X.env.scope.names.lookup x = some .local := by rfl) (hy : X.env.scope.names.lookup y = some .local := by rfl)
    (hw : swappedStores [.Tuple [.Name x px, .Name y py] kt pt] (.Tuple [a, b] k2 pt2) X.env = pure (some [x, y]) := by rfl) (hc : X.calm = true := by rfl)
    (hs : swapsWithSole [.Tuple [.Name x px, .Name y py] kt pt] (.Tuple [a, b] k2 pt2) pos.line X.env = pure false := by rfl) :
    PS X (.Assign [.Tuple [.Name x px, .Name y py] kt pt] (.Tuple [a, b] k2 pt2) pos) (liftS X.K B (dPar i j t)) := PS.imp (ps_par hc hN hi hj hij hx hy ha hw hs) fun σ H E h => by
  obtain ⟨φ, δ, S, P, e, rs, rh, t, le⟩ := h
  refine ⟨φ, δ, S, _, e, rs, rh, t, fun φ1 H1 ds vs S1 e1 rh1 rd q1 => ?_⟩
  split at q1
  · cases rd with
    | cons r1 r2 =>
      cases r2 with
      | cons r2 r3 => cases r3; exact ⟨_, _, rfl, le.nx φ1 H1 _ _ S1 e1 (((rs.ext e1).set r1 i).set r2 j) rh1 q1⟩
  · exact q1.elim
/-- x op= e, ints -/
def dAug (i : Nat) (t : DT) (f : Int → Int → Int) (E : DEnds) (δ : Env) (S : Store) : Prop := dGet δ i fun x => t δ S fun y S1 => match x, y with
  | .int m, .int n => E.nx (δ.set i (some (.int (f m n)))) S1
  | _, _ => False
theorem ds_aug {i : Nat} {x : Str} {op : Operator} {pos' : Pos} {f : Int → Int → Int} (he : PE X e (lift X.K B ta)) (ho : PIp X op (ipI f)) (hN : X.N.Nodup) (hi : X.N[i]? = some x := by rfl) (hx : Loc X.env.scope x := by first | exact Or.inl rfl | exact Or.inr rfl)
    (hf : X.fn x = true ∨ X.env.scope.names.lookup x = some .local := by first | exact .inl rfl | exact .inr rfl) : PS X (.AugAssign (.Name x pos') op e pos) (liftS X.K B (dAug i ta f)) := PS.imp (ps_aug hN hi hx he ho hf) fun σ H E h => by
  obtain ⟨φ, δ, S, P, e, rs, rh, t, le⟩ := h
  obtain ⟨d, ed, t⟩ := dGet_at t
  obtain ⟨v, ev, rv⟩ := rs.at_ i d ed
  refine ⟨v, ev, φ, δ, S, _, e, rs, rh, t, fun φ1 H1 y w S1 e1 rh1 ry q1 => ?_⟩
  split at q1
  · cases rv; cases ry
    exact ⟨_, _, rfl, rfl, le.nx φ1 H1 _ _ S1 e1 ((rs.ext e1).set (.int _) i) rh1 q1⟩
  · exact q1.elim
/-- while: an invariant of slots and store, with its measure -/
def dWhile (c : DTT) (tb : DTS) (E : DEnds) (δ : Env) (S : Store) : Prop := ∃ W : Nat → Env → Store → Prop, (∃ m, W m δ S) ∧ ∀ m δ S, W m δ S →
  c δ S fun b S1 => bIf b (tb { E with nx := fun δ' S' => ∃ m', m' < m ∧ W m' δ' S', ct := fun δ' S' => ∃ m', m' < m ∧ W m' δ' S', bk := E.nx } δ S1) (E.nx δ S1)
theorem ds_while {body : List Stmt} (hp : PassesOwn (model X.prog X.w) X.A X.env X.xe) (hc : PT X c (liftT X.K B uC)) (hb : PSs X body (liftS X.K B u)) : PS X (.While c body [] pos) (liftS X.K B (dWhile uC u)) := PS.imp (ps_while hp hc hb) fun σ H E h => by
  obtain ⟨φ, δ, S, P, e, rs, rh, ⟨W, ⟨m0, w0⟩, turn⟩, le⟩ := h
  refine ⟨fun m σ' H' => ∃ φ' δ' S', Ext X.K φ φ' H H' ∧ RS X.K φ' H' σ' δ' ∧ RH X.K φ' H' S' ∧ W m δ' S', ⟨m0, φ, δ, S, .refl, rs, rh, w0⟩, ?_⟩
  rintro m σ1 H1 ⟨φ1, δ1, S1, e1, rs1, rh1, w1⟩
  refine ⟨φ1, δ1, S1, _, e.trans e1, rs1, rh1, turn m δ1 S1 w1, fun φ2 H2 b S2 e2 rh2 q2 => ?_⟩
  have e12 := e1.trans e2
  cases b with
  | false => exact iteF (le.nx φ2 H2 σ1 δ1 S2 e12 (rs1.ext e2) rh2 q2)
  | true =>
    refine iteT ⟨fun σ' H' => ∃ m', m' < m ∧ ∃ φ' δ' S', Ext X.K φ φ' H H' ∧ RS X.K φ' H' σ' δ' ∧ RH X.K φ' H' S' ∧ W m' δ' S', fun σ' H' hN => hN, ?_⟩
    refine ⟨φ2, δ1, S2, _, e.trans e12, rs1.ext e2, rh2, q2, ?_⟩
    exact ⟨fun φ5 H5 σ5 δ5 S5 e5 rs5 rh5 ⟨m', hm, w5⟩ => ⟨m', hm, φ5, δ5, S5, e12.trans e5, rs5, rh5, w5⟩, fun φ5 H5 d v S5 e5 rh5 rd5 q5 => le.rt φ5 H5 d v S5 (e12.trans e5) rh5 rd5 q5,
      fun φ5 H5 σ5 δ5 S5 e5 rs5 rh5 q5 => le.nx φ5 H5 σ5 δ5 S5 (e12.trans e5) rs5 rh5 q5, fun φ5 H5 σ5 δ5 S5 e5 rs5 rh5 ⟨m', hm, w5⟩ => ⟨m', hm, φ5, δ5, S5, e12.trans e5, rs5, rh5, w5⟩⟩

/-! ## what is stored into lists and dicts -/
/-- xs[i] = e -/
def dSetIx (tv to ti : DT) (E : DEnds) (δ : Env) (S : Store) : Prop := tv δ S fun v S1 => to δ S1 fun o S2 => ti δ S2 fun i S3 => match o, i with
  | .ref n, .int k => dMut S3 n fun xs => match ixN xs.length k with
    | some j => E.nx δ (S3.set n (.lst (xs.set j v)))
    | none => False
  | _, _ => False
theorem set_ok {K : PySem.W.Frag} {φ : List Addr} {H : Hp} {S : Store} {n : Nat} {a : Addr} {vs : List V} (rh : RH K φ H S) (ha : φ[n]? = some a) (e1 : H a = some (.lst vs)) {ys : List D} {ws : List V} (r : RDs K φ H ys ws) :
    Ext K φ φ H (upd H a (.lst ws)) ∧ RH K φ (upd H a (.lst ws)) (S.set n (.lst ys)) :=
  rh.write ha (fun vs z => by rw [e1] at z; cases z) (fun ob u z => by rw [e1] at z; cases z) (show RC K φ _ (.lst ys) a from ⟨ws, upd_same, r.kp (Kp.at_lst e1)⟩)
theorem ds_setIx (hv : PE X value (lift X.K B tv)) (ho : PE X o (lift X.K B to)) (hi : PE X i (lift X.K B ti)) (hs : swapsWithSole [.Subscript o i p2] value pos.line X.env = pure false := by rfl) (hw : swappedStores [.Subscript o i p2] value X.env = pure none := by rfl)
    (h1 : (assignEach [.Subscript o i p2] X.env).map (·.2) = [assign (.Subscript o i p2) X.env] := by rfl)
    (ha : ∀ v, assign (.Subscript o i p2) X.env v = (do
      let ov ← holding [v] (eval o X.env)
      let iv ← holding [v, ov] (eval i X.env)
      standAt p2
      holding [v, ov, iv] (setItem ov iv v)
      release [v, ov, iv] []) := by intro _; rfl) : PS X (.Assign [.Subscript o i p2] value pos) (liftS X.K B (dSetIx tv to ti)) := PS.imp (ps_asg hv (pg_sub ho hi set_list ha) hs hw h1) fun σ H E h => by
  obtain ⟨φ, δ, S, P, e, rs, rh, t, le⟩ := h
  refine ⟨φ, δ, S, _, e, rs, rh, t, fun φ1 H1 d v S1 e1 rh1 rd q1 => ?_⟩
  refine ⟨φ1, δ, S1, _, e.trans e1, rs.ext e1, rh1, q1, fun φ2 H2 x w S2 e2 rh2 rx q2 => ?_⟩
  refine ⟨φ2, δ, S2, _, (e.trans e1).trans e2, (rs.ext e1).ext e2, rh2, q2, fun φ3 H3 y z S3 e3 rh3 ry q3 => ?_⟩
  cases x with
  | ref n =>
    cases y with
    | int k =>
      have rx := rx.ext e3
      cases rx with
      | ref hn =>
        cases ry
        obtain ⟨xs, vs, _, q, eh, r⟩ := dMut_at rh3 hn (show dMut S3 n _ from q3)
        cases ej : ixN xs.length k with
        | none => rw [ej] at q; exact q.elim
        | some j =>
          rw [ej] at q
          have e123 := (e1.trans e2).trans e3
          obtain ⟨ex, rh4⟩ := set_ok rh3 hn eh (r.set ((rd.ext e2).ext e3) j)
          exact ⟨_, vs, k, j, rfl, rfl, eh, by rw [← r.length]; exact ej, le.nx φ3 _ σ δ _ (e123.trans ex) ((rs.ext e123).ext ex) rh4 q⟩
    | _ => exact (show False from q3).elim
  | _ => exact (show False from q3).elim
/-- keys -/
def keyD : D → Option Key
  | .int i => some (.inl i)
  | .str x => some (.inr x)
  | _ => none
def dval : List (Key × D) → Key → Option D
  | [], _ => none
  | (k, d) :: r, j => if k = j then some d else dval r j
def dput : List (Key × D) → Key → D → List (Key × D)
  | [], j, v => [(j, v)]
  | (k, d) :: r, j, v => if k = j then (k, v) :: r else (k, d) :: dput r j v
theorem RK.val {K : PySem.W.Frag} {φ : List Addr} {H : Hp} {j : Key} : ∀ {ds : List (Key × D)} {vs : List (Key × V)} {d : D}, RK K φ H ds vs → dval ds j = some d → ∃ v, valV vs j = some v ∧ RD K φ H d v
  | [], _, _, .nil, h => nomatch h
  | (k, d) :: r, (_, v) :: vs, d', .cons h t, e => by
    unfold dval at e
    by_cases hk : k = j
    · rw [if_pos hk] at e; cases e
      exact ⟨v, valV_pos hk, h⟩
    · rw [if_neg hk] at e
      obtain ⟨w, h1, h2⟩ := RK.val t e
      exact ⟨w, by rw [valV_neg hk]; exact h1, h2⟩
theorem RK.put {K : PySem.W.Frag} {φ : List Addr} {H : Hp} {j : Key} {d' : D} {v' : V} (h' : RD K φ H d' v') : ∀ {ds : List (Key × D)} {vs : List (Key × V)}, RK K φ H ds vs → (ds.map (·.1)).Nodup → RK K φ H (dput ds j d') (putK vs j v')
  | [], _, .nil, _ => .cons h' .nil
  | (k, d) :: r, (_, v) :: vs, .cons h t, nd => by
    have keys : ∀ {ds : List (Key × D)} {vs : List (Key × V)}, RK K φ H ds vs → ds.map (·.1) = vs.map (·.1) := by
      intro ds vs r
      induction r with
      | nil => rfl
      | cons _ _ ih => rw [List.map_cons, List.map_cons, ih]
    have nd1 := List.nodup_cons.mp nd
    unfold dput
    by_cases hk : k = j
    · rw [if_pos hk]
      subst hk
      have e : putK ((k, v) :: vs) k v' = (k, v') :: vs := by
        unfold putK
        rw [if_pos (by simp)]
        rw [List.map_cons, if_pos rfl]
        congr 1
        have hn : ∀ p ∈ vs, ¬ p.1 = k := fun p hp z => nd1.1 (by rw [keys t]; exact List.mem_map.mpr ⟨p, hp, z⟩)
        clear nd nd1 t h
        induction vs with
        | nil => rfl
        | cons p vs ih =>
          rw [List.map_cons, if_neg (hn p List.mem_cons_self), ih fun q hq => hn q (List.mem_cons_of_mem _ hq)]
      rw [e]
      exact .cons h' t
    · rw [if_neg hk]
      have e : putK ((k, v) :: vs) j v' = (k, v) :: putK vs j v' := by
        unfold putK
        rw [List.any_cons]
        simp only [hk, decide_false, Bool.false_or]
        by_cases hv : (vs.any fun kv => decide (kv.1 = j)) = true
        · rw [if_pos hv, if_pos hv, List.map_cons, if_neg hk]
        · rw [if_neg hv, if_neg hv, List.cons_append]
      rw [e]
      exact .cons h (RK.put h' t nd1.2)
def dDic (S : Store) (n : Nat) (k : List (Key × D) → Prop) : Prop :=
  match S[n]? with
  | some (.dic kvs) => k kvs
  | _ => False
theorem dDic_at {K : PySem.W.Frag} {φ : List Addr} {H : Hp} {S : Store} {n : Nat} {a : Addr} {k : List (Key × D) → Prop} (rh : RH K φ H S) (ha : φ[n]? = some a) (h : dDic S n k) : ∃ xs vs, S[n]? = some (.dic xs) ∧ k xs ∧ H a = some (.dK vs) ∧ RK K φ H xs vs := by
  unfold dDic at h
  split at h
  · rename_i xs e
    obtain ⟨b, hb, vs, e2, r⟩ := rh.cell e
    rw [ha] at hb; cases hb
    exact ⟨xs, vs, e, h, e2, r⟩
  · exact h.elim
/-- d[k] -/
def dDGet (to ti : DT) (δ : Env) (S : Store) (Q : DQ) : Prop := to δ S fun o S1 => ti δ S1 fun i S2 => match o, keyD i with
  | .ref n, some k => dDic S2 n fun kvs => optD (dval kvs k) fun d => Q d S2
  | _, _ => False
theorem keyD_rel {K : PySem.W.Frag} {φ : List Addr} {H : Hp} {d : D} {v : V} {k : Key} (r : RD K φ H d v) (e : keyD d = some k) : v = kV k := by
  cases d with
  | int i => cases r; cases e; rfl
  | str i => cases r; cases e; rfl
  | _ => exact nomatch e
theorem de_dget {k : Nat} (hr : Room k X.A) (ho : PE X o (lift X.K B to)) (hi : PE X i (lift X.K B ti)) (hs : NoSl i := by intro _ _; rfl) : PE X (.Subscript o i pos) (lift X.K B (dDGet to ti)) := PE.imp (pe_dget (hu_of hr) ho hi hs) fun σ H Q h => by
  obtain ⟨φ, δ, S, P, e, rs, rh, t, k⟩ := h
  refine ⟨φ, δ, S, _, e, rs, rh, t, fun φ1 H1 x v S1 e1 rh1 rx q1 => ⟨φ1, δ, S1, _, e.trans e1, rs.ext e1, rh1, q1, fun φ2 H2 y w S2 e2 rh2 ry q2 => ?_⟩⟩
  split at q2
  · rename_i n kk hk
    have rx := rx.ext e2
    cases rx with
    | ref hn =>
      obtain ⟨kvs, vs, _, q, eh, r⟩ := dDic_at rh2 hn q2
      obtain ⟨d, ed, q⟩ := optD_at q
      obtain ⟨u, eu, ru⟩ := r.val ed
      refine ⟨_, u, rfl, ?_, k φ2 H2 d u S2 (e1.trans e2) rh2 ru q⟩
      rw [keyD_rel ry hk, ← eu]
      exact DGet.k eh
  · exact q2.elim
/-- d[k] = e -/
def dDPut (tv to ti : DT) (E : DEnds) (δ : Env) (S : Store) : Prop := tv δ S fun v S1 => to δ S1 fun o S2 => ti δ S2 fun i S3 => match o, keyD i with
  | .ref n, some k => dDic S3 n fun kvs => kvs.length < sizeLine ∧ (kvs.map (·.1)).Nodup ∧ E.nx δ (S3.set n (.dic (dput kvs k v)))
  | _, _ => False
theorem RK.length {K : PySem.W.Frag} {φ : List Addr} {H : Hp} {ds : List (Key × D)} {vs : List (Key × V)} (r : RK K φ H ds vs) : ds.length = vs.length := by
  induction r with
  | nil => rfl
  | cons _ _ ih => rw [List.length_cons, List.length_cons, ih]
theorem ds_dput {k : Nat} (hr : Room k X.A) (hv : PE X value (lift X.K B tv)) (ho : PE X o (lift X.K B to)) (hi : PE X i (lift X.K B ti)) (hs : swapsWith value (some (.Subscript o i p2)) pos.line X.env = pure false := by rfl) :
    PS X (.Assign [.Subscript o i p2] value pos) (liftS X.K B (dDPut tv to ti)) := PS.imp (ps_dput (hu_of hr) ho hi hv hs) fun σ H E h => by
  obtain ⟨φ, δ, S, P, e, rs, rh, t, le⟩ := h
  refine ⟨φ, δ, S, _, e, rs, rh, t, fun φ1 H1 d v S1 e1 rh1 rd q1 => ?_⟩
  refine ⟨φ1, δ, S1, _, e.trans e1, rs.ext e1, rh1, q1, fun φ2 H2 x w S2 e2 rh2 rx q2 => ?_⟩
  refine ⟨φ2, δ, S2, _, (e.trans e1).trans e2, (rs.ext e1).ext e2, rh2, q2, fun φ3 H3 y z S3 e3 rh3 ry q3 => ?_⟩
  split at q3
  · rename_i n kk hk
    have rx := rx.ext e3
    cases rx with
    | ref hn =>
      obtain ⟨kvs, vs, _, ⟨hl, nd, q⟩, eh, r⟩ := dDic_at rh3 hn q3
      have e123 := (e1.trans e2).trans e3
      have hkp : ∀ u, Kp X.K φ3 φ3 H3 (upd H3 _ (.dK u)) := fun u => ⟨fun dd vs h n => ⟨by rw [upd_ne (ne_of h eh (fun z => nomatch z))]; exact h, n⟩, fun _ _ q => q, fun b ws q => by
        rcases q with (q | ⟨ob, q⟩) | q
        · exact .inl (.inl (by rw [upd_ne (ne_of q eh (fun z => nomatch z))]; exact q))
        · exact .inl (.inr ⟨ob, by rw [upd_ne (ne_of q eh (fun z => nomatch z))]; exact q⟩)
        · exact .inr q, fun b ws q => by
        rcases q with ⟨ob, q⟩ | q
        · exact .inl ⟨ob, by rw [upd_ne (ne_of q eh (fun z => nomatch z))]; exact q⟩
        · exact .inr q⟩
      obtain ⟨ex, rh4⟩ := rh3.write hn (fun vs z => by rw [eh] at z; cases z) (fun ob u z => by rw [eh] at z; cases z)
        (show RC X.K φ3 _ (.dic (dput kvs kk d)) _ from ⟨putK vs kk v, upd_same, (r.put ((rd.ext e2).ext e3) nd).kp (hkp _)⟩)
      refine ⟨_, _, rfl, ?_, le.nx φ3 _ σ δ _ (e123.trans ex) ((rs.ext e123).ext ex) rh4 q⟩
      rw [keyD_rel ry hk]
      exact DPut.k eh (by rw [← r.length]; exact hl)
  · exact q3.elim
end
end DL

set_option Elab.async false
set_option linter.all false
set_option maxRecDepth 100000
set_option autoImplicit false
namespace DL
open PySem PySem.Spec L2

/-! ## what a def promises, over data -/
abbrev DXQ := Value → List (Str × D) → Store → Prop
abbrev DSp := List D → Store → DQ → DXQ → Prop
inductive RF (K : PySem.W.Frag) (φ : List Addr) (H : Hp) : List (Str × D) → List (Str × V) → Prop
  | nil : RF K φ H [] []
  | cons {k : Str} {d : D} {v : V} {ds : List (Str × D)} {vs : List (Str × V)} : RD K φ H d v → RF K φ H ds vs → RF K φ H ((k, d) :: ds) ((k, v) :: vs)
/-- an error that lies behind: its class, its fields -/
def XOk (K : PySem.W.Frag) (φ : List Addr) (H : Hp) (PX : DXQ) (E : XK) : Prop := ∀ φ' H' S' cls d fs vs, Ext K φ φ' H H' → RH K φ' H' S' → H' d = some (.xd vs) → d ∉ φ' → RF K φ' H' fs vs → PX cls fs S' → E cls (some d) H'
def QOk (K : PySem.W.Frag) (φ : List Addr) (H : Hp) (P : DQ) : VK := fun v H' => ∃ φ' d S', Ext K φ φ' H H' ∧ RH K φ' H' S' ∧ RD K φ' H' d v ∧ P d S'
structure DFn (P : Program) (w : World) (K : PySem.W.Frag) (mg : Str → Option Value) (base : Heap) (CX : CXT) (k : Nat) (f : Addr) (fd : FuncData) (ps : List Str) (dsp : DSp) : Prop where
  len : ∀ ds S Q E, dsp ds S Q E → ds.length = ps.length
  run : ∀ (A : Around) (outer : List PySem.Env) (s : Shared) (H : Hp) (args : Args) (us : List Value) (vs : List V) (φ : List Addr) (S : Store) (ds : List D) (PQ : DQ) (PX : DXQ) (E : XK),
    Room k A → A.guards = some [] → Env0 P w K mg base A outer s H → BindsTo s fd args (ps.zip us) → Vals vs us → RH K φ H S → RDs K φ H ds vs → dsp ds S PQ PX → XOk K φ H PX E →
      codeAny (model P w) A (.call (.ref f) args) (CR CX outer P w H s (QOk K φ H PQ) E) s
theorem DFn.mono {P : Program} {w : World} {K : PySem.W.Frag} {mg : Str → Option Value} {base : Heap} {CX : CXT} {j k : Nat} {f : Addr} {fd : FuncData} {ps : List Str} {dsp : DSp} (F : DFn P w K mg base CX j f fd ps dsp) (h : j ≤ k) : DFn P w K mg base CX k f fd ps dsp :=
  ⟨F.len, fun A outer s H args us vs φ S ds PQ PX E hr => F.run A outer s H args us vs φ S ds PQ PX E (hr.mono h)⟩

/-- a call f(e, ..) -/
def dCall (dsp : DSp) (PX : DXQ) (t : DTA) (δ : Env) (S : Store) (Q : DQ) : Prop := t δ S fun ds S1 => dsp ds S1 Q PX
def noX : DXQ := fun _ _ _ => False
section
variable {X : Cx} {B : Base} {CX : CXT} {k : Nat} {f : Addr} {fd : FuncData} {ps : List Str} {dsp : DSp} {E : XK} {PX : DXQ} {x : Str} {p pos : Pos} {e : Expr} {es : List Expr} {t : DTA}
theorem run_dfn {pins : List (Addr × Obj)} {σ : L2.St} {H : Hp} {s : Shared} {us : List Value} {vs : List V} {φ : List Addr} {S : Store} {ds es : List D} {ws : List V} {xs : List Value} {PQ : DQ} (F : DFn X.prog X.w X.K X.mg X.base CX k f fd ps dsp)
    (hr : Room k X.A) (hgd : X.A.guards = some []) (hb : Binds X.K fd ps xs) (hv : Vals ws xs) (hw : ∀ φ H, RDs X.K φ H es ws) (hx : Passes CX X E)
    (I : Inv X pins σ H s) (r : Vals vs us) (rh : RH X.K φ H S) (rd : RDs X.K φ H ds vs) (h : dsp (ds ++ es) S PQ PX) (hE : XOk X.K φ H PX E) : wpAny (model X.prog X.w) X.A (call (.ref f) us) (EP X pins σ (QOk X.K φ H PQ)) X.xe s := by
  have rd2 : RDs X.K φ H (ds ++ es) (vs ++ ws) := rd.append (hw φ H)
  have r2 : Vals (vs ++ ws) (us ++ xs) := r.append hv
  have hl : (us ++ xs).length = ps.length := by
    have h1 := F.len _ _ _ _ h
    have h2 := rd2.length
    have h3 := r2.length
    omega
  refine wpAny_call (codeAny_mono (F.run X.A X.stack s H ⟨us, []⟩ (us ++ xs) (vs ++ ws) φ S (ds ++ es) PQ PX E hr hgd I.env0 (hb s us I.kIn hl) r2 rh rd2 h hE) ?_)
  intro r s' hq
  match r, hq with
  | .error e, hq => exact hx pins σ H s e s' I hq
  | .ok (.ret u), hq => exact I.after hq
theorem de_callG {es' : List D} {ws : List V} {xs : List Value} (F : DFn X.prog X.w X.K X.mg X.base CX k f fd ps dsp) (hr : Room k X.A) (hgd : X.A.guards = some []) (hm : X.mg x = some (.ref f)) (hk : PySem.W.keepIn X.K (.ref f) = true) (hb : Binds X.K fd ps xs)
    (hv : Vals ws xs) (hw : ∀ φ H, RDs X.K φ H es' ws) (hx : Passes CX X E) (hE : ∀ φ H, Ext X.K B.φ φ B.H H → XOk X.K φ H PX E)
    (ha : PA X (e :: es) (liftA X.K B t)) (hg : Gl X x := by rfl) (hdb : (x == ("__debug__" : Str)) = false := by decide) (he : starEach (e :: es) X.env = (false, eval e X.env) :: starEach es X.env := by rfl)
    (hpl : (backTo pos (starEach es X.env)).any (·.1) = false := by rfl) : PE X (.Call (.Name x p) (e :: es) [] pos) (lift X.K B (fun δ S Q => t δ S fun ds S1 => dsp (ds ++ es') S1 Q PX)) := by
  constructor
  intro pins s σ H Q I h
  obtain ⟨φ, δ, S, P, ex, rs, rh, ht, kk⟩ := h
  refine wpAny_Call_Name_kw (ld_glob I hg hm ?_ hdb)
  have hA := ha.run pos pins s σ H (fun vs H1 => ∃ φ1 ds S1, Ext X.K φ φ1 H H1 ∧ RH X.K φ1 H1 S1 ∧ RDs X.K φ1 H1 ds vs ∧ dsp (ds ++ es') S1 P PX) I
    ⟨φ, δ, S, _, ex, rs, rh, ht, fun φ1 H1 ds vs S1 e1 rh1 rd1 q1 => ⟨φ1, ds, S1, e1, rh1, rd1, q1⟩⟩
  refine PySem.W.callWith_K (h₀ := X.base) I.ok.mod.kin hk (thn hA fun us s1 hus => ?_) he hpl
  obtain ⟨vs, H1, I1, r, φ1, ds, S1, e1, rh1, rd1, q1⟩ := hus
  refine ⟨I1.kIn, thn (run_dfn F hr hgd hb hv hw hx I1 r rh1 rd1 q1 (hE φ1 H1 (ex.trans e1))) fun u s2 hu => ?_⟩
  obtain ⟨v, H2, I2, ru, φ2, d, S2, e2, rh2, rd2, q2⟩ := hu
  exact ⟨v, H2, I2, ru, kk φ2 H2 d v S2 (e1.trans e2) rh2 rd2 q2⟩
theorem xok0 {K : PySem.W.Frag} {φ : List Addr} {H : Hp} {E : XK} : XOk K φ H noX E := fun _ _ _ _ _ _ _ _ _ _ _ _ z => False.elim z
/-- of a def that lets nothing out, every argument given -/
theorem de_call (F : DFn X.prog X.w X.K X.mg X.base CX0 k f fd ps dsp) (hr : Room k X.A) (hgd : X.A.guards = some []) (hm : X.mg x = some (.ref f)) (hk : PySem.W.keepIn X.K (.ref f) = true) (hb : Binds X.K fd ps [])
    (ha : PA X (e :: es) (liftA X.K B t)) (hg : Gl X x := by rfl) (hdb : (x == ("__debug__" : Str)) = false := by decide) (he : starEach (e :: es) X.env = (false, eval e X.env) :: starEach es X.env := by rfl)
    (hpl : (backTo pos (starEach es X.env)).any (·.1) = false := by rfl) : PE X (.Call (.Name x p) (e :: es) [] pos) (lift X.K B (dCall dsp noX t)) :=
  PE.imp (de_callG (es' := []) F hr hgd hm hk hb .nil (fun _ _ => .nil) pass0 (fun _ _ _ => xok0) ha hg hdb he hpl) fun σ H Q h => by
    obtain ⟨φ, δ, S, P, ex, rs, rh, ht, kk⟩ := h
    refine ⟨φ, δ, S, P, ex, rs, rh, ?_, kk⟩
    have hh : dCall dsp noX t δ S P := ht
    unfold dCall at hh
    simpa only [List.append_nil] using hh
end

/-! ## a def by its body -/
section
variable {P : Program} {w : World} {K : PySem.W.Frag} {mg : Str → Option Value} {base : Heap}
theorem dfn_of {CX : CXT} {k : Nat} {f : Addr} {name qual : Str} {params : Arguments} {body : List Stmt} {scope : Scope} {dV kV doc pm cdv ct oc : Value} {an od : Option Addr}
    {osl : Array (Option Value)} {N ps : List Str} {dsp : DSp} (lk : K.lookup f = some ⟨oc, od, .func (PySem.W.fnOf name qual params body scope dV kV doc pm an cdv ct), osl⟩) (hcd : PySem.W.codeIn K cdv qual = true) (Sc : FnScope N ps scope)
    (len : ∀ ds S Q E, dsp ds S Q E → ds.length = ps.length)
    (hbody : ∀ (A : Around) (outer : List PySem.Env) (s : Shared) (H : Hp) (φ : List Addr) (PX : DXQ) (E : XK), Room k (A.deeper (PyProof.Rows.envOfC qual scope s.heap.objs.size f cdv)) → A.guards = some [] → XOk K φ H PX E →
      ∃ t, PSs (cxOf CX P w K mg base N qual scope f cdv A outer s H E) body (liftS K ⟨φ, H⟩ t) ∧ ∀ ds S PQ, dsp ds S PQ PX → t { nx := fun _ S' => PQ .non S', rt := PQ } (dstart N ds) S) :
    DFn P w K mg base CX (k + 1) f (PySem.W.fnOf name qual params body scope dV kV doc pm an cdv ct) ps dsp := by
  refine ⟨len, fun A outer s H args us vs φ S ds PQ PX E hr hgd e0 hb r rh rd hsp hE => ?_⟩
  obtain ⟨t, ht, hq⟩ := hbody A outer s H φ PX E (hr.deeper _) hgd hE
  have hd := hq ds S PQ hsp
  have hlen : vs.length = ps.length := by
    have h1 := len _ _ _ _ hsp
    have h2 := rd.length
    omega
  have keep : ∀ b o, base.get? b = some o → s.heap.get? b = some o := fun b o e => (e0.bs b o e).1
  have kin := e0.mod.kin.keeps keep
  have lim := e0.mod.nolimit.keeps keep
  have kinds : ∀ y ∈ ps.zip us, scope.names.lookup y.1 = some .local ∨ (scope.names.lookup y.1 = some .cell ∧ ((cellsFrom (s.heap.objs.size + 1) scope.names []).lookup y.1).isSome = true) := by
    rintro ⟨n, v⟩ hy
    exact (Sc.par n (List.of_mem_zip hy).1).imp id fun q => ⟨q, PySem.W.cellsFrom_some _ _ _ (.inl q)⟩
  refine codeAny_call_function hr.depth (kin _ _ lk) rfl Sc.co Sc.gen rfl (PySem.W.codeRec_of kin hcd) (hb _ _ _ _ (wpAny_newFunctionEnv_cells Sc.kind kinds fun env he s1 x => ?_))
  subst he
  refine ⟨lim.keeps x.toInCall.keep, codeAny_func ?_⟩
  have I := inv_start (CX := CX) (P := P) (w := w) (K := K) (mg := mg) (base := base) (f := f) (cd := cdv) (qual := qual) (outer := outer) (E := E) Sc hr.hd e0 hlen r x
  have goal : liftS K ⟨φ, H⟩ t { nx := fun _ H' => QOk K φ H PQ .non H', rt := QOk K φ H PQ } (L2.start N vs) H :=
    ⟨φ, dstart N ds, S, _, .refl, RS.start rd, rh, hd, fun φ' H' σ δ S' e' rs' rh' q => ⟨φ', .non, S', e', rh', .non, q⟩, fun φ' H' d v S' e' rh' rd' q => ⟨φ', d, S', e', rh', rd', q⟩,
      fun _ _ _ _ _ _ _ _ q => q.elim, fun _ _ _ _ _ _ _ _ q => q.elim⟩
  refine wpAny_mono (ht.run [] s1 (L2.start N vs) H _ I goal) (fun fl s' hs => ?_) fun _ _ h => h
  match fl, hs with
  | .ret u, ⟨v, σ', H', J, rv, q⟩ => exact ⟨v, H', J.os, J.bare, J.base, J.hok, rv, q⟩
  | .next, ⟨σ', H', J, q⟩ => exact ⟨.non, H', J.os, J.bare, J.base, J.hok, rfl, q⟩
  | .brk, ⟨_, _, _, q⟩ => exact q.elim
  | .cont, ⟨_, _, _, q⟩ => exact q.elim
/-- THE RULE for a def that lets nothing out -/
theorem okD {x qual : Str} {st : Stmt} {f : Addr} {fd : FuncData} {N ps : List Str} {k : Nat} {dsp : DSp} (F : Fun K x qual st f fd) (Sc : FnScope N ps (defScope st)) (len : ∀ ds S Q E, dsp ds S Q E → ds.length = ps.length)
    (hbody : ∀ (cdv : Value) (A : Around) (outer : List PySem.Env) (s : Shared) (H : Hp) (E : XK) (B : Base) (PX : DXQ), Room k (A.deeper (PyProof.Rows.envOfC qual (defScope st) s.heap.objs.size f cdv)) → (A.deeper (PyProof.Rows.envOfC qual (defScope st) s.heap.objs.size f cdv)).guards = some [] →
      ∃ t, PSs (cxOf CX0 P w K mg base N qual (defScope st) f cdv A outer s H E).nox (defBody st) (liftS K B t) ∧ ∀ ds S PQ, dsp ds S PQ PX → t { nx := fun _ S' => PQ .non S', rt := PQ } (dstart N ds) S) :
    DFn P w K mg base CX0 (k + 1) f fd ps dsp := by
  obtain ⟨oc, od, kV, doc, pm, an, cdv, ct, osl, rfl, lk, hcd⟩ := F.ex
  refine dfn_of lk hcd Sc len fun A outer s H φ PX E hr hgd hE => ?_
  obtain ⟨t, h, q⟩ := hbody cdv A outer s H E ⟨φ, H⟩ PX hr hgd
  exact ⟨t, h.nox, q⟩
/-- for a def that may raise: hE says what is wanted of an error -/
theorem okDX {x qual : Str} {st : Stmt} {f : Addr} {fd : FuncData} {N ps : List Str} {k : Nat} {dsp : DSp} (F : Fun K x qual st f fd) (Sc : FnScope N ps (defScope st)) (len : ∀ ds S Q E, dsp ds S Q E → ds.length = ps.length)
    (hbody : ∀ (cdv : Value) (A : Around) (outer : List PySem.Env) (s : Shared) (H : Hp) (E : XK) (φ : List Addr) (PX : DXQ), Room k (A.deeper (PyProof.Rows.envOfC qual (defScope st) s.heap.objs.size f cdv)) → (A.deeper (PyProof.Rows.envOfC qual (defScope st) s.heap.objs.size f cdv)).guards = some [] → XOk K φ H PX E →
      ∃ t, PSs (cxOf (L2.CX P w) P w K mg base N qual (defScope st) f cdv A outer s H E) (defBody st) (liftS K ⟨φ, H⟩ t) ∧ ∀ ds S PQ, dsp ds S PQ PX → t { nx := fun _ S' => PQ .non S', rt := PQ } (dstart N ds) S) :
    DFn P w K mg base (L2.CX P w) (k + 1) f fd ps dsp := by
  obtain ⟨oc, od, kV, doc, pm, an, cdv, ct, osl, rfl, lk, hcd⟩ := F.ex
  exact dfn_of lk hcd Sc len fun A outer s H φ PX E hr hgd hE => hbody cdv A outer s H E φ PX hr hgd hE
end

end DL

set_option Elab.async false
set_option linter.all false
set_option maxRecDepth 100000
set_option autoImplicit false
namespace DL
open PySem PySem.Spec L2

/-! ## repr -/
mutual
theorem Py.noDict {S : Store} : ∀ {d : D} {p : PyData}, Py S d p → p.hasDict = false
  | _, _, .non => by simp only [PyData.hasDict]
  | _, _, .bl _ => by simp only [PyData.hasDict]
  | _, _, .int _ => by simp only [PyData.hasDict]
  | _, _, .str _ => by simp only [PyData.hasDict]
  | _, _, .tup h => by simp only [PyData.hasDict]; exact PyA.noDict h
  | _, _, .lst _ h => by simp only [PyData.hasDict]; exact PyA.noDict h
theorem PyA.noDict {S : Store} : ∀ {ds : List D} {ps : List PyData}, PyA S ds ps → PyData.hasDictAll ps = false
  | _, _, .nil => by simp only [PyData.hasDictAll]
  | _, _, .cons h t => by simp only [PyData.hasDictAll, Py.noDict h, PyA.noDict t, Bool.or_self]
end
structure Fit (p : PyData) : Prop where
  shows : p.showable = true
  deep : p.depth ≤ 60
  size : p.shown.length ≤ sizeLine
def rRepr (K : PySem.W.Frag) : List V → Hp → VK → Prop := fun xs H Q => ∃ x d, xs = [x] ∧ Dp K H x d ∧ d.hasDict = false ∧ Fit d ∧ Q (.str d.shown) H
theorem call_repr {X : Cx} {k : Nat} (hr : Room k X.A) (hgd : X.A.guards = some []) : CallR X (.builtin "repr") (rRepr X.K) := by
  intro pins s σ H xs us Q I r h
  obtain ⟨x, d, rfl, hd, hn, fit, q⟩ := h
  obtain ⟨u, rfl, ru⟩ := vals1 r
  have hu := hr.units
  have hdp := fit.deep
  cases hd with
  | non => cases ru; exact PySem.P.repr_of_none ⟨.str _, H, I.tok _, ⟨_, rfl⟩, by simpa only [PyData.shown] using q⟩
  | bl b => cases ru; exact PySem.P.repr_of_bool ⟨.str _, H, I.tok _, ⟨_, rfl⟩, by simpa only [PyData.shown] using q⟩
  | int i =>
    obtain ⟨t, rfl⟩ := ru
    have hs := fit.shows
    simp only [PyData.showable, decide_eq_true_eq] at hs
    exact PySem.P.repr_of_int hs ⟨.str _, H, I.tok _, ⟨_, rfl⟩, by simpa only [PyData.shown] using q⟩
  | str z =>
    obtain ⟨t, rfl⟩ := ru
    have hz := fit.size
    simp only [PyData.shown] at hz
    exact PySem.P.repr_of_str ⟨.str _, H, I.tok _, ⟨_, rfl⟩, by simpa only [PyData.shown] using q⟩ hz
  | lst h1 h2 =>
    cases ru
    obtain ⟨as, r1⟩ := Dp.reads I _ _ _ (.lst h1 h2) rfl
    exact repr_of_reads' r1 fit.shows (PyData.noDict_hsm hn) hgd (by omega) (fun _ _ e => e) (fun h' u tk hk => ⟨.str _, H, I.kept hk, ⟨u, rfl⟩, q⟩) fit.size
  | tup h1 h2 =>
    cases ru
    obtain ⟨as, r1⟩ := Dp.reads I _ _ _ (.tup h1 h2) rfl
    exact repr_of_reads' r1 fit.shows (PyData.noDict_hsm hn) hgd (by omega) (fun _ _ e => e) (fun h' u tk hk => ⟨.str _, H, I.kept hk, ⟨u, rfl⟩, q⟩) fit.size

/-! ## calls of built-ins with one value, with one fresh list -/
def one (r : D1) : DN
  | [x], S, Q => r x S Q
  | _, _, _ => False
section
variable {X : Cx} {B : Base} {a b c e o : Expr} {es : List Expr} {ta tb tc : DT} {t : DTA} {pos p p2 apos : Pos} {x : Str} {bid T : String}
theorem snd_one {K : PySem.W.Frag} {r : D1} {r' : List V → Hp → VK → Prop} (h : ∀ (φ : List Addr) (H : Hp) (S : Store) (x : D) (v : V) (P : DQ) (Q : VK), RH K φ H S → RD K φ H x v → r x S P →
    (∀ φ' H' d u S', Ext K φ φ' H H' → RH K φ' H' S' → RD K φ' H' d u → P d S' → Q u H') → r' [v] H Q) : SndN K (one r) r' := by
  intro φ H S xs vs P Q rh rx h1 k
  cases xs with
  | nil => exact (show False from h1).elim
  | cons x xs =>
    cases xs with
    | nil =>
      cases rx with
      | cons r1 r2 => cases r2; exact h φ H S x _ P Q rh r1 h1 k
    | cons y ys => exact (show False from h1).elim
/-- f(e) -/
theorem de_b1 {r : D1} {r' : List V → Hp → VK → Prop} (s : SndN X.K (one r) r') (hc : CallR X (.builtin bid) r') (hv : bootBuiltins x = some (.builtin bid)) (hm : X.mg x = none) (ha : PE X a (lift X.K B ta)) (hg : Gl X x := by rfl) (hn : x ≠ "__name__" := by decide) (hdb : (x == ("__debug__" : Str)) = false := by decide)
    (he : starEach [a] X.env = [(false, eval a X.env)] := by rfl) : PE X (.Call (.Name x p) [a] [] pos) (lift X.K B (dUn r ta)) :=
  PE.imp (pe_callB hc hg hm hv (da_cons ha (da_nil (B := B)) (by rw [he]; rfl)) hn hdb (by rw [he]; rfl) (by rfl)) fun σ H Q h => by
    refine lift_cb s ?_
    obtain ⟨φ, δ, S, P, ex, rs, rh, ht, k⟩ := h
    exact ⟨φ, δ, S, P, ex, rs, rh, ht, k⟩
theorem de_t1 {r : D1} {r' : List V → Hp → VK → Prop} (s : SndN X.K (one r) r') (hc : CallR X (.type T) r') (hv : bootBuiltins x = some (.type T)) (hm : X.mg x = none) (ha : PE X a (lift X.K B ta)) (hg : Gl X x := by rfl) (hn : x ≠ "__name__" := by decide) (hdb : (x == ("__debug__" : Str)) = false := by decide)
    (he : starEach [a] X.env = [(false, eval a X.env)] := by rfl) : PE X (.Call (.Name x p) [a] [] pos) (lift X.K B (dUn r ta)) :=
  PE.imp (pe_callTy hc hg hm hv (da_cons ha (da_nil (B := B)) (by rw [he]; rfl)) hn hdb (by rw [he]; rfl) (by rfl)) fun σ H Q h => by
    refine lift_cb s ?_
    obtain ⟨φ, δ, S, P, ex, rs, rh, ht, k⟩ := h
    exact ⟨φ, δ, S, P, ex, rs, rh, ht, k⟩
/-- f(a list just made) -/
theorem de_bL {r : DN} {r' : List V → Hp → VK → Prop} (s : SndL X.K r r') (hc : CallR X (.builtin bid) r') (hv : bootBuiltins x = some (.builtin bid)) (hm : X.mg x = none) (ha : PE X a (liftL X.K B t)) (hg : Gl X x := by rfl) (hn : x ≠ "__name__" := by decide) (hdb : (x == ("__debug__" : Str)) = false := by decide)
    (he : starEach [a] X.env = [(false, eval a X.env)] := by rfl) : PE X (.Call (.Name x p) [a] [] pos) (lift X.K B (dCB r t)) :=
  PE.imp (pe_callB hc hg hm hv (pa_cons ha pa_nil (by rw [he]; rfl)) hn hdb (by rw [he]; rfl) (by rfl)) fun σ H Q h => lift_cbL s h
theorem de_tL {r : DN} {r' : List V → Hp → VK → Prop} (s : SndL X.K r r') (hc : CallR X (.type T) r') (hv : bootBuiltins x = some (.type T)) (hm : X.mg x = none) (ha : PE X a (liftL X.K B t)) (hg : Gl X x := by rfl) (hn : x ≠ "__name__" := by decide) (hdb : (x == ("__debug__" : Str)) = false := by decide)
    (he : starEach [a] X.env = [(false, eval a X.env)] := by rfl) : PE X (.Call (.Name x p) [a] [] pos) (lift X.K B (dCB r t)) :=
  PE.imp (pe_callTy hc hg hm hv (pa_cons ha pa_nil (by rw [he]; rfl)) hn hdb (by rw [he]; rfl) (by rfl)) fun σ H Q h => lift_cbL s h

/-! ### repr(x), repr([..]) -/
def dRepr (x : D) (S : Store) (Q : DQ) : Prop := ∃ p, Py S x p ∧ Fit p ∧ Q (.str p.shown) S
def dReprL (xs : List D) (S : Store) (Q : DQ) : Prop := ∃ ps, PyA S xs ps ∧ Fit (.list ps) ∧ Q (.str (PyData.list ps).shown) S
theorem dRepr_ok {K : PySem.W.Frag} : SndN K (one dRepr) (rRepr K) := snd_one fun φ H S x v P Q rh rx h k => by
  obtain ⟨p, hp, fit, q⟩ := h
  exact ⟨v, p, rfl, hp.dp rh rx, hp.noDict, fit, k φ H _ _ S .refl rh (.str _) q⟩
theorem dReprL_ok {K : PySem.W.Frag} : SndL K dReprL (rRepr K) := fun φ H S xs vs p P Q rh hp np rx h k => by
  obtain ⟨ps, ha, fit, q⟩ := h
  exact ⟨_, .list ps, rfl, .lst (.inl (.inl hp)) (ha.dp rh rx), by simp only [PyData.hasDict]; exact ha.noDict, fit, k φ H _ _ S .refl rh (.str _) q⟩
theorem de_repr {k : Nat} (hr : Room k X.A) (hgd : X.A.guards = some []) (hm : X.mg "repr" = none) (ha : PE X a (lift X.K B ta)) (hg : Gl X "repr" := by rfl) (he : starEach [a] X.env = [(false, eval a X.env)] := by rfl) : PE X (.Call (.Name "repr" p) [a] [] pos) (lift X.K B (dUn dRepr ta)) :=
  de_b1 dRepr_ok (call_repr hr hgd) PyProof.Rows.boot_repr hm ha hg (by decide) (by decide) he
theorem de_reprL {k : Nat} (hr : Room k X.A) (hgd : X.A.guards = some []) (hm : X.mg "repr" = none) (ha : PE X a (liftL X.K B t)) (hg : Gl X "repr" := by rfl) (he : starEach [a] X.env = [(false, eval a X.env)] := by rfl) : PE X (.Call (.Name "repr" p) [a] [] pos) (lift X.K B (dCB dReprL t)) :=
  de_bL dReprL_ok (call_repr hr hgd) PyProof.Rows.boot_repr hm ha hg (by decide) (by decide) he

/-! ### len -/
def dLenV : D1
  | .str z, S, Q => z.length ≤ sizeLine ∧ Q (.int z.length) S
  | .tup xs, S, Q => Q (.int xs.length) S
  | .ref n, S, Q => dLst S n fun xs => Q (.int xs.length) S
  | .fz xs, S, Q => Q (.int xs.length) S
  | _, _, _ => False
def dLenL (xs : List D) (S : Store) (Q : DQ) : Prop := Q (.int xs.length) S
def rLen (K : PySem.W.Frag) : List V → Hp → VK → Prop := fun xs H Q => (∃ p ys, xs = [.ref p] ∧ (SqL K H p ys ∨ SqT K H p ys) ∧ Q (.int ys.length) H) ∨ ∃ z, xs = [.str z] ∧ z.length ≤ sizeLine ∧ Q (.int z.length) H
theorem call_lenV : CallR X (.builtin "len") (rLen X.K) := CallR.or call_len_seq call_len_str
theorem dLenV_ok {K : PySem.W.Frag} : SndN K (one dLenV) (rLen K) := snd_one fun φ H S x v P Q rh rx h k => by
  cases x with
  | str z => cases rx; exact .inr ⟨z, rfl, h.1, k φ H _ _ S .refl rh (.int _) h.2⟩
  | tup xs =>
    cases rx with
    | tup ha ra => exact .inl ⟨_, _, rfl, .inr ha, by rw [← ra.length]; exact k φ H _ _ S .refl rh (.int _) h⟩
  | ref n =>
    cases rx with
    | ref ha =>
      obtain ⟨xs, vs, q, hl, r⟩ := dLst_at rh ha (show dLst S n _ from h)
      exact .inl ⟨_, _, rfl, .inl hl, by rw [← r.length]; exact k φ H _ _ S .refl rh (.int _) q⟩
  | fz xs =>
    cases rx with
    | fz ha ra => exact .inl ⟨_, _, rfl, .inl ha.sq, by rw [← ra.length]; exact k φ H _ _ S .refl rh (.int _) h⟩
  | _ => exact (show False from h).elim
theorem dLenL_ok {K : PySem.W.Frag} : SndL K dLenL (rLen K) := fun φ H S xs vs p P Q rh hp np rx h k =>
  .inl ⟨_, _, rfl, .inl (.inl (.inl hp)), by rw [← rx.length]; exact k φ H _ _ S .refl rh (.int _) h⟩
theorem de_len (hm : X.mg "len" = none) (ha : PE X a (lift X.K B ta)) (hg : Gl X "len" := by rfl) (he : starEach [a] X.env = [(false, eval a X.env)] := by rfl) : PE X (.Call (.Name "len" p) [a] [] pos) (lift X.K B (dUn dLenV ta)) :=
  de_b1 dLenV_ok call_lenV PySem.boot_len hm ha hg (by decide) (by decide) he
theorem de_lenL (hm : X.mg "len" = none) (ha : PE X a (liftL X.K B t)) (hg : Gl X "len" := by rfl) (he : starEach [a] X.env = [(false, eval a X.env)] := by rfl) : PE X (.Call (.Name "len" p) [a] [] pos) (lift X.K B (dCB dLenL t)) :=
  de_bL dLenL_ok call_lenV PySem.boot_len hm ha hg (by decide) (by decide) he

/-! ### tuple, list -/
def dTupV : D1
  | .tup xs, S, Q => Q (.tup xs) S
  | .ref n, S, Q => dLst S n fun xs => Q (.tup xs) S
  | _, _, _ => False
def dTupL (xs : List D) (S : Store) (Q : DQ) : Prop := Q (.tup xs) S
def rTupV (K : PySem.W.Frag) : List V → Hp → VK → Prop := fun xs H Q => ∃ p ys, xs = [.ref p] ∧ ((SqL K H p ys ∧ ∀ l, H l = none → Q (.ref l) (upd H l (.tup ys))) ∨ (SqT K H p ys ∧ Q (.ref p) H))
theorem dTupV_ok {K : PySem.W.Frag} : SndN K (one dTupV) (rTupV K) := snd_one fun φ H S x v P Q rh rx h k => by
  cases x with
  | tup xs =>
    cases rx with
    | tup ha ra => exact ⟨_, _, rfl, .inr ⟨ha, k φ H _ _ S .refl rh (.tup ha ra) h⟩⟩
  | ref n =>
    cases rx with
    | ref ha =>
      obtain ⟨xs, vs, q, hl, r⟩ := dLst_at rh ha (show dLst S n _ from h)
      exact ⟨_, _, rfl, .inl ⟨hl, fun l hl => k φ _ _ _ S (Ext.side hl) (rh.side hl) (RDs.mk_tup hl r) q⟩⟩
  | _ => exact (show False from h).elim
theorem dTupL_ok {K : PySem.W.Frag} : SndL K dTupL (rTupV K) := fun φ H S xs vs p P Q rh hp np rx h k =>
  ⟨_, _, rfl, .inl ⟨.inl (.inl hp), fun l hl => k φ _ _ _ S (Ext.side hl) (rh.side hl) (RDs.mk_tup hl rx) h⟩⟩
theorem de_tuple (hm : X.mg "tuple" = none) (ha : PE X a (lift X.K B ta)) (hg : Gl X "tuple" := by rfl) (he : starEach [a] X.env = [(false, eval a X.env)] := by rfl) : PE X (.Call (.Name "tuple" p) [a] [] pos) (lift X.K B (dUn dTupV ta)) :=
  de_t1 dTupV_ok call_tuple_of PyProof.Rows.boot_tuple hm ha hg (by decide) (by decide) he
theorem de_tupleL (hm : X.mg "tuple" = none) (ha : PE X a (liftL X.K B t)) (hg : Gl X "tuple" := by rfl) (he : starEach [a] X.env = [(false, eval a X.env)] := by rfl) : PE X (.Call (.Name "tuple" p) [a] [] pos) (lift X.K B (dCB dTupL t)) :=
  de_tL dTupL_ok call_tuple_of PyProof.Rows.boot_tuple hm ha hg (by decide) (by decide) he
/-- a call that makes a list, not kept -/
def SndM (K : PySem.W.Frag) (r : D → Store → (List D → Store → Prop) → Prop) (r' : List V → Hp → VK → Prop) : Prop := ∀ (φ : List Addr) (H : Hp) (S : Store) (x : D) (v : V) (P : List D → Store → Prop) (Q : VK), RH K φ H S → RD K φ H x v → r x S P →
  (∀ φ' H' ds vs S' p, Ext K φ φ' H H' → H' p = some (.lst vs) → p ∉ φ' → H p = none → RH K φ' H' S' → RDs K φ' H' ds vs → P ds S' → Q (.ref p) H') → r' [v] H Q
def dMk (r : D → Store → (List D → Store → Prop) → Prop) (ta : DT) (δ : Env) (S : Store) (Q : List D → Store → Prop) : Prop := ta δ S fun x S1 => r x S1 Q
def dItems : D → Store → (List D → Store → Prop) → Prop
  | .tup xs, S, Q => Q xs S
  | .ref n, S, Q => dLst S n fun xs => Q xs S
  | .fz xs, S, Q => Q xs S
  | _, _, _ => False
def rListV (K : PySem.W.Frag) : List V → Hp → VK → Prop := fun xs H Q => ∃ p ys, xs = [.ref p] ∧ (SqL K H p ys ∨ SqT K H p ys) ∧ ∀ l, H l = none → Q (.ref l) (upd H l (.lst ys))
theorem dItems_ok {K : PySem.W.Frag} : SndM K dItems (rListV K) := fun φ H S x v P Q rh rx h k => by
  have fin : ∀ (vs : List V) (xs : List D), RDs K φ H xs vs → P xs S → ∀ l, H l = none → Q (.ref l) (upd H l (.lst vs)) := fun vs xs r q l hl =>
    k φ _ xs vs S l (Ext.side hl) upd_same (rh.notin hl) hl (rh.side hl) (r.ext (Ext.side hl)) q
  cases x with
  | tup xs =>
    cases rx with
    | tup ha ra => exact ⟨_, _, rfl, .inr ha, fin _ xs ra h⟩
  | ref n =>
    cases rx with
    | ref ha =>
      obtain ⟨xs, vs, q, hl, r⟩ := dLst_at rh ha (show dLst S n _ from h)
      exact ⟨_, _, rfl, .inl hl, fin _ xs r q⟩
  | fz xs =>
    cases rx with
    | fz ha ra => exact ⟨_, _, rfl, .inl ha.sq, fin _ xs ra h⟩
  | _ => exact (show False from h).elim
theorem dl_list (hm : X.mg "list" = none) (ha : PE X a (lift X.K B ta)) (hg : Gl X "list" := by rfl) (he : starEach [a] X.env = [(false, eval a X.env)] := by rfl) : PE X (.Call (.Name "list" p) [a] [] pos) (liftL X.K B (dMk dItems ta)) :=
  PE.imp (pe_callTy (r := rListV X.K) call_list_of hg hm PyProof.Rows.boot_list (pa_cons ha pa_nil (by rw [he]; rfl)) (by decide) (by decide) (by rw [he]; rfl) (by rfl)) fun σ H Q h => by
    obtain ⟨φ, δ, S, P, ex, rs, rh, ht, k⟩ := h
    exact ⟨φ, δ, S, _, ex, rs, rh, ht, fun φ1 H1 x v S1 e1 rh1 rx q1 => dItems_ok φ1 H1 S1 x v P Q rh1 rx q1 fun φ2 H2 ds vs S2 p e2 hp np hn rh2 rd q2 => k φ2 H2 ds vs S2 p (e1.trans e2) hp np (rh.free rh1 e1 hn) rh2 rd q2⟩
theorem dl_listL (hm : X.mg "list" = none) (ha : PE X a (liftL X.K B t)) (hg : Gl X "list" := by rfl) (he : starEach [a] X.env = [(false, eval a X.env)] := by rfl) : PE X (.Call (.Name "list" p) [a] [] pos) (liftL X.K B t) :=
  PE.imp (pe_callTy (r := rListV X.K) call_list_of hg hm PyProof.Rows.boot_list (pa_cons ha pa_nil (by rw [he]; rfl)) (by decide) (by decide) (by rw [he]; rfl) (by rfl)) fun σ H Q h => by
    obtain ⟨φ, δ, S, P, ex, rs, rh, ht, k⟩ := h
    exact ⟨φ, δ, S, _, ex, rs, rh, ht, fun φ1 H1 xs vs S1 p e1 hp np hn rh1 rx q1 => ⟨p, vs, rfl, .inl (.inl (.inl hp)), fun l hl =>
      k φ1 _ xs vs S1 l (e1.trans (Ext.side hl)) upd_same (rh1.notin hl) (rh.free rh1 e1 hl) (rh1.side hl) (rx.ext (Ext.side hl)) q1⟩⟩

/-! ### all, any, max, min, sum of a list -/
def dAll (xs : List D) (S : Store) (Q : DQ) : Prop := ∃ bs : List Bool, xs = bs.map .bl ∧ Q (.bl (bs.all id)) S
def dAny (xs : List D) (S : Store) (Q : DQ) : Prop := ∃ bs : List Bool, xs = bs.map .bl ∧ Q (.bl (bs.any id)) S
def dMax (xs : List D) (S : Store) (Q : DQ) : Prop := ∃ ns : List Int, xs = ns.map .int ∧ 0 < ns.length ∧ ∀ m, m ∈ ns → (∀ y, y ∈ ns → y ≤ m) → Q (.int m) S
def dMin (xs : List D) (S : Store) (Q : DQ) : Prop := ∃ ns : List Int, xs = ns.map .int ∧ 0 < ns.length ∧ ∀ m, m ∈ ns → (∀ y, y ∈ ns → m ≤ y) → Q (.int m) S
def dSum (xs : List D) (S : Store) (Q : DQ) : Prop := ∃ ns : List Int, xs = ns.map .int ∧ Q (.int ns.sum) S
theorem dAll_ok {K : PySem.W.Frag} : SndL K dAll (rAll K) := fun φ H S xs vs p P Q rh hp np rx h k => by
  obtain ⟨bs, rfl, q⟩ := h
  rw [rx.bls_of] at hp
  exact ⟨p, bs, rfl, .inl (.inl hp), k φ H _ _ S .refl rh (.bl _) q⟩
theorem dAny_ok {K : PySem.W.Frag} : SndL K dAny (rAny K) := fun φ H S xs vs p P Q rh hp np rx h k => by
  obtain ⟨bs, rfl, q⟩ := h
  rw [rx.bls_of] at hp
  exact ⟨p, bs, rfl, .inl (.inl hp), k φ H _ _ S .refl rh (.bl _) q⟩
theorem dMax_ok {K : PySem.W.Frag} : SndL K dMax (rMax K) := fun φ H S xs vs p P Q rh hp np rx h k => by
  obtain ⟨bs, rfl, z, q⟩ := h
  rw [rx.ints_of] at hp
  exact ⟨p, bs, rfl, .inl (.inl hp), z, fun m h1 h2 => k φ H _ _ S .refl rh (.int _) (q m h1 h2)⟩
theorem dMin_ok {K : PySem.W.Frag} : SndL K dMin (rMin K) := fun φ H S xs vs p P Q rh hp np rx h k => by
  obtain ⟨bs, rfl, z, q⟩ := h
  rw [rx.ints_of] at hp
  exact ⟨p, bs, rfl, .inl (.inl hp), z, fun m h1 h2 => k φ H _ _ S .refl rh (.int _) (q m h1 h2)⟩
theorem dSum_ok {K : PySem.W.Frag} : SndL K dSum (rSum K) := fun φ H S xs vs p P Q rh hp np rx h k => by
  obtain ⟨bs, rfl, q⟩ := h
  rw [rx.ints_of] at hp
  exact ⟨p, bs, rfl, .inl (.inl hp), k φ H _ _ S .refl rh (.int _) q⟩
theorem de_allL (hm : X.mg "all" = none) (ha : PE X a (liftL X.K B t)) (hc : X.calm = true := by rfl) (hg : Gl X "all" := by rfl) (he : starEach [a] X.env = [(false, eval a X.env)] := by rfl) : PE X (.Call (.Name "all" p) [a] [] pos) (lift X.K B (dCB dAll t)) :=
  de_bL dAll_ok (cr_all hc) PyProof.Rows.boot_all hm ha hg (by decide) (by decide) he
theorem de_anyL (hm : X.mg "any" = none) (ha : PE X a (liftL X.K B t)) (hc : X.calm = true := by rfl) (hg : Gl X "any" := by rfl) (he : starEach [a] X.env = [(false, eval a X.env)] := by rfl) : PE X (.Call (.Name "any" p) [a] [] pos) (lift X.K B (dCB dAny t)) :=
  de_bL dAny_ok (cr_any hc) PyProof.Rows.boot_any hm ha hg (by decide) (by decide) he
theorem de_maxL (hm : X.mg "max" = none) (ha : PE X a (liftL X.K B t)) (hc : X.calm = true := by rfl) (hg : Gl X "max" := by rfl) (he : starEach [a] X.env = [(false, eval a X.env)] := by rfl) : PE X (.Call (.Name "max" p) [a] [] pos) (lift X.K B (dCB dMax t)) :=
  de_bL dMax_ok (cr_max hc) PyProof.Rows.boot_max hm ha hg (by decide) (by decide) he
theorem de_minL (hm : X.mg "min" = none) (ha : PE X a (liftL X.K B t)) (hc : X.calm = true := by rfl) (hg : Gl X "min" := by rfl) (he : starEach [a] X.env = [(false, eval a X.env)] := by rfl) : PE X (.Call (.Name "min" p) [a] [] pos) (lift X.K B (dCB dMin t)) :=
  de_bL dMin_ok (cr_min hc) PyProof.Rows.boot_min hm ha hg (by decide) (by decide) he
theorem de_sumL (hm : X.mg "sum" = none) (ha : PE X a (liftL X.K B t)) (hc : X.calm = true := by rfl) (hg : Gl X "sum" := by rfl) (he : starEach [a] X.env = [(false, eval a X.env)] := by rfl) : PE X (.Call (.Name "sum" p) [a] [] pos) (lift X.K B (dCB dSum t)) :=
  de_bL dSum_ok (cr_sum hc) PyProof.Rows.boot_sum hm ha hg (by decide) (by decide) he

/-! ### max(m, n), min(m, n), abs, int, str -/
def dTwo (f : Int → Int → Int) : DN
  | [.int i, .int j], S, Q => Q (.int (f i j)) S
  | _, _, _ => False
theorem dTwo_ok {K : PySem.W.Frag} {f : Int → Int → Int} : SndN K (dTwo f) (fun xs H Q => ∃ i j, xs = [.int i, .int j] ∧ Q (.int (f i j)) H) := fun φ H S xs vs P Q rh rx h k => by
  unfold dTwo at h
  split at h
  · cases rx with
    | cons r1 r2 =>
      cases r2 with
      | cons r2 r3 => cases r3; cases r1; cases r2; exact ⟨_, _, rfl, k φ H _ _ S .refl rh (.int _) h⟩
  · exact h.elim
theorem de_max2 (hm : X.mg "max" = none) (ha : PA X [a, b] (liftA X.K B t)) (hc : X.calm = true := by rfl) (hg : Gl X "max" := by rfl) (he : starEach [a, b] X.env = (false, eval a X.env) :: starEach [b] X.env := by rfl) (hpl : (backTo pos (starEach [b] X.env)).any (·.1) = false := by rfl) :
    PE X (.Call (.Name "max" p) [a, b] [] pos) (lift X.K B (dCB (dTwo fun i j => if j > i then j else i) t)) :=
  PE.imp (pe_callB (call_max2 hc) hg hm PyProof.Rows.boot_max ha (by decide) (by decide) he hpl) fun σ H Q h => lift_cb dTwo_ok h
theorem de_min2 (hm : X.mg "min" = none) (ha : PA X [a, b] (liftA X.K B t)) (hc : X.calm = true := by rfl) (hg : Gl X "min" := by rfl) (he : starEach [a, b] X.env = (false, eval a X.env) :: starEach [b] X.env := by rfl) (hpl : (backTo pos (starEach [b] X.env)).any (·.1) = false := by rfl) :
    PE X (.Call (.Name "min" p) [a, b] [] pos) (lift X.K B (dCB (dTwo fun i j => if j < i then j else i) t)) :=
  PE.imp (pe_callB (call_min2 hc) hg hm PyProof.Rows.boot_min ha (by decide) (by decide) he hpl) fun σ H Q h => lift_cb dTwo_ok h
def dToInt : D1
  | .int i, S, Q => Q (.int i) S
  | .bl k, S, Q => Q (.int (if k then 1 else 0)) S
  | _, _, _ => False
theorem dToInt_ok {K : PySem.W.Frag} : SndN K (one dToInt) (fun xs H Q => (∃ i, xs = [.int i] ∧ Q (.int i) H) ∨ ∃ k, xs = [.bl k] ∧ Q (.int (if k then 1 else 0)) H) := snd_one fun φ H S x v P Q rh rx h k => by
  cases x with
  | int i => cases rx; exact .inl ⟨i, rfl, k φ H _ _ S .refl rh (.int _) h⟩
  | bl b => cases rx; exact .inr ⟨b, rfl, k φ H _ _ S .refl rh (.int _) h⟩
  | _ => exact (show False from h).elim
theorem de_int1 (hm : X.mg "int" = none) (ha : PE X a (lift X.K B ta)) (hg : Gl X "int" := by rfl) (he : starEach [a] X.env = [(false, eval a X.env)] := by rfl) : PE X (.Call (.Name "int" p) [a] [] pos) (lift X.K B (dUn dToInt ta)) :=
  de_t1 dToInt_ok call_int1 PyProof.Rows.boot_int hm ha hg (by decide) (by decide) he
def dToStr : D1
  | .int i, S, Q => i.natAbs.log2 < 1920 ∧ Q (.str (toString i)) S
  | _, _, _ => False
theorem dToStr_ok {K : PySem.W.Frag} : SndN K (one dToStr) (fun xs H Q => ∃ i, xs = [.int i] ∧ i.natAbs.log2 < 1920 ∧ Q (.str (toString i)) H) := snd_one fun φ H S x v P Q rh rx h k => by
  cases x with
  | int i => cases rx; exact ⟨i, rfl, h.1, k φ H _ _ S .refl rh (.str _) h.2⟩
  | _ => exact (show False from h).elim
theorem de_str1 (hm : X.mg "str" = none) (ha : PE X a (lift X.K B ta)) (hg : Gl X "str" := by rfl) (he : starEach [a] X.env = [(false, eval a X.env)] := by rfl) : PE X (.Call (.Name "str" p) [a] [] pos) (lift X.K B (dUn dToStr ta)) :=
  de_t1 dToStr_ok call_str_int PyProof.Rows.boot_str hm ha hg (by decide) (by decide) he

/-! ### sorted, of a list of ints, of texts: a list, not kept -/
def dSorted (t : DTA) (δ : Env) (S : Store) (Q : List D → Store → Prop) : Prop := t δ S fun xs S1 => (∃ ns : List Int, xs = ns.map .int ∧ ∀ ns' : List Int, ns'.Perm ns → ns'.Pairwise (· ≤ ·) → Q (ns'.map .int) S1) ∨
  ∃ ss : List Str, xs = ss.map .str ∧ ss.length < 64 ∧ ∀ ys : List Str, ys.Perm ss → PyProof.Rows.sortedS ys = true → Q (ys.map .str) S1
def rSortedV (K : PySem.W.Frag) : List V → Hp → VK → Prop := fun xs H Q => rSortedI K xs H Q ∨ rSortedS K xs H Q
theorem RDs.strs {K : PySem.W.Frag} {φ : List Addr} {H : Hp} {ns : List Str} : RDs K φ H (ns.map D.str) (ns.map V.str) := by
  induction ns with
  | nil => exact .nil
  | cons n ns ih => exact .cons (.str n) ih
theorem dl_sortedL (hm : X.mg "sorted" = none) (ha : PE X a (liftL X.K B t)) (hg : Gl X "sorted" := by rfl) (he : starEach [a] X.env = [(false, eval a X.env)] := by rfl) : PE X (.Call (.Name "sorted" p) [a] [] pos) (liftL X.K B (dSorted t)) :=
  PE.imp (pe_callB (r := rSortedV X.K) (CallR.or cr_sortedI cr_sortedS) hg hm PyProof.Rows.boot_sorted (pa_cons ha pa_nil (by rw [he]; rfl)) (by decide) (by decide) (by rw [he]; rfl) (by rfl)) fun σ H Q h => by
    obtain ⟨φ, δ, S, P, ex, rs, rh, ht, k⟩ := h
    refine ⟨φ, δ, S, _, ex, rs, rh, ht, fun φ1 H1 xs vs S1 p e1 hp np hn rh1 rx q1 => ?_⟩
    rcases q1 with ⟨ns, rfl, q⟩ | ⟨ss, rfl, hl, q⟩
    · rw [rx.ints_of] at hp
      exact .inl ⟨p, ns, rfl, .inl (.inl hp), fun ns' l h1 h2 hl => k φ1 _ _ _ S1 l (e1.trans (Ext.side hl)) upd_same (rh1.notin hl) (rh.free rh1 e1 hl) (rh1.side hl) .ints (q ns' h1 h2)⟩
    · rw [rx.strs_of] at hp
      exact .inr ⟨p, ss, rfl, .inl (.inl hp), hl, fun ns' l h1 h2 hl => k φ1 _ _ _ S1 l (e1.trans (Ext.side hl)) upd_same (rh1.notin hl) (rh.free rh1 e1 hl) (rh1.side hl) .strs (q ns' h1 h2)⟩

/-! ### sep.join([..]), sep.join(xs) -/
def isS : D → (Str → Prop) → Prop
  | .str z, k => k z
  | _, _ => False
theorem isS_at {K : PySem.W.Frag} {φ : List Addr} {H : Hp} {d : D} {v : V} {k : Str → Prop} (r : RD K φ H d v) (h : isS d k) : ∃ z, d = .str z ∧ v = .str z ∧ k z := by
  cases d with
  | str z => cases r; exact ⟨z, rfl, rfl, h⟩
  | _ => exact (show False from h).elim
def dJoin (a : Str) (xs : List D) (S : Store) (Q : DQ) : Prop := ∃ ys : List Str, xs = ys.map .str ∧ (ys.map (·.length)).sum + ys.length * a.length ≤ 16777216 ∧ Q (.str (Txt.join a ys)) S
def dJoinL (to : DT) (t : DTA) (δ : Env) (S : Store) (Q : DQ) : Prop := to δ S fun x S1 => isS x fun z => t δ S1 fun xs S2 => dJoin z xs S2 Q
theorem de_joinL {to : DT} (ho : PE X o (lift X.K B to)) (ha : PE X a (liftL X.K B t)) (hs : starEach [a] X.env = [(false, eval a X.env)] := by rfl) (hbase : attributeBase o "join" X.env (eval o X.env) = eval o X.env := by rfl) (hline : (apos.endLine == pos.line) = true := by rfl) :
    PE X (.Call (.Attribute o "join" apos) [a] [] pos) (lift X.K B (dJoinL to t)) :=
  PE.imp (pe_join ho ha hs hbase hline) fun σ H Q h => by
    obtain ⟨φ, δ, S, P, ex, rs, rh, ht, k⟩ := h
    refine ⟨φ, δ, S, _, ex, rs, rh, ht, fun φ1 H1 x v S1 e1 rh1 rx q1 => ?_⟩
    obtain ⟨z, rfl, rfl, q1⟩ := isS_at rx q1
    refine ⟨⟨z, rfl⟩, φ1, δ, S1, _, ex.trans e1, rs.ext e1, rh1, q1, fun φ2 H2 xs vs S2 p e2 hp np hn rh2 rx2 q2 => ?_⟩
    obtain ⟨ys, rfl, hz, q⟩ := q2
    rw [rx2.strs_of] at hp
    exact ⟨z, p, ys, rfl, rfl, .inl (.inl (.inl hp)), hz, k φ2 H2 _ _ S2 (e1.trans e2) rh2 (.str _) q⟩
/-- sep.join(xs), xs a tuple or a kept list -/
def dJoinV (to te : DT) (δ : Env) (S : Store) (Q : DQ) : Prop := to δ S fun x S1 => isS x fun z => te δ S1 fun y S2 => match y with
  | .tup xs => dJoin z xs S2 Q
  | .ref n => dLst S2 n fun xs => dJoin z xs S2 Q
  | _ => False
theorem de_join {to te : DT} (ho : PE X o (lift X.K B to)) (ha : PE X a (lift X.K B te)) (hs : starEach [a] X.env = [(false, eval a X.env)] := by rfl) (hbase : attributeBase o "join" X.env (eval o X.env) = eval o X.env := by rfl) (hline : (apos.endLine == pos.line) = true := by rfl) :
    PE X (.Call (.Attribute o "join" apos) [a] [] pos) (lift X.K B (dJoinV to te)) :=
  PE.imp (pe_join ho ha hs hbase hline) fun σ H Q h => by
    obtain ⟨φ, δ, S, P, ex, rs, rh, ht, k⟩ := h
    refine ⟨φ, δ, S, _, ex, rs, rh, ht, fun φ1 H1 x v S1 e1 rh1 rx q1 => ?_⟩
    obtain ⟨z, rfl, rfl, q1⟩ := isS_at rx q1
    refine ⟨⟨z, rfl⟩, φ1, δ, S1, _, ex.trans e1, rs.ext e1, rh1, q1, fun φ2 H2 y w S2 e2 rh2 ry q2 => ?_⟩
    cases y with
    | tup xs =>
      cases ry with
      | tup ha ra =>
        obtain ⟨ys, rfl, hz, q⟩ := (show dJoin z xs S2 P from q2)
        rw [ra.strs_of] at ha
        exact ⟨z, _, ys, rfl, rfl, .inr ha, hz, k φ2 H2 _ _ S2 (e1.trans e2) rh2 (.str _) q⟩
    | ref n =>
      cases ry with
      | ref hn =>
        obtain ⟨xs, vs, ⟨ys, rfl, hz, q⟩, hl, r⟩ := dLst_at rh2 hn (show dLst S2 n _ from q2)
        rw [r.strs_of] at hl
        exact ⟨z, _, ys, rfl, rfl, .inl hl, hz, k φ2 H2 _ _ S2 (e1.trans e2) rh2 (.str _) q⟩
    | _ => exact (show False from q2).elim
end
end DL

set_option Elab.async false
set_option linter.all false
set_option maxRecDepth 100000
set_option autoImplicit false
namespace DL
open PySem PySem.Spec L2

section
variable {X : Cx} {B : Base} {a b c e o : Expr} {es : List Expr} {ta tb tc to ti tv : DT} {t : DTA} {pos p p2 apos cpos : Pos} {x : Str} {T : String}

/-! ## isinstance(x, T), T a built-in class -/
/-- the answers by kinds: None, a truth, an int, a text, a tuple, a list, a dict -/
structure Kind7 where
  non : Bool
  bl : Bool
  int : Bool
  str : Bool
  tup : Bool
  lst : Bool
  dic : Bool
structure KindOk (T : String) (k : Kind7) : Prop where
  non : kitB "NoneType" T = some k.non
  bl : kitB "bool" T = some k.bl
  int : kitB "int" T = some k.int
  str : kitB "str" T = some k.str
  tup : kitB "tuple" T = some k.tup
  lst : kitB "list" T = some k.lst
  dic : kitB "dict" T = some k.dic
def kInt : Kind7 := ⟨false, true, true, false, false, false, false⟩
def kBool : Kind7 := ⟨false, true, false, false, false, false, false⟩
def kStr : Kind7 := ⟨false, false, false, true, false, false, false⟩
def kTup : Kind7 := ⟨false, false, false, false, true, false, false⟩
def kLst : Kind7 := ⟨false, false, false, false, false, true, false⟩
def kDic : Kind7 := ⟨false, false, false, false, false, false, true⟩
theorem kInt_ok : KindOk "int" kInt := by constructor <;> decide +kernel
theorem kBool_ok : KindOk "bool" kBool := by constructor <;> decide +kernel
theorem kStr_ok : KindOk "str" kStr := by constructor <;> decide +kernel
theorem kTup_ok : KindOk "tuple" kTup := by constructor <;> decide +kernel
theorem kLst_ok : KindOk "list" kLst := by constructor <;> decide +kernel
theorem kDic_ok : KindOk "dict" kDic := by constructor <;> decide +kernel
def dIsi (k : Kind7) : D1
  | .non, S, Q => Q (.bl k.non) S
  | .bl _, S, Q => Q (.bl k.bl) S
  | .int _, S, Q => Q (.bl k.int) S
  | .str _, S, Q => Q (.bl k.str) S
  | .tup _, S, Q => Q (.bl k.tup) S
  | .fz _, _, _ => False
  | .obj _ _ _, _, _ => False
  | .ref n, S, Q => match S[n]? with
    | some (.lst _) => Q (.bl k.lst) S
    | some (.dic _) => Q (.bl k.dic) S
    | none => False
def dIsiT (k : Kind7) (t : DT) (δ : Env) (S : Store) (Q : DQ) : Prop := t δ S fun x S1 => dIsi k x S1 Q
theorem tyx_tup {K : PySem.W.Frag} {H : Hp} {a : Addr} {vs : List V} (h : SqT K H a vs) : TyX K H (.ref a) (.type "tuple") := by
  rcases h with (h | ⟨o, h⟩) | ⟨o, its, n, h, hc, _⟩
  · exact .base (.tup h)
  · exact .fTuple h
  · exact .kTuple h hc
theorem de_isi {k : Kind7} (kk : KindOk T k) (hm : X.mg "isinstance" = none) (hmT : X.mg x = none) (hvT : bootBuiltins x = some (.type T)) (ha : PE X a (lift X.K B ta)) (hg : Gl X "isinstance" := by rfl) (hgT : Gl X x := by rfl) (hn : x ≠ "__name__" := by decide) (hdb : (x == ("__debug__" : Str)) = false := by decide)
    (he : starEach [a, .Name x p2] X.env = (false, eval a X.env) :: starEach [.Name x p2] X.env := by rfl) :
    PE X (.Call (.Name "isinstance" p) [a, .Name x p2] [] pos) (lift X.K B (dUn (dIsi k) ta)) :=
  PE.imp (pe_callB call_isi hg hm PyProof.Rows.boot_isinstance (pa_cons ha (pa_cons (pe_bltn (v := .ty T) hgT hmT hvT rfl hn hdb) pa_nil) he) (by decide) (by decide) he (by rfl)) fun σ H Q h => by
    obtain ⟨φ, δ, S, P, ex, rs, rh, ht, kx⟩ := h
    refine ⟨φ, δ, S, _, ex, rs, rh, ht, fun φ1 H1 d v S1 e1 rh1 rd q1 => ?_⟩
    have fin : ∀ {T' : String} {b : Bool}, TyX X.K H1 v (.type T') → kitB T' T = some b → P (.bl b) S1 → rIsi X.K [v, .ty T] H1 Q := fun {T' b} ty hb q =>
      ⟨v, .ty T, .type T', .type T, b, rfl, .ty T, ty, kit_ty hb, kx φ1 H1 _ _ S1 e1 rh1 (.bl _) q⟩
    cases rd with
    | non => exact fin (.base .non) kk.non q1
    | bl b => exact fin (.base (.bl b)) kk.bl q1
    | int i => exact fin (.base (.int i)) kk.int q1
    | str i => exact fin (.base (.str i)) kk.str q1
    | tup ha ra => exact fin (tyx_tup ha) kk.tup q1
    | fz _ _ => exact (show False from q1).elim
    | obj _ _ => exact (show False from q1).elim
    | @ref n a hn =>
      have q1 : (match S1[n]? with | some (.lst _) => P (.bl k.lst) S1 | some (.dic _) => P (.bl k.dic) S1 | none => False) := q1
      cases ec : S1[n]? with
      | none => rw [ec] at q1; exact q1.elim
      | some c =>
        rw [ec] at q1
        obtain ⟨b, hb, rc⟩ := rh1.cell ec
        rw [hn] at hb; cases hb
        cases c with
        | lst xs =>
          obtain ⟨vs, e2, _⟩ := rc
          exact fin (.base (.lst e2)) kk.lst q1
        | dic kvs =>
          obtain ⟨vs, e2, _⟩ := rc
          exact fin (.base (.dK e2)) kk.dic q1

/-! ## methods -/
/-- xs.append(e) -/
def dAppend (to te : DT) (δ : Env) (S : Store) (Q : DQ) : Prop := to δ S fun x S1 => match x with
  | .ref n => dMut S1 n fun _ => te δ S1 fun y S2 => dMut S2 n fun xs => xs.length < sizeLine ∧ Q .non (S2.set n (.lst (xs ++ [y])))
  | _ => False
theorem de_append {te : DT} (ho : PE X o (lift X.K B to)) (he : PE X e (lift X.K B te)) (hbase : attributeBase o "append" X.env (eval o X.env) = eval o X.env := by rfl)
    (hfew : ((backTo cpos (starEach [e] X.env)).all (fun x => !x.1) && (backToKw cpos (keywordEach [] X.env)).all (fun x => x.1.isSome)
      && decide ([e].length + ([] : List Keyword).length + (if ([] : List Keyword).isEmpty then 0 else 1) < 30)) = true := by rfl)
    (hline : (apos.endLine == cpos.line) = true := by rfl) (hs : starEach [e] X.env = [(false, eval e X.env)] := by rfl) :
    PE X (.Call (.Attribute o "append" apos) [e] [] cpos) (lift X.K B (dAppend to te)) :=
  PE.imp (pe_bm PySem.F.plainAttrs_list PySem.F.slot_list_append PySem.F.type_list_append mt_append ho (pa_cons he pa_nil (by rw [hs]; rfl)) hbase hfew hline (by rw [hs]; rfl) (by rfl)) fun σ H Q h => by
    obtain ⟨φ, δ, S, P, ex, rs, rh, ht, k⟩ := h
    refine ⟨φ, δ, S, _, ex, rs, rh, ht, fun φ1 H1 x v S1 e1 rh1 rx q1 => ?_⟩
    cases x with
    | ref n =>
      cases rx with
      | ref hn =>
        obtain ⟨xs, vs, _, q1, eh, r⟩ := dMut_at rh1 hn (show dMut S1 n _ from q1)
        refine ⟨.inl ⟨rfl, vs, .inl (.inl eh)⟩, φ1, δ, S1, _, ex.trans e1, rs.ext e1, rh1, q1, fun φ2 H2 y w S2 e2 rh2 ry q2 => ?_⟩
        have hn2 := e2.pre _ _ hn
        obtain ⟨ys, ws, _, ⟨hl, q⟩, eh2, r2⟩ := dMut_at rh2 hn2 q2
        obtain ⟨ex3, rh3⟩ := set_ok rh2 hn2 eh2 (r2.append (.cons ry .nil))
        exact ⟨_, ws, w, rfl, rfl, eh2, by rw [← r2.length]; exact hl, k φ2 _ _ _ _ ((e1.trans e2).trans ex3) rh3 .non q⟩
    | _ => exact (show False from q1).elim
/-- xs.extend([..]) with a list just made -/
def dExtendL (to : DT) (t : DTA) (δ : Env) (S : Store) (Q : DQ) : Prop := to δ S fun x S1 => match x with
  | .ref n => dMut S1 n fun _ => t δ S1 fun ys S2 => dMut S2 n fun xs => xs.length + ys.length ≤ sizeLine ∧ Q .non (S2.set n (.lst (xs ++ ys)))
  | _ => False
theorem de_extendL (ho : PE X o (lift X.K B to)) (he : PE X e (liftL X.K B t)) (hbase : attributeBase o "extend" X.env (eval o X.env) = eval o X.env := by rfl)
    (hfew : ((backTo cpos (starEach [e] X.env)).all (fun x => !x.1) && (backToKw cpos (keywordEach [] X.env)).all (fun x => x.1.isSome)
      && decide ([e].length + ([] : List Keyword).length + (if ([] : List Keyword).isEmpty then 0 else 1) < 30)) = true := by rfl)
    (hline : (apos.endLine == cpos.line) = true := by rfl) (hs : starEach [e] X.env = [(false, eval e X.env)] := by rfl) :
    PE X (.Call (.Attribute o "extend" apos) [e] [] cpos) (lift X.K B (dExtendL to t)) :=
  PE.imp (pe_bm PySem.F.plainAttrs_list PySem.F.slot_list_extend PySem.F.type_list_extend mt_extend ho (pa_cons he pa_nil (by rw [hs]; rfl)) hbase hfew hline (by rw [hs]; rfl) (by rfl)) fun σ H Q h => by
    obtain ⟨φ, δ, S, P, ex, rs, rh, ht, k⟩ := h
    refine ⟨φ, δ, S, _, ex, rs, rh, ht, fun φ1 H1 x v S1 e1 rh1 rx q1 => ?_⟩
    cases x with
    | ref n =>
      cases rx with
      | ref hn =>
        obtain ⟨xs, vs, _, q1, eh, r⟩ := dMut_at rh1 hn (show dMut S1 n _ from q1)
        refine ⟨.inl ⟨rfl, vs, .inl (.inl eh)⟩, φ1, δ, S1, _, ex.trans e1, rs.ext e1, rh1, q1, fun φ2 H2 ys ws S2 p e2 hp np hnn rh2 ry q2 => ?_⟩
        have hn2 := e2.pre _ _ hn
        obtain ⟨xs2, vs2, _, ⟨hl, q⟩, eh2, r2⟩ := dMut_at rh2 hn2 q2
        obtain ⟨ex3, rh3⟩ := set_ok rh2 hn2 eh2 (r2.append ry)
        exact ⟨_, p, vs2, ws, rfl, rfl, eh2, hp, by rw [← r2.length, ← ry.length]; exact hl, k φ2 _ _ _ _ ((e1.trans e2).trans ex3) rh3 .non q⟩
    | _ => exact (show False from q1).elim
/-- xs.pop(i) -/
def dPopAt (to te : DT) (δ : Env) (S : Store) (Q : DQ) : Prop := to δ S fun x S1 => match x with
  | .ref n => dMut S1 n fun _ => te δ S1 fun y S2 => match y with
    | .int i => dMut S2 n fun xs => ∃ k d, -(2 ^ 63) ≤ i ∧ i < 2 ^ 63 ∧ seqIndex? i xs.length = some k ∧ xs[k]? = some d ∧ Q d (S2.set n (.lst (xs.eraseIdx k)))
    | _ => False
  | _ => False
theorem de_popAt {te : DT} (ho : PE X o (lift X.K B to)) (he : PE X e (lift X.K B te)) (hbase : attributeBase o "pop" X.env (eval o X.env) = eval o X.env := by rfl)
    (hfew : ((backTo cpos (starEach [e] X.env)).all (fun x => !x.1) && (backToKw cpos (keywordEach [] X.env)).all (fun x => x.1.isSome)
      && decide ([e].length + ([] : List Keyword).length + (if ([] : List Keyword).isEmpty then 0 else 1) < 30)) = true := by rfl)
    (hline : (apos.endLine == cpos.line) = true := by rfl) (hs : starEach [e] X.env = [(false, eval e X.env)] := by rfl) :
    PE X (.Call (.Attribute o "pop" apos) [e] [] cpos) (lift X.K B (dPopAt to te)) :=
  PE.imp (pe_bm PySem.F.plainAttrs_list PySem.F.slot_list_pop PySem.F.type_list_pop mt_popAt ho (pa_cons he pa_nil (by rw [hs]; rfl)) hbase hfew hline (by rw [hs]; rfl) (by rfl)) fun σ H Q h => by
    obtain ⟨φ, δ, S, P, ex, rs, rh, ht, k⟩ := h
    refine ⟨φ, δ, S, _, ex, rs, rh, ht, fun φ1 H1 x v S1 e1 rh1 rx q1 => ?_⟩
    cases x with
    | ref n =>
      cases rx with
      | ref hn =>
        obtain ⟨xs, vs, _, q1, eh, r⟩ := dMut_at rh1 hn (show dMut S1 n _ from q1)
        refine ⟨.inl ⟨rfl, vs, .inl (.inl eh)⟩, φ1, δ, S1, _, ex.trans e1, rs.ext e1, rh1, q1, fun φ2 H2 y w S2 e2 rh2 ry q2 => ?_⟩
        have hn2 := e2.pre _ _ hn
        cases y with
        | int i =>
          cases ry
          obtain ⟨ys, ws, _, ⟨j, d, h1, h2, hj, hd, q⟩, eh2, r2⟩ := dMut_at rh2 hn2 (show dMut S2 n _ from q2)
          obtain ⟨u, hu, ru⟩ := r2.get hd
          obtain ⟨ex3, rh3⟩ := set_ok rh2 hn2 eh2 (r2.eraseIdx j)
          exact ⟨_, ws, i, j, u, rfl, rfl, eh2, h1, h2, by rw [← r2.length]; exact hj, hu, k φ2 _ _ _ _ ((e1.trans e2).trans ex3) rh3 (ru.ext ex3) q⟩
        | _ => exact (show False from q2).elim
    | _ => exact (show False from q1).elim
/-- s.upper() -/
def dUpper : D1
  | .str a, S, Q => a.length ≤ 5592405 ∧ Q (.str (Txt.upper a)) S
  | _, _, _ => False
theorem de_upper (ho : PE X o (lift X.K B to)) (hbase : attributeBase o "upper" X.env (eval o X.env) = eval o X.env := by rfl) (hline : (apos.endLine == pos.line) = true := by rfl) : PE X (.Call (.Attribute o "upper" apos) [] [] pos) (lift X.K B (dUn dUpper to)) :=
  PE.imp (pe_upper ho hbase hline) fun σ H Q h => by
    obtain ⟨φ, δ, S, P, ex, rs, rh, ht, k⟩ := h
    refine ⟨φ, δ, S, _, ex, rs, rh, ht, fun φ1 H1 x v S1 e1 rh1 rx q1 => ?_⟩
    cases x with
    | str z => cases rx; exact ⟨⟨z, rfl⟩, z, rfl, rfl, q1.1, k φ1 H1 _ _ S1 e1 rh1 (.str _) q1.2⟩
    | _ => exact (show False from q1).elim

/-! ## {k: v, ..}, a new dict -/
def dPairs : List (DT × DT) → Env → Store → (List (D × D) → Store → Prop) → Prop
  | [], _, S, Q => Q [] S
  | (tk, tv) :: r, δ, S, Q => tk δ S fun x S1 => tv δ S1 fun y S2 => dPairs r δ S2 fun ps S3 => Q ((x, y) :: ps) S3
def keysD : List (D × D) → Option (List (Key × D))
  | [] => some []
  | (k, v) :: r => match keyD k, keysD r with
    | some k, some r => some ((k, v) :: r)
    | _, _ => none
def dDisp (trs : List (DT × DT)) (δ : Env) (S : Store) (Q : DQ) : Prop := dPairs trs δ S fun ps S1 => match keysD ps with
  | some kvs => kvs.length ≤ 15 ∧ (kvs.map (·.1)).Nodup ∧ Q (.ref S1.length) (S1 ++ [.dic kvs])
  | none => False
inductive RPs (K : PySem.W.Frag) (φ : List Addr) (H : Hp) : List (D × D) → List (V × V) → Prop
  | nil : RPs K φ H [] []
  | cons {x y : D} {v w : V} {ds : List (D × D)} {vs : List (V × V)} : RD K φ H x v → RD K φ H y w → RPs K φ H ds vs → RPs K φ H ((x, y) :: ds) ((v, w) :: vs)
theorem RPs.ext {K : PySem.W.Frag} {φ φ' : List Addr} {H H' : Hp} (e : Ext K φ φ' H H') {ds : List (D × D)} {vs : List (V × V)} (h : RPs K φ H ds vs) : RPs K φ' H' ds vs := by
  induction h with
  | nil => exact .nil
  | cons a b _ ih => exact .cons (a.ext e) (b.ext e) ih
def liftPs (K : PySem.W.Frag) (B : Base) : List (DT × DT) → List (TE × TE)
  | [] => []
  | (tk, tv) :: r => (lift K B tk, lift K B tv) :: liftPs K B r
theorem pairs_ok {K : PySem.W.Frag} : ∀ {trs : List (DT × DT)} {σ : L2.St} {H : Hp} {φ : List Addr} {δ : Env} {S : Store} {P : List (D × D) → Store → Prop} {Q : List (V × V) → Hp → Prop}, Ext K B.φ φ B.H H → RS K φ H σ δ → RH K φ H S → dPairs trs δ S P →
    (∀ φ' H' ds vs S', Ext K φ φ' H H' → RH K φ' H' S' → RPs K φ' H' ds vs → P ds S' → Q vs H') → tPairs (liftPs K B trs) σ H Q
  | [], σ, H, φ, δ, S, P, Q, ex, rs, rh, h, k => k φ H [] [] S .refl rh .nil h
  | (tk, tv) :: r, σ, H, φ, δ, S, P, Q, ex, rs, rh, h, k =>
    ⟨φ, δ, S, _, ex, rs, rh, h, fun φ1 H1 x v S1 e1 rh1 rx q1 => ⟨φ1, δ, S1, _, ex.trans e1, rs.ext e1, rh1, q1, fun φ2 H2 y w S2 e2 rh2 ry q2 =>
      pairs_ok (trs := r) ((ex.trans e1).trans e2) ((rs.ext e1).ext e2) rh2 q2 fun φ3 H3 ds vs S3 e3 rh3 rps q3 => k φ3 H3 _ _ S3 ((e1.trans e2).trans e3) rh3 (.cons ((rx.ext e2).ext e3) (ry.ext e3) rps) q3⟩⟩
theorem RPs.keys {K : PySem.W.Frag} {φ : List Addr} {H : Hp} : ∀ {ds : List (D × D)} {vs : List (V × V)} {kvs : List (Key × D)}, RPs K φ H ds vs → keysD ds = some kvs → ∃ kws : List (Key × V), vs = kws.map (fun kv => (kV kv.1, kv.2)) ∧ RK K φ H kvs kws
  | [], _, _, .nil, e => by cases e; exact ⟨[], rfl, .nil⟩
  | (x, y) :: ds, (v, w) :: vs, kvs, .cons a b t, e => by
    unfold keysD at e
    split at e
    · rename_i k r hk hr
      cases e
      obtain ⟨kws, rfl, rk⟩ := t.keys hr
      exact ⟨(k, w) :: kws, by rw [List.map_cons, keyD_rel a hk], .cons b rk⟩
    · cases e
theorem RK.keysEq {K : PySem.W.Frag} {φ : List Addr} {H : Hp} {ds : List (Key × D)} {vs : List (Key × V)} (r : RK K φ H ds vs) : ds.map (·.1) = vs.map (·.1) := by
  induction r with
  | nil => rfl
  | cons _ _ ih => rw [List.map_cons, List.map_cons, ih]
theorem merge_nodup : ∀ (more kvs : List (Key × V)), ((kvs ++ more).map (·.1)).Nodup → mergeK kvs more = kvs ++ more
  | [], kvs, _ => by rw [List.append_nil]; rfl
  | p :: more, kvs, nd => by
    have e : putK kvs p.1 p.2 = kvs ++ [p] := by
      unfold putK
      rw [if_neg]
      intro h
      obtain ⟨q, hq, e⟩ := List.any_eq_true.mp h
      have e := of_decide_eq_true e
      rw [List.map_append, List.nodup_append] at nd
      exact nd.2.2 q.1 (List.mem_map.mpr ⟨q, hq, rfl⟩) p.1 (by simp) e
    show mergeK (putK kvs p.1 p.2) more = _
    rw [e, merge_nodup more (kvs ++ [p]) (by rw [List.append_assoc]; exact nd), List.append_assoc]
    rfl
theorem de_disp {keys : List (Option Expr)} {values : List Expr} {trs : List (DT × DT)} (h : PPs X pos keys values (liftPs X.K B trs)) (hall : keys.all (·.isSome) = true := by rfl) (hl : keys.length = values.length := by rfl) (h0 : keys ≠ [] := by exact fun z => nomatch z)
    (h15 : keys.length ≤ 15 := by decide) : PE X (.Dict keys values pos) (lift X.K B (dDisp trs)) :=
  PE.imp (pe_disp h hall hl h0 h15) fun σ H Q h => by
    obtain ⟨φ, δ, S, P, ex, rs, rh, ht, k⟩ := h
    intro p hp
    refine pairs_ok (ex.trans (Ext.side hp)) (rs.ext (Ext.side hp)) (rh.side hp) ht fun φ1 H1 ds vs S1 e1 rh1 rps q1 => ?_
    have np := rh.notin hp
    have hp1 : H1 p = some (.dK []) := e1.out _ _ upd_same np
    refine ⟨hp1, ?_⟩
    split at q1
    · rename_i kvs hk
      obtain ⟨kws, rfl, rk⟩ := rps.keys hk
      refine ⟨kws, rfl, by rw [← rk.length]; exact q1.1, ?_⟩
      rw [merge_nodup kws [] (by rw [List.nil_append, ← rk.keysEq]; exact q1.2.1), List.nil_append]
      have np1 : p ∉ φ1 := fun z => by
        rcases e1.new _ z with z | z
        · exact np z
        · rw [upd_same] at z; cases z
      have kp : Kp X.K φ1 φ1 H1 (upd H1 p (.dK kws)) := ⟨fun dd vs h n => ⟨by rw [upd_ne (ne_of h hp1 (fun z => nomatch z))]; exact h, n⟩, fun _ _ q => q, fun b ws q => by
        rcases q with (q | ⟨ob, q⟩) | q
        · exact .inl (.inl (by rw [upd_ne (ne_of q hp1 (fun z => nomatch z))]; exact q))
        · exact .inl (.inr ⟨ob, by rw [upd_ne (ne_of q hp1 (fun z => nomatch z))]; exact q⟩)
        · exact .inr q, fun b ws q => by
        rcases q with ⟨ob, q⟩ | q
        · exact .inl ⟨ob, by rw [upd_ne (ne_of q hp1 (fun z => nomatch z))]; exact q⟩
        · exact .inr q⟩
      have e0 : Ext X.K φ φ1 H H1 := (Ext.side hp).trans e1
      have e2 : Ext X.K φ φ1 H (upd H1 p (.dK kws)) := ⟨e0.pre, fun a vs h => kp.tup a vs (e0.tup a vs h), fun a vs h => kp.fz a vs (e0.fz a vs h), fun b o q hb => by rw [upd_ne (ne_of_none q hp)]; exact e0.out b o q hb, e0.new⟩
      have rh2 : RH X.K φ1 (upd H1 p (.dK kws)) S1 := ⟨rh1.nd, rh1.len, fun n a c h1 h2 => (rh1.at_ n a c h1 h2).kp kp (by
        have hne : a ≠ p := fun z => np1 (by rw [← z]; exact List.mem_of_getElem? h1)
        rw [upd_ne hne])⟩
      have rk2 : RK X.K φ1 (upd H1 p (.dK kws)) kvs kws := rk.kp kp
      exact k (φ1 ++ [p]) _ (.ref S1.length) (.ref p) _ (e2.adopt hp) (rh2.adopt np1 (show RC X.K φ1 _ (.dic kvs) p from ⟨kws, upd_same, rk2⟩)) (.ref (by rw [← rh1.len, List.getElem?_concat_length])) q1.2.2
    · exact q1.elim
end

/-! ## the end: a law's row -/
/-- the promise of a law over its script -/
def spLaw : DSp := fun ds S Q _ => ∃ ns : List Int, ds = [.fz (ns.map D.int)] ∧ S = [] ∧ ns.length ≤ 63 ∧ ∀ S', Q (.bl true) S'
theorem spLaw_len : ∀ ds S Q E, spLaw ds S Q E → ds.length = ["script"].length := by
  rintro ds S Q E ⟨ns, rfl, _⟩
  rfl
section
open PyProof.Rows PySem.W
theorem law_run {P : Program} {w : World} {K : PySem.W.Frag} {mg mb : Str → Option Value} {k : Nat} {fa a : Addr} {fd : FuncData} {x : Str} {s : Shared} {vs : List Value} {ns : List Int} (KX : K.In s.heap) (hns : s.heap.Ns mainGlobals mg)
    (hb : s.heap.Ns builtinsNs mb) (hbb : ∀ x : Str, x ≠ "__name__" → mb x = bootBuiltins x) (hlim : s.heap.NoLimit) (hg : s.gens = #[]) (ha : s.heap.get? a = some { cls := .type "list", data := .seq vs.toArray }) (hi : IntsAre vs ns)
    (hl : ns.length ≤ 63) (hr : Room k callerA) (F : ∀ base : Heap, K.In base → base.Ns mainGlobals mg → DFn P w K mg base CX0 k fa fd [x] spLaw) (hbind : ∀ (s : Shared) (u : Value), BindsTo s fd ⟨[u], []⟩ [(x, u)]) :
    codeAny (model P w) callerA (.call (.ref fa) ⟨[.ref a], []⟩) (fun r s' => r = .ok (.ret (.bool true)) ∧ OldK s.heap s'.heap ∧ s'.os = s.os ∧ AllBare s'.gens) s := by
  have rv := vals_ints hi
  have lenV := hi.length
  have line : ns.length ≤ sizeLine := Nat.le_trans hl (by rw [sizeLine_eq]; omega)
  have core : ∀ H : Hp, FzL K H a (ns.map V.int) → HOk P w H s.heap → (∀ b, H b ≠ none → b = a ∧ K.lookup a = none ∧ ∃ o xs, H b = some (.frz o (.lst xs))) →
      codeAny (model P w) callerA (.call (.ref fa) ⟨[.ref a], []⟩) (fun r s' => r = .ok (.ret (.bool true)) ∧ OldK s.heap s'.heap ∧ s'.os = s.os ∧ AllBare s'.gens) s := by
    intro H hS hok hA
    have free : ∀ {b : Addr}, (b = a → False) → H b = none := fun {b} hne => by
      cases q : H b with
      | none => rfl
      | some u => exact (hne (hA b (by rw [q]; simp)).1).elim
    have noDict : ∀ {b : Addr} {o : Obj} {es : Array DictEntry} {ep : Nat}, s.heap.get? b = some o → o.data = .dict es ep → H b = none := fun {b o es ep} e d => free fun z => by
      subst z
      rw [ha] at e; cases e
      cases d
    have lift1 : ∀ {b : Addr} {m : Str → Option Value}, s.heap.Ns b m → (hidT s.heap H).Ns b m := fun {b m} ⟨o, es, ep, e, d, r⟩ => ⟨o, es, ep, hidT_get e (noDict e d), d, r⟩
    have kin : K.In (hidT s.heap H) := fun b o e => hidT_get (KX b o e) (by
      cases q : H b with
      | none => rfl
      | some u =>
        obtain ⟨rfl, hk, _⟩ := hA b (by rw [q]; simp)
        rw [hk] at e; cases e)
    have mod : Mod K mg (hidT s.heap H) := ⟨kin, lift1 hns, ⟨mb, lift1 hb, hbb⟩, let ⟨mc, h1, h2⟩ := hlim; ⟨mc, lift1 h1, h2⟩⟩
    have none_in : ∀ b : Addr, b ∉ ([] : List Addr) := fun b => by simp
    have e0 : Env0 P w K mg (hidT s.heap H) callerA [] s H := ⟨rfl, mod, fun b o e => of_hidT e, Nat.le_of_eq (hidT_size _ _), trivial, fun b hb => absurd hb (none_in b), hok, .of_eq hg⟩
    have rh : RH K [] H [] := ⟨List.nodup_nil, rfl, fun n a c e _ => by simp at e⟩
    have run := (F _ kin (lift1 hns)).run callerA [] s H ⟨[.ref a], []⟩ [.ref a] [.ref a] [] [] [.fz (ns.map D.int)] (fun d _ => d = .bl true) noX E0 hr rfl e0 (hbind s (.ref a)) (.cons rfl .nil) rh (.cons (.fz hS .ints) .nil)
      ⟨ns, rfl, rfl, hl, fun _ => rfl⟩ xok0
    refine codeAny_mono run fun r s' h => ?_
    match r, h with
    | .ok (.ret u), ⟨v, H', os, bare, un, hok', r', φ', d, S', _, _, rd, hd⟩ =>
      subst hd
      cases rd
      cases (show u = Value.bool true from r')
      refine ⟨rfl, OldK.of_keep fun b o e => ?_, os, bare⟩
      cases q : H b with
      | none => exact un.keep b o e q (none_in b) (none_in b)
      | some u =>
        obtain ⟨_, _, ob, xs, z⟩ := hA b (by rw [q]; simp)
        obtain ⟨e1, _⟩ := hok b _ z
        obtain ⟨e2, _⟩ := hok' b _ (un.frzs b ob _ z)
        rw [e] at e1; cases e1
        exact e2
  cases hk : K.lookup a with
  | some o =>
    have e := KX a o hk
    rw [ha] at e; cases e
    refine core (fun _ => none) (.inr fun _ => .inr ⟨_, vs.toArray, _, hk, rfl, rfl, rfl, ?_, ?_⟩) (fun b u z => nomatch (show (none : Option HO) = some u from z)) (fun b z => absurd rfl z)
    · rw [List.size_toArray, lenV]; exact line
    · simpa using rv
  | none =>
    let Hs : Hp := fun b => if b = a then some (.frz { cls := .type "list", data := .seq vs.toArray } (.lst (ns.map V.int))) else none
    have at_ : ∀ {b u}, Hs b = some u → b = a ∧ u = .frz { cls := .type "list", data := .seq vs.toArray } (.lst (ns.map V.int)) := fun {b u} z => by
      by_cases hb : b = a
      · exact ⟨hb, (Option.some.inj ((if_pos hb).symm.trans z)).symm⟩
      · cases (if_neg hb).symm.trans z
    refine core Hs (.inl ⟨_, if_pos rfl⟩) (fun b u z => ?_) (fun b z => ?_)
    · obtain ⟨rfl, rfl⟩ := at_ z
      exact ⟨ha, by rw [List.length_map]; exact line, vs, _, rv, ha⟩
    · cases q : Hs b with
      | none => exact absurd q z
      | some u =>
        obtain ⟨e1, rfl⟩ := at_ q
        exact ⟨e1, hk, _, _, rfl⟩
/-- the goal that k_head leaves, from the law's promise over data -/
theorem walk_law {l : PySem.W.OpenLaw} {k : Nat} {q : Program} {loose : List Str} {XP : (Str → Option Value) → Heap → Prop} {YP : World → Heap → Prop} {d : DefRec} {K : Params → PySem.W.Frag} {x : Str} (hn : l.most = some 63) (hdf : d.params.defaults = []) (hr : Room k callerA)
    (hY : ∀ (w : World) (h : Heap), YP w h → (K w.params).In h)
    (F : ∀ (w : World) (mg : Str → Option Value) (fa : Addr) (h : Heap), (K w.params).In h → h.Ns mainGlobals mg → mg d.name = some (.ref fa) →
      ∃ fd : FuncData, (∀ (s : Shared) (u : Value), BindsTo s fd ⟨[u], []⟩ [(x, u)]) ∧ ∀ base : Heap, (K w.params).In base → base.Ns mainGlobals mg → DFn l.prog w (K w.params) mg base CX0 k fa fd [x] spLaw) :
    PySem.W.WalkO q loose XP YP l.row.toRowW d [] (fun f vs => PySem.call f vs) := by
  refine Att.attach_call hn hdf ?_
  intro w s₀ s₁ mg mb fa o pm cd doc a vs ns G Y ho hd hcd hmg hobj hints hlen hg
  obtain ⟨fd, hb, hF⟩ := F w mg fa _ (hY w _ Y) G.T.g hmg
  exact law_run (hY w _ Y) G.T.g G.T.b G.T.builtins G.T.nolimit hg hobj hints hlen hr hF hb
end
end DL

set_option Elab.async false
set_option linter.all false
set_option maxRecDepth 100000
set_option autoImplicit false
namespace DL
open PySem PySem.Spec L2

section
variable {X : Cx} {B : Base} {a b c e o tg : Expr} {es : List Expr} {ta tb tc to ti tv : DT} {t t2 : DTA} {pos p p2 p3 apos cpos : Pos} {x : Str} {T : String}

/-! ## over a value: a tuple, a list, a text -/
def iValD (S : Store) (Q : List D → (Store → Prop) → Store → Prop) : D → Prop
  | .tup xs => Q xs noG S
  | .str z => Q (signs z) noG S
  | .ref n => dLst S n fun xs => Q xs (fun S' => S'[n]? = some (.lst xs)) S
  | _ => False
def iOf (ta : DT) (δ : Env) (S : Store) (Q : List D → (Store → Prop) → Store → Prop) : Prop := ta δ S fun d S1 => iValD S1 Q d
theorem di_val (ha : PE X a (lift X.K B ta)) : PI X tg a (liftI X.K B (iOf ta)) := by
  constructor
  intro pins s σ H R I h
  obtain ⟨φ, δ, S, P, e, rs, rh, t, k⟩ := h
  refine thn (ha.run pins s σ H (fun v H1 => ∃ φ1 d S1, Ext X.K φ φ1 H H1 ∧ RH X.K φ1 H1 S1 ∧ RD X.K φ1 H1 d v ∧ iValD S1 P d) I ⟨φ, δ, S, _, e, rs, rh, t, fun φ1 H1 d v S1 e1 rh1 rd q => ⟨φ1, d, S1, e1, rh1, rd, q⟩⟩) ?_
  rintro u s1 ⟨v, H1, I1, ru, φ1, d, S1, e1, rh1, rd, q⟩
  cases rd with
  | tup hq ra =>
    cases ru
    obtain ⟨its, rv, pt, hz⟩ := I1.tuple hq
    refine wpAny_pyIter_tuple (show s1.heap.IsTuple _ its.toArray from pt) ?_
    exact pi_one (tk := s1.toks) I1 _ (turn_tuple _ _) ⟨_, Heap.get?_push_size _ rfl, rfl, rfl⟩ (k φ1 H1 _ _ _ S1 e1 rh1 (yl_tup hq ra) q)
  | str z =>
    obtain ⟨t, rfl⟩ := ru
    have q := k φ1 H1 _ _ _ S1 e1 rh1 yl_str (show P (signs z) noG S1 from q)
    cases ha : z.cps.all (· < 128) with
    | false => exact wpAny_pyIter_wide ha (pi_one (tk := s1.toks) I1 _ (turn_str _ z t "str_iterator" (.inr rfl)) ⟨_, Heap.get?_push_size _ rfl, rfl, rfl⟩ q)
    | true => exact wpAny_pyIter_ascii ha (pi_one (tk := s1.toks) I1 _ (turn_str _ z t "str_ascii_iterator" (.inl rfl)) ⟨_, Heap.get?_push_size _ rfl, rfl, rfl⟩ q)
  | ref hn =>
    cases ru
    obtain ⟨xs, vs, q, hl, r⟩ := dLst_at rh1 hn (show dLst S1 _ _ from q)
    obtain ⟨its, rv, pl, hz⟩ := I1.list hl
    refine wpAny_pyIter_list pl.isList ?_
    exact pi_one (tk := s1.toks) I1 _ (turn_list _ _) ⟨_, Heap.get?_push_size _ rfl, rfl, rfl⟩ (k φ1 H1 _ _ _ S1 e1 rh1 (yl_cell hn) q)
  | _ => exact (show False from q).elim

/-! ## [..] == [], [..] != [] -/
def dIsNil (neg : Bool) (t : DTA) (δ : Env) (S : Store) (Q : DQ) : Prop := t δ S fun xs S1 => ∃ ps, PyA S1 xs ps ∧ SeqAt.shaped (.list ps) = true ∧ Q (.bl (if neg then !xs.isEmpty else xs.isEmpty)) S1
theorem shaped_nil : SeqAt.shaped (.list []) = true := by decide
theorem eqv_nil {S : Store} {xs : List D} {ps : List PyData} (h : PyA S xs ps) : PyData.eqv (.list ps) (.list []) = xs.isEmpty := by
  cases h <;> simp [PyData.eqv, PyData.eqvAll]
theorem lift_nil {neg : Bool} {r' : R2} (hr : ∀ x y H Q, (∃ d e, Dp X.K H x d ∧ Dp X.K H y e ∧ SeqAt.shaped d = true ∧ SeqAt.shaped e = true ∧ Q (.bl (if neg then !PyData.eqv d e else PyData.eqv d e)) H) → r' x y H Q) {σ : L2.St} {H : Hp} {Q : VK}
    (h : lift X.K B (dIsNil neg t) σ H Q) : tOp r' (liftL X.K B t) (tLst tNil) σ H Q := by
  obtain ⟨φ, δ, S, P, e, rs, rh, t, k⟩ := h
  refine ⟨φ, δ, S, _, e, rs, rh, t, fun φ1 H1 xs vs S1 p e1 hp np hn rh1 rx q1 => ⟨Nat.zero_le _, fun p2 hp2 => ?_⟩⟩
  obtain ⟨ps, ha, hs, q⟩ := q1
  have hp' : upd H1 p2 (.lst []) p = some (.lst vs) := by rw [upd_ne (ne_of_none hp hp2)]; exact hp
  refine hr _ _ _ _ ⟨.list ps, .list [], .lst (.inl (.inl hp')) (ha.dp (rh1.side hp2) (rx.ext (Ext.side hp2))), .lst (.inl (.inl upd_same)) .nil, hs, shaped_nil, ?_⟩
  rw [eqv_nil ha]
  exact k φ1 _ _ _ S1 (e1.trans (Ext.side hp2)) (rh1.side hp2) (.bl _) q
theorem de_eqNil {k : Nat} (hr : Room k X.A) (ha : PE X a (liftL X.K B t)) : PE X (.Compare a [.Eq] [.List [] p2] pos) (lift X.K B (dIsNil false t)) :=
  PE.imp (pe_cmpR (op_eqD hr.units) ha (pe_lst pa_nil) (nomark _)) fun σ H Q h => lift_nil (neg := false) (fun x y H Q h => h) h
theorem de_neNil {k : Nat} (hr : Room k X.A) (ha : PE X a (liftL X.K B t)) : PE X (.Compare a [.NotEq] [.List [] p2] pos) (lift X.K B (dIsNil true t)) :=
  PE.imp (pe_cmpR (op_neD hr.units) ha (pe_lst pa_nil) (nomark _)) fun σ H Q h => lift_nil (neg := true) (fun x y H Q h => h) h
theorem dt_eqNil {k : Nat} (hr : Room k X.A) (ha : PE X a (liftL X.K B t)) : PT X (.Compare a [.Eq] [.List [] p2] pos) (liftT X.K B (dTest (dIsNil false t))) :=
  PT.imp (pt_cmpR (op_eqD hr.units) ha (pe_lst pa_nil) (nomark _)) fun σ H Q h => by
    obtain ⟨φ, δ, S, P, e, rs, rh, t, k⟩ := lift_test h
    exact lift_nil (neg := false) (fun x y H Q h => h) ⟨φ, δ, S, P, e, rs, rh, t, k⟩
theorem dt_neNil {k : Nat} (hr : Room k X.A) (ha : PE X a (liftL X.K B t)) : PT X (.Compare a [.NotEq] [.List [] p2] pos) (liftT X.K B (dTest (dIsNil true t))) :=
  PT.imp (pt_cmpR (op_neD hr.units) ha (pe_lst pa_nil) (nomark _)) fun σ H Q h => by
    obtain ⟨φ, δ, S, P, e, rs, rh, t, k⟩ := lift_test h
    exact lift_nil (neg := true) (fun x y H Q h => h) ⟨φ, δ, S, P, e, rs, rh, t, k⟩
end
end DL

set_option Elab.async false
set_option linter.all false
set_option maxRecDepth 100000
set_option autoImplicit false
namespace DL
open PySem PySem.Spec L2

/-! ## how a reading runs: rows for simp, by constructors -/
def isI : D → (Int → Prop) → Prop
  | .int i, k => k i
  | _, _ => False
def isR : D → (Nat → Prop) → Prop
  | .ref n, k => k n
  | _, _ => False
section
variable {δ : Env} {S : Store} {Q : DQ} {i j : Int} {x y : Str} {xs ys : List D} {n m : Nat} {b : Bool} {d : D} {f : Int → Int → Int} {ta tb tc to ti tv te : DT} {t : DTA} {E : DEnds} {tl th : DTO}
theorem isI_i {k : Int → Prop} : isI (.int i) k = k i := Eq.trans rfl rfl
theorem isR_r {k : Nat → Prop} : isR (.ref n) k = k n := Eq.trans rfl rfl
theorem dAdd_i : dAdd (.int i) (.int j) S Q = Q (.int (i + j)) S := Eq.trans rfl rfl
theorem dAdd_s : dAdd (.str x) (.str y) S Q = (x.length + y.length ≤ sizeLine ∧ Q (.str (x ++ y)) S) := Eq.trans rfl rfl
theorem dAdd_t : dAdd (.tup xs) (.tup ys) S Q = (xs.length + ys.length ≤ sizeLine ∧ Q (.tup (xs ++ ys)) S) := Eq.trans rfl rfl
theorem dAdd_l : dAdd (.ref n) (.ref m) S Q = dMut S n fun xs => dMut S m fun ys => xs.length + ys.length ≤ sizeLine ∧ Q (.ref S.length) (S ++ [.lst (xs ++ ys)]) := Eq.trans rfl rfl
theorem dSub_i : dSub (.int i) (.int j) S Q = Q (.int (i - j)) S := Eq.trans rfl rfl
theorem dMul_i : dMul (.int i) (.int j) S Q = (CMul i j ∧ Q (.int (i * j)) S) := Eq.trans rfl rfl
theorem dMul_l : dMul (.ref n) (.int j) S Q = dMut S n fun xs => -(2 ^ 63) ≤ j ∧ j < 2 ^ 63 ∧ xs.length * j.toNat ≤ sizeLine ∧ Q (.ref S.length) (S ++ [.lst (List.replicate j.toNat xs).flatten]) := Eq.trans rfl rfl
theorem dNeg_i : dNeg (.int i) S Q = Q (.int (-i)) S := Eq.trans rfl rfl
theorem dI_i {C : Int → Int → Prop} : dI C f (.int i) (.int j) S Q = (C i j ∧ Q (.int (f i j)) S) := Eq.trans rfl rfl
theorem dIx_t : dIx (.tup xs) (.int i) S Q = optD (atI xs i) fun d => Q d S := Eq.trans rfl rfl
theorem dIx_l : dIx (.ref n) (.int i) S Q = dLst S n fun xs => optD (atI xs i) fun d => Q d S := Eq.trans rfl rfl
theorem dIx_s : dIx (.str x) (.int i) S Q = (x.length ≤ sizeLine ∧ match atI x.cps.toList i with | some c => Q (.str ⟨#[c]⟩) S | none => False) := Eq.trans rfl rfl
theorem dIxL_eq : dIxL t tb δ S Q = t δ S fun xs S1 => tb δ S1 fun y S2 => isI y fun i => optD (atI xs i) fun d => Q d S2 := by
  unfold dIxL
  congr 1; funext xs S1; congr 1; funext y S2; cases y <;> rfl
theorem dPart_eq {R : Option Int → Store → Prop} : dPart ta δ S R = ta δ S fun d S1 => isI d fun i => R (some i) S1 := by
  unfold dPart
  congr 1; funext d S1; cases d <;> rfl
theorem dCut_t {lo hi : Option Int} : dCut lo hi (.tup xs) S Q = Q (.tup (cutD xs lo hi)) S := Eq.trans rfl rfl
theorem dCut_s {lo hi : Option Int} : dCut lo hi (.str x) S Q = (x.length ≤ sizeLine ∧ Q (.str (cutS x lo hi)) S) := Eq.trans rfl rfl
theorem dCut_l {lo hi : Option Int} : dCut lo hi (.ref n) S Q = dLst S n fun xs => Q (.ref S.length) (S ++ [.lst (cutD xs lo hi)]) := Eq.trans rfl rfl
theorem dCut_f {lo hi : Option Int} : dCut lo hi (.fz xs) S Q = Q (.ref S.length) (S ++ [.lst (cutD xs lo hi)]) := Eq.trans rfl rfl
theorem dOrd_i {f : Int → Int → Bool} {g : List Nat → List Nat → Bool} : dOrd f g (.int i) (.int j) S Q = Q (.bl (f i j)) S := Eq.trans rfl rfl
theorem dOrd_s {f : Int → Int → Bool} {g : List Nat → List Nat → Bool} : dOrd f g (.str x) (.str y) S Q = Q (.bl (g x.cps.toList y.cps.toList)) S := Eq.trans rfl rfl
theorem dLt_i : dLt (.int i) (.int j) S Q = Q (.bl (decide (i < j))) S := Eq.trans rfl rfl
theorem dLe_i : dLe (.int i) (.int j) S Q = Q (.bl (decide (i ≤ j))) S := Eq.trans rfl rfl
theorem dGt_i : dGt (.int i) (.int j) S Q = Q (.bl (decide (j < i))) S := Eq.trans rfl rfl
theorem dGe_i : dGe (.int i) (.int j) S Q = Q (.bl (decide (j ≤ i))) S := Eq.trans rfl rfl
theorem dLe_s : dLe (.str x) (.str y) S Q = Q (.bl (!decide (y.cps.toList < x.cps.toList))) S := Eq.trans rfl rfl
theorem dLt_s : dLt (.str x) (.str y) S Q = Q (.bl (decide (x.cps.toList < y.cps.toList))) S := Eq.trans rfl rfl
theorem dEq_i : dEq false (.int i) (.int j) S Q = Q (.bl (decide (i = j))) S := Eq.trans rfl rfl
theorem dEq_s : dEq false (.str x) (.str y) S Q = Q (.bl (decide (x = y))) S := Eq.trans rfl rfl
theorem dNe_i : dEq true (.int i) (.int j) S Q = Q (.bl (!decide (i = j))) S := Eq.trans rfl rfl
theorem dNe_s : dEq true (.str x) (.str y) S Q = Q (.bl (!decide (x = y))) S := Eq.trans rfl rfl
theorem dIsN_n : dIsN b .non .non S Q = Q (.bl (!b)) S := Eq.trans rfl rfl
theorem dIsN_i : dIsN b (.int i) .non S Q = Q (.bl b) S := Eq.trans rfl rfl
theorem dIsN_s : dIsN b (.str x) .non S Q = Q (.bl b) S := Eq.trans rfl rfl
theorem dIsN_t : dIsN b (.tup xs) .non S Q = Q (.bl b) S := Eq.trans rfl rfl
theorem dIsN_r : dIsN b (.ref n) .non S Q = Q (.bl b) S := Eq.trans rfl rfl
theorem dIn_s : dIn false (.str x) (.str y) S Q = Q (.bl (!(Builtin.Str.occurrences y x 0 y.length 1).isEmpty)) S := Eq.trans rfl rfl
theorem dNotIn_s : dIn true (.str x) (.str y) S Q = Q (.bl (!(!(Builtin.Str.occurrences y x 0 y.length 1).isEmpty))) S := Eq.trans rfl rfl
theorem dTru_b {R : Bool → Store → Prop} : dTru S R (.bl b) = R b S := Eq.trans rfl rfl
theorem dTru_i {R : Bool → Store → Prop} : dTru S R (.int i) = R (i != 0) S := Eq.trans rfl rfl
theorem dTru_n {R : Bool → Store → Prop} : dTru S R .non = R false S := Eq.trans rfl rfl
theorem dTru_t {R : Bool → Store → Prop} : dTru S R (.tup xs) = R (!xs.isEmpty) S := Eq.trans rfl rfl
theorem dTru_l {R : Bool → Store → Prop} : dTru S R (.ref n) = dLst S n fun xs => R (!xs.isEmpty) S := Eq.trans rfl rfl
theorem dLenV_s : dLenV (.str x) S Q = (x.length ≤ sizeLine ∧ Q (.int x.length) S) := Eq.trans rfl rfl
theorem dLenV_t : dLenV (.tup xs) S Q = Q (.int xs.length) S := Eq.trans rfl rfl
theorem dLenV_l : dLenV (.ref n) S Q = dLst S n fun xs => Q (.int xs.length) S := Eq.trans rfl rfl
theorem dLenV_f : dLenV (.fz xs) S Q = Q (.int xs.length) S := Eq.trans rfl rfl
theorem dTupV_t : dTupV (.tup xs) S Q = Q (.tup xs) S := Eq.trans rfl rfl
theorem dTupV_l : dTupV (.ref n) S Q = dLst S n fun xs => Q (.tup xs) S := Eq.trans rfl rfl
theorem dItems_t {R : List D → Store → Prop} : dItems (.tup xs) S R = R xs S := Eq.trans rfl rfl
theorem dItems_l {R : List D → Store → Prop} : dItems (.ref n) S R = dLst S n fun xs => R xs S := Eq.trans rfl rfl
theorem dItems_f {R : List D → Store → Prop} : dItems (.fz xs) S R = R xs S := Eq.trans rfl rfl
theorem dTwo_i : dTwo f [.int i, .int j] S Q = Q (.int (f i j)) S := Eq.trans rfl rfl
theorem dToInt_i : dToInt (.int i) S Q = Q (.int i) S := Eq.trans rfl rfl
theorem dToInt_b : dToInt (.bl b) S Q = Q (.int (if b then 1 else 0)) S := Eq.trans rfl rfl
theorem dToStr_i : dToStr (.int i) S Q = (i.natAbs.log2 < 1920 ∧ Q (.str (toString i)) S) := Eq.trans rfl rfl
theorem dUpper_s : dUpper (.str x) S Q = (x.length ≤ 5592405 ∧ Q (.str (Txt.upper x)) S) := Eq.trans rfl rfl
theorem dIsi_n {k : Kind7} : dIsi k .non S Q = Q (.bl k.non) S := Eq.trans rfl rfl
theorem dIsi_b {k : Kind7} : dIsi k (.bl b) S Q = Q (.bl k.bl) S := Eq.trans rfl rfl
theorem dIsi_i {k : Kind7} : dIsi k (.int i) S Q = Q (.bl k.int) S := Eq.trans rfl rfl
theorem dIsi_s {k : Kind7} : dIsi k (.str x) S Q = Q (.bl k.str) S := Eq.trans rfl rfl
theorem dIsi_t {k : Kind7} : dIsi k (.tup xs) S Q = Q (.bl k.tup) S := Eq.trans rfl rfl
theorem dIsi_l {k : Kind7} (h : S[n]? = some (.lst xs)) : dIsi k (.ref n) S Q = Q (.bl k.lst) S := by
  show (match S[n]? with | some (.lst _) => Q (.bl k.lst) S | some (.dic _) => Q (.bl k.dic) S | none => False) = _
  rw [h]
theorem dAppend_eq : dAppend to te δ S Q = to δ S fun x S1 => isR x fun n => dMut S1 n fun _ => te δ S1 fun y S2 => dMut S2 n fun xs => xs.length < sizeLine ∧ Q .non (S2.set n (.lst (xs ++ [y]))) := by
  unfold dAppend
  congr 1; funext d S1; cases d <;> rfl
theorem dExtendL_eq : dExtendL to t δ S Q = to δ S fun x S1 => isR x fun n => dMut S1 n fun _ => t δ S1 fun ys S2 => dMut S2 n fun xs => xs.length + ys.length ≤ sizeLine ∧ Q .non (S2.set n (.lst (xs ++ ys))) := by
  unfold dExtendL
  congr 1; funext d S1; cases d <;> rfl
theorem dPopAt_eq : dPopAt to te δ S Q = to δ S fun x S1 => isR x fun n => dMut S1 n fun _ => te δ S1 fun y S2 => isI y fun i => dMut S2 n fun xs => ∃ k d, -(2 ^ 63) ≤ i ∧ i < 2 ^ 63 ∧ seqIndex? i xs.length = some k ∧ xs[k]? = some d ∧ Q d (S2.set n (.lst (xs.eraseIdx k))) := by
  unfold dPopAt
  congr 1; funext d S1
  cases d <;> try rfl
  show dMut S1 _ _ = dMut S1 _ _
  congr 1; funext _; congr 1; funext y S2; cases y <;> rfl
def optN : Option Nat → (Nat → Prop) → Prop
  | some d, k => k d
  | none, _ => False
theorem optN_some {k : Nat → Prop} : optN (some n) k = k n := Eq.trans rfl rfl
theorem dSetIx_eq : dSetIx tv to ti E δ S = tv δ S fun v S1 => to δ S1 fun o S2 => ti δ S2 fun i S3 => isR o fun n => isI i fun k => dMut S3 n fun xs => optN (ixN xs.length k) fun j => E.nx δ (S3.set n (.lst (xs.set j v))) := by
  unfold dSetIx
  congr 1; funext v S1; congr 1; funext o S2; congr 1; funext i S3
  cases o <;> try rfl
  cases i <;> try rfl
  show dMut S3 _ _ = dMut S3 _ _
  congr 1; funext xs
  cases ixN xs.length _ <;> rfl
def optK : Option Key → (Key → Prop) → Prop
  | some d, k => k d
  | none, _ => False
theorem optK_some {a : Key} {k : Key → Prop} : optK (some a) k = k a := Eq.trans rfl rfl
theorem keyD_i : keyD (.int i) = some (.inl i) := Eq.trans rfl rfl
theorem keyD_s : keyD (.str x) = some (.inr x) := Eq.trans rfl rfl
theorem dDGet_eq : dDGet to ti δ S Q = to δ S fun o S1 => ti δ S1 fun i S2 => isR o fun n => optK (keyD i) fun k => dDic S2 n fun kvs => optD (dval kvs k) fun d => Q d S2 := by
  unfold dDGet
  congr 1; funext o S1; congr 1; funext i S2
  cases o <;> try rfl
  cases keyD i <;> rfl
theorem dDPut_eq : dDPut tv to ti E δ S = tv δ S fun v S1 => to δ S1 fun o S2 => ti δ S2 fun i S3 => isR o fun n => optK (keyD i) fun k => dDic S3 n fun kvs => kvs.length < sizeLine ∧ (kvs.map (·.1)).Nodup ∧ E.nx δ (S3.set n (.dic (dput kvs k v))) := by
  unfold dDPut
  congr 1; funext v S1; congr 1; funext o S2; congr 1; funext i S3
  cases o <;> try rfl
  cases keyD i <;> rfl
theorem dAug_eq {k : Nat} : dAug k ta f E δ S = dGet δ k fun x => ta δ S fun y S1 => isI x fun m => isI y fun n => E.nx (δ.set k (some (.int (f m n)))) S1 := by
  unfold dAug
  congr 1; funext x; congr 1; funext y S1
  cases x <;> try rfl
  cases y <;> rfl
def isP : List D → (D → D → Prop) → Prop
  | [x, y], k => k x y
  | _, _ => False
theorem isP_mk {a b : D} {k : D → D → Prop} : isP [a, b] k = k a b := Eq.trans rfl rfl
theorem dPar_eq {k l : Nat} : dPar k l t E δ S = t δ S fun ds S1 => isP ds fun d f => E.nx ((δ.set k (some d)).set l (some f)) S1 := by
  unfold dPar
  congr 1; funext ds S1
  match ds with
  | [] => rfl
  | [_] => rfl
  | [_, _] => rfl
  | _ :: _ :: _ :: _ => rfl
def isD1 : List D → (D → Prop) → Prop
  | [x], k => k x
  | _, _ => False
theorem isD1_mk {a : D} {k : D → Prop} : isD1 [a] k = k a := Eq.trans rfl rfl
theorem iR1_eq {R : List D → (Store → Prop) → Store → Prop} : iR1 t δ S R = t δ S fun xs S1 => isD1 xs fun d => isI d fun j => -(2 ^ 62) ≤ j ∧ j < 2 ^ 62 ∧ R (rangeD 0 j.toNat) noG S1 := by
  unfold iR1
  congr 1; funext xs S1
  match xs with
  | [] => rfl
  | [d] => cases d <;> rfl
  | a :: _ :: _ => cases a <;> rfl
theorem iR2_eq {R : List D → (Store → Prop) → Store → Prop} : iR2 t δ S R = t δ S fun xs S1 => isP xs fun d f => isI d fun i => isI f fun j => (-(2 ^ 62) ≤ i ∧ i < 2 ^ 62 ∧ -(2 ^ 62) ≤ j ∧ j < 2 ^ 62) ∧ R (rangeD i (j - i).toNat) noG S1 := by
  unfold iR2
  congr 1; funext xs S1
  match xs with
  | [] => rfl
  | [d] => cases d <;> rfl
  | [d, f] => cases d <;> cases f <;> rfl
  | a :: b :: _ :: _ => cases a <;> cases b <;> rfl
theorem iValD_t {R : List D → (Store → Prop) → Store → Prop} : iValD S R (.tup xs) = R xs noG S := Eq.trans rfl rfl
theorem iValD_s {R : List D → (Store → Prop) → Store → Prop} : iValD S R (.str x) = R (signs x) noG S := Eq.trans rfl rfl
theorem iValD_l {R : List D → (Store → Prop) → Store → Prop} : iValD S R (.ref n) = dLst S n fun xs => R xs (fun S' => S'[n]? = some (.lst xs)) S := Eq.trans rfl rfl
def optKs : Option (List (Key × D)) → (List (Key × D) → Prop) → Prop
  | some d, k => k d
  | none, _ => False
theorem optKs_some {a : List (Key × D)} {k : List (Key × D) → Prop} : optKs (some a) k = k a := Eq.trans rfl rfl
theorem dDisp_eq {trs : List (DT × DT)} : dDisp trs δ S Q = dPairs trs δ S fun ps S1 => optKs (keysD ps) fun kvs => kvs.length ≤ 15 ∧ (kvs.map (·.1)).Nodup ∧ Q (.ref S1.length) (S1 ++ [.dic kvs]) := by
  unfold dDisp
  congr 1; funext ps S1
  cases keysD ps <;> rfl
theorem dPairs_nil {R : List (D × D) → Store → Prop} : dPairs [] δ S R = R [] S := Eq.trans rfl rfl
theorem dPairs_cons {trs : List (DT × DT)} {R : List (D × D) → Store → Prop} : dPairs ((ta, tb) :: trs) δ S R = ta δ S fun x S1 => tb δ S1 fun y S2 => dPairs trs δ S2 fun ps S3 => R ((x, y) :: ps) S3 := Eq.trans rfl rfl
theorem keysD_nil : keysD [] = some [] := Eq.trans rfl rfl
theorem keysD_s {r : List (D × D)} {ks : List (Key × D)} (h : keysD r = some ks) : keysD ((.str x, d) :: r) = some ((.inr x, d) :: ks) := by
  show (match keyD (.str x), keysD r with | some k, some r => some ((k, d) :: r) | _, _ => none) = _
  rw [h]
  rfl
theorem dBind_nm : dBind (.nm n) d δ = some (δ.set n (some d)) := Eq.trans rfl rfl
theorem dBind_tp {is : List Nat} : dBind (.tp is) (.tup xs) δ = dSets is xs δ := Eq.trans rfl rfl
theorem dSets_nil : dSets [] [] δ = some δ := Eq.trans rfl rfl
theorem dSets_cons {is : List Nat} : dSets (n :: is) (d :: xs) δ = dSets is xs (δ.set n (some d)) := Eq.trans rfl rfl
theorem one_mk {r : D1} : one r [d] S Q = r d S Q := Eq.trans rfl rfl
theorem dwipe_nil : dwipe δ [] = δ := Eq.trans rfl rfl
theorem dwipe_cons {is : List Nat} : dwipe δ (n :: is) = (dwipe δ is).set n none := Eq.trans rfl rfl
end

end DL

set_option Elab.async false
set_option linter.all false
set_option maxRecDepth 100000
set_option autoImplicit false
namespace DL
open PySem PySem.Spec L2

/-! ## how large the text of a thing is -/
/-- p can be shown: at most w heavy, k deep -/
structure Nc (p : PyData) (w k : Nat) : Prop where
  shows : p.showable = true
  deep : p.depth ≤ k
  wt : p.weight ≤ w
  lv : p.leavesShort 62 = true
  lay : p.canLay0 = true
structure NcA (ps : List PyData) (w k : Nat) : Prop where
  shows : PyData.showableAll ps = true
  deep : PyData.depthAll ps ≤ k
  wt : PyData.weightAll ps ≤ w
  lv : PyData.leavesShortAll 62 ps = true
  lay : PyData.canLayAll0 ps = true
theorem Nc.mono {p : PyData} {w k w' k' : Nat} (h : Nc p w k) (h1 : w ≤ w') (h2 : k ≤ k') : Nc p w' k' := ⟨h.shows, Nat.le_trans h.deep h2, Nat.le_trans h.wt h1, h.lv, h.lay⟩
theorem NcA.mono {p : List PyData} {w k w' k' : Nat} (h : NcA p w k) (h1 : w ≤ w') (h2 : k ≤ k') : NcA p w' k' := ⟨h.shows, Nat.le_trans h.deep h2, Nat.le_trans h.wt h1, h.lv, h.lay⟩
theorem Nc.non {k : Nat} : Nc .none 0 k := ⟨by simp only [PyData.showable], by simp only [PyData.depth]; omega, by simp only [PyData.weight]; omega, by simp only [PyData.leavesShort], by simp only [PyData.canLay0]⟩
theorem Nc.bl {b : Bool} {k : Nat} : Nc (.bool b) 0 k := ⟨by simp only [PyData.showable], by simp only [PyData.depth]; omega, by simp only [PyData.weight]; omega, by simp only [PyData.leavesShort], by simp only [PyData.canLay0]⟩
theorem lt_10_61 : (10 : Nat) ^ 61 < 2 ^ 203 := by decide +kernel
theorem Nc.int {i : Int} {k : Nat} (h : i.natAbs < 10 ^ 61) : Nc (.int i) 203 k := by
  have h2 : i.natAbs < 2 ^ 203 := Nat.lt_trans h lt_10_61
  have h3 : i.natAbs.log2 < 203 ∨ i.natAbs = 0 := by
    by_cases h0 : i.natAbs = 0
    · exact .inr h0
    · exact .inl ((Nat.log2_lt h0).mpr h2)
  refine ⟨?_, by simp only [PyData.depth]; omega, ?_, ?_, by simp only [PyData.canLay0]⟩
  · simp only [PyData.showable, decide_eq_true_eq]
    rcases h3 with h3 | h3
    · omega
    · rw [h3]; decide
  · simp only [PyData.weight]
    rcases h3 with h3 | h3
    · split <;> omega
    · rw [h3]; split <;> simp
  · simp only [PyData.leavesShort]
    refine decide_eq_true ?_
    have e : (Str.ofString (toString i)).length = (toString i).length := ofString_length _
    show (Str.ofString (toString i)).length ≤ 62
    rw [e]
    exact int_text_length_le10 (k := 61) (by decide) h
/-- signs as they can be -/
def Cp (x : Str) : Prop := ∀ c ∈ x.cps.toList, c < 1114112
theorem Nc.str {x : Str} {w k : Nat} (h : Cp x) (hw : x.length ≤ w) : Nc (.str x) w k := ⟨by simp only [PyData.showable], by simp only [PyData.depth]; omega, by simp only [PyData.weight]; exact hw, by
  simp only [PyData.leavesShort, List.all_eq_true, decide_eq_true_eq]
  exact fun c hc => Nat.lt_trans (h c hc) (by decide), by
  simp only [PyData.canLay0, PyData.strOk]
  exact Array.all_eq_true_iff_forall_mem.mpr fun c hc => decide_eq_true (h c (Array.mem_toList_iff.mpr hc))⟩
theorem NcA.nil {k : Nat} : NcA [] 0 k := ⟨by simp only [PyData.showableAll], by simp only [PyData.depthAll]; omega, by simp only [PyData.weightAll]; omega, by simp only [PyData.leavesShortAll], by simp only [PyData.canLayAll0]⟩
theorem NcA.cons {p : PyData} {ps : List PyData} {w w' k : Nat} (h : Nc p w k) (h' : NcA ps w' k) : NcA (p :: ps) (w + 1 + w') k := by
  refine ⟨?_, ?_, ?_, ?_, by simp only [PyData.canLayAll0, h.lay, h'.lay, Bool.and_self]⟩
  · simp only [PyData.showableAll, h.shows, h'.shows, Bool.and_self]
  · simp only [PyData.depthAll]
    have := h.deep; have := h'.deep
    omega
  · simp only [PyData.weightAll]
    have := h.wt; have := h'.wt
    omega
  · simp only [PyData.leavesShortAll, h.lv, h'.lv, Bool.and_self]
theorem NcA.all {w k : Nat} : ∀ {ps : List PyData}, (∀ p ∈ ps, Nc p w k) → NcA ps (ps.length * (w + 1)) k
  | [], _ => by simpa using NcA.nil
  | p :: ps, h => by
    have := NcA.cons (h p List.mem_cons_self) (NcA.all (ps := ps) fun q hq => h q (List.mem_cons_of_mem _ hq))
    refine this.mono ?_ (Nat.le_refl _)
    rw [List.length_cons, Nat.add_mul]
    omega
theorem NcA.append {ps qs : List PyData} {w w' k : Nat} (h : NcA ps w k) (h' : NcA qs w' k) : NcA (ps ++ qs) (w + w') k := by
  induction ps generalizing w with
  | nil => exact h'.mono (by omega) (Nat.le_refl _)
  | cons p ps ih =>
    have e1 := h.shows; have e2 := h.deep; have e3 := h.wt; have e4 := h.lv; have e5 := h.lay
    simp only [PyData.showableAll, Bool.and_eq_true] at e1
    simp only [PyData.depthAll] at e2
    simp only [PyData.weightAll] at e3
    simp only [PyData.leavesShortAll, Bool.and_eq_true] at e4
    simp only [PyData.canLayAll0, Bool.and_eq_true] at e5
    have a : NcA ps (PyData.weightAll ps) k := ⟨e1.2, by omega, Nat.le_refl _, e4.2, e5.2⟩
    have b : Nc p p.weight k := ⟨e1.1, by omega, Nat.le_refl _, e4.1, e5.1⟩
    exact (NcA.cons b (ih a)).mono (by omega) (Nat.le_refl _)
theorem NcA.list {ps : List PyData} {w k : Nat} (h : NcA ps w k) : Nc (.list ps) w (k + 1) := ⟨by simp only [PyData.showable, h.shows], by simp only [PyData.depth]; have := h.deep; omega, by simp only [PyData.weight]; exact h.wt, by simp only [PyData.leavesShort, h.lv], by simp only [PyData.canLay0, h.lay]⟩
theorem NcA.tuple {ps : List PyData} {w k : Nat} (h : NcA ps w k) : Nc (.tuple ps) w (k + 1) := ⟨by simp only [PyData.showable, h.shows], by simp only [PyData.depth]; have := h.deep; omega, by simp only [PyData.weight]; exact h.wt, by simp only [PyData.leavesShort, h.lv], by simp only [PyData.canLay0, h.lay]⟩
theorem Nc.fit {p : PyData} {w k : Nat} (h : Nc p w k) (h1 : w ≤ 260000) (h2 : k ≤ 60) : Fit p := by
  refine ⟨h.shows, Nat.le_trans h.deep h2, ?_⟩
  have h3 := PyData.shown_le 62 (by decide) p h.lv
  have h4 : (62 + 2) * p.weight ≤ 64 * 260000 := Nat.mul_le_mul (by omega) (Nat.le_trans h.wt h1)
  rw [sizeLine_eq]
  omega

theorem Nc.shaped {p : PyData} {w k : Nat} (h : Nc p w k) (h2 : k ≤ 64) : SeqAt.shaped p = true := by
  have := h.deep
  unfold SeqAt.shaped
  rw [h.lay, decide_eq_true (by omega : p.depth ≤ 64)]
  rfl
theorem Nc.self {p : PyData} {w k : Nat} (h : Nc p w k) : PyData.eqv p p = true := SeqAt.eqv_refl _ h.lay

/-! ## things that are shown -/
/-- d stands for p, which can be shown -/
def Sh (S : Store) (d : D) (p : PyData) (w k : Nat) : Prop := Py S d p ∧ Nc p w k
def ShA (S : Store) (ds : List D) (ps : List PyData) (w k : Nat) : Prop := PyA S ds ps ∧ NcA ps w k
section
variable {S S' : Store} {d : D} {ds es : List D} {p : PyData} {ps qs : List PyData} {w w' k k' n : Nat}
theorem Sh.mono (h : Sh S d p w k) (h1 : w ≤ w') (h2 : k ≤ k') : Sh S d p w' k' := ⟨h.1, h.2.mono h1 h2⟩
theorem ShA.mono (h : ShA S ds ps w k) (h1 : w ≤ w') (h2 : k ≤ k') : ShA S ds ps w' k' := ⟨h.1, h.2.mono h1 h2⟩
theorem Sh.non : Sh S .non .none 0 k := ⟨.non, .non⟩
theorem Sh.bl {b : Bool} : Sh S (.bl b) (.bool b) 0 k := ⟨.bl b, .bl⟩
theorem Sh.int {i : Int} (h : i.natAbs < 10 ^ 61) : Sh S (.int i) (.int i) 203 k := ⟨.int i, .int h⟩
theorem Sh.str {x : Str} (h : Cp x) (hw : x.length ≤ w) : Sh S (.str x) (.str x) w k := ⟨.str x, .str h hw⟩
theorem ShA.nil : ShA S [] [] 0 k := ⟨.nil, .nil⟩
theorem ShA.cons (h : Sh S d p w k) (h' : ShA S ds ps w' k) : ShA S (d :: ds) (p :: ps) (w + 1 + w') k := ⟨.cons h.1 h'.1, .cons h.2 h'.2⟩
theorem PyA.append : ∀ {ds es : List D} {ps qs : List PyData}, PyA S ds ps → PyA S es qs → PyA S (ds ++ es) (ps ++ qs)
  | [], _, [], _, _, h => h
  | _ :: _, _, _ :: _, _, .cons a b, h => .cons a (PyA.append b h)
theorem ShA.append (h : ShA S ds ps w k) (h' : ShA S es qs w' k) : ShA S (ds ++ es) (ps ++ qs) (w + w') k := ⟨h.1.append h'.1, h.2.append h'.2⟩
theorem ShA.tup (h : ShA S ds ps w k) : Sh S (.tup ds) (.tuple ps) w (k + 1) := ⟨.tup h.1, h.2.tuple⟩
theorem ShA.lst (e : S[n]? = some (Cell.lst ds)) (h : ShA S ds ps w k) : Sh S (.ref n) (.list ps) w (k + 1) := ⟨.lst e h.1, h.2.list⟩
/-- row after row -/
theorem ShA.of : ∀ {ds : List D}, (∀ d ∈ ds, ∃ p, Sh S d p w k) → ∃ ps, ShA S ds ps (ds.length * (w + 1)) k ∧ ps.length = ds.length
  | [], _ => ⟨[], by simpa using ShA.nil, rfl⟩
  | d :: ds, h => by
    obtain ⟨p, hp⟩ := h d List.mem_cons_self
    obtain ⟨ps, hps, e⟩ := ShA.of (ds := ds) fun q hq => h q (List.mem_cons_of_mem _ hq)
    refine ⟨p :: ps, (ShA.cons hp hps).mono ?_ (Nat.le_refl _), by simp [e]⟩
    rw [List.length_cons, Nat.add_mul]
    omega
mutual
theorem Py.more (h : ∀ (n : Nat) (xs : List D), S[n]? = some (Cell.lst xs) → S'[n]? = some (Cell.lst xs)) : ∀ {d : D} {p : PyData}, Py S d p → Py S' d p
  | _, _, .non => .non
  | _, _, .bl b => .bl b
  | _, _, .int i => .int i
  | _, _, .str x => .str x
  | _, _, .tup a => .tup (PyA.more h a)
  | _, _, .lst e a => .lst (h _ _ e) (PyA.more h a)
theorem PyA.more (h : ∀ (n : Nat) (xs : List D), S[n]? = some (Cell.lst xs) → S'[n]? = some (Cell.lst xs)) : ∀ {ds : List D} {ps : List PyData}, PyA S ds ps → PyA S' ds ps
  | _, _, .nil => .nil
  | _, _, .cons a b => .cons (Py.more h a) (PyA.more h b)
end
theorem grown (T : Store) : ∀ (n : Nat) (xs : List D), S[n]? = some (Cell.lst xs) → (S ++ T)[n]? = some (Cell.lst xs) := fun n xs e => by
  rw [List.getElem?_append_left (List.getElem?_eq_some_iff.mp e).1]; exact e
theorem Py.grow (h : Py S d p) (T : Store) : Py (S ++ T) d p := h.more (grown T)
theorem PyA.grow (h : PyA S ds ps) (T : Store) : PyA (S ++ T) ds ps := h.more (grown T)
theorem Sh.grow (h : Sh S d p w k) (T : Store) : Sh (S ++ T) d p w k := ⟨h.1.grow T, h.2⟩
theorem ShA.grow (h : ShA S ds ps w k) (T : Store) : ShA (S ++ T) ds ps w k := ⟨h.1.grow T, h.2⟩
theorem dRepr_sh {Q : DQ} (h : Sh S d p w k) (h1 : w ≤ 260000) (h2 : k ≤ 60) (q : Q (.str p.shown) S) : dRepr d S Q := ⟨p, h.1, h.2.fit h1 h2, q⟩
theorem dReprL_sh {Q : DQ} (h : ShA S ds ps w k) (h1 : w ≤ 260000) (h2 : k ≤ 59) (q : Q (.str (PyData.list ps).shown) S) : dReprL ds S Q := ⟨ps, h.1, h.2.list.fit h1 (by omega), q⟩
end

/-! ## comprehensions that change nothing -/
section
variable {g : Tg} {own : List Nat} {tt : DTT} {te : DT} {gd : Store → Prop} {δ : Env} {Q : List D → Store → Prop} {xs : List D} {S : Store}
theorem dComp_fm (f : D → Option D) (hg : gd S) (hl : xs.length ≤ sizeLine)
    (h : ∀ d ∈ xs, ∀ (R1 : DQ) (R0 : Store → Prop), (∀ y, f d = some y → R1 y S) → (f d = none → R0 S) → optE (dBind g d (dwipe δ own)) fun δ1 => tt δ1 S fun b S1 => bIf b (te δ1 S1 R1) (R0 S1))
    (q : Q (xs.filterMap f) S) : dComp g own tt te gd δ Q xs S := by
  refine ⟨fun i acc S' => acc = (xs.take i).filterMap f ∧ S' = S, ⟨rfl, rfl⟩, fun _ _ _ _ e => e.2 ▸ hg, ?_, ?_⟩
  · rintro i d acc S' hd ⟨rfl, rfl⟩
    have hi : i < xs.length := (List.getElem?_eq_some_iff.mp hd).1
    have e : (xs.take (i + 1)) = xs.take i ++ [d] := by rw [List.take_add_one, hd]; rfl
    have hlen : ((xs.take i).filterMap f).length < sizeLine := Nat.lt_of_le_of_lt (List.length_filterMap_le ..) (by rw [List.length_take]; omega)
    refine h d (List.mem_of_getElem? hd) _ _ (fun y hy => ⟨hlen, ?_, rfl⟩) fun hn => ⟨?_, rfl⟩
    · rw [e, List.filterMap_append, List.filterMap_cons, hy]; rfl
    · rw [e, List.filterMap_append, List.filterMap_cons, hn]; simp
  · rintro acc S' ⟨rfl, rfl⟩
    rw [List.take_length]
    exact q
theorem dComp_map (f : D → D) (hg : gd S) (hl : xs.length ≤ sizeLine)
    (h : ∀ d ∈ xs, ∀ (R1 : DQ), R1 (f d) S → optE (dBind g d (dwipe δ own)) fun δ1 => te δ1 S R1)
    (q : Q (xs.map f) S) : dComp g own dYes te gd δ Q xs S := by
  refine dComp_fm (fun d => some (f d)) hg hl (fun d hd R1 R0 h1 _ => ?_) (by rw [List.filterMap_eq_map']; exact q)
  exact h d hd R1 (h1 _ rfl)
end

/-! ## rows by name, not by computing: what the kernel has to look at stays small -/
theorem dSeq_E : type_of% @dSeq.eq_1 := by intros; exact Eq.trans rfl rfl
theorem dSet_E : type_of% @dSet.eq_1 := by intros; exact Eq.trans rfl rfl
theorem dOp_E : type_of% @dOp.eq_1 := by intros; exact Eq.trans rfl rfl
theorem dUn_E : type_of% @dUn.eq_1 := by intros; exact Eq.trans rfl rfl
theorem dCB_E : type_of% @dCB.eq_1 := by intros; exact Eq.trans rfl rfl
theorem dCall_E : type_of% @dCall.eq_1 := by intros; exact Eq.trans rfl rfl
theorem dVar_E : type_of% @dVar.eq_1 := by intros; exact Eq.trans rfl rfl
theorem dC_E : type_of% @dC.eq_1 := by intros; exact Eq.trans rfl rfl
theorem dNil_E : type_of% @dNil.eq_1 := by intros; exact Eq.trans rfl rfl
theorem dCons_E : type_of% @dCons.eq_1 := by intros; exact Eq.trans rfl rfl
theorem dTup_E : type_of% @dTup.eq_1 := by intros; exact Eq.trans rfl rfl
theorem dLen_E : type_of% @dLen.eq_1 := by intros; exact Eq.trans rfl rfl
theorem dKeep_E : type_of% @dKeep.eq_1 := by intros; exact Eq.trans rfl rfl
theorem dNoPart_E : type_of% @dNoPart.eq_1 := by intros; exact Eq.trans rfl rfl
theorem dSl_E : type_of% @dSl.eq_1 := by intros; exact Eq.trans rfl rfl
theorem dSlL_E : type_of% @dSlL.eq_1 := by intros; exact Eq.trans rfl rfl
theorem dTest_E : type_of% @dTest.eq_1 := by intros; exact Eq.trans rfl rfl
theorem dTruth_E : type_of% @dTruth.eq_1 := by intros; exact Eq.trans rfl rfl
theorem dAndT_E : type_of% @dAndT.eq_1 := by intros; exact Eq.trans rfl rfl
theorem dOrT_E : type_of% @dOrT.eq_1 := by intros; exact Eq.trans rfl rfl
theorem dNotT_E : type_of% @dNotT.eq_1 := by intros; exact Eq.trans rfl rfl
theorem dAnd_E : type_of% @dAnd.eq_1 := by intros; exact Eq.trans rfl rfl
theorem dOr_E : type_of% @dOr.eq_1 := by intros; exact Eq.trans rfl rfl
theorem dNot_E : type_of% @dNot.eq_1 := by intros; exact Eq.trans rfl rfl
theorem dIf_E : type_of% @dIf.eq_1 := by intros; exact Eq.trans rfl rfl
theorem dChain_E : type_of% @dChain.eq_1 := by intros; exact Eq.trans rfl rfl
theorem dNext_E : type_of% @dNext.eq_1 := by intros; exact Eq.trans rfl rfl
theorem dBreak_E : type_of% @dBreak.eq_1 := by intros; exact Eq.trans rfl rfl
theorem dCont_E : type_of% @dCont.eq_1 := by intros; exact Eq.trans rfl rfl
theorem dDrop_E : type_of% @dDrop.eq_1 := by intros; exact Eq.trans rfl rfl
theorem dRet_E : type_of% @dRet.eq_1 := by intros; exact Eq.trans rfl rfl
theorem dRetN_E : type_of% @dRetN.eq_1 := by intros; exact Eq.trans rfl rfl
theorem dIfS_E : type_of% @dIfS.eq_1 := by intros; exact Eq.trans rfl rfl
theorem dAsg_E : type_of% @dAsg.eq_1 := by intros; exact Eq.trans rfl rfl
theorem dLenL_E : type_of% @dLenL.eq_1 := by intros; exact Eq.trans rfl rfl
theorem dTupL_E : type_of% @dTupL.eq_1 := by intros; exact Eq.trans rfl rfl
theorem dMk_E : type_of% @dMk.eq_1 := by intros; exact Eq.trans rfl rfl
theorem dForI_E : type_of% @dForI.eq_1 := by intros; exact Eq.trans rfl rfl
theorem dLc_E : type_of% @dLc.eq_1 := by intros; exact Eq.trans rfl rfl
theorem dYes_E : type_of% @dYes.eq_1 := by intros; exact Eq.trans rfl rfl
theorem iFresh_E : type_of% @iFresh.eq_1 := by intros; exact Eq.trans rfl rfl
theorem dIsNil_E : type_of% @dIsNil.eq_1 := by intros; exact Eq.trans rfl rfl
theorem dJoinL_E : type_of% @dJoinL.eq_1 := by intros; exact Eq.trans rfl rfl
theorem ends_nx {a : Env → Store → Prop} {b c d} : (DEnds.mk a b c d).nx = a := Eq.trans rfl rfl
end DL

set_option Elab.async false
set_option linter.all false
set_option maxRecDepth 100000
set_option autoImplicit false
namespace DL
open PySem PySem.Spec L2
open Sem (wp)

/-! ## enumerate(a tuple) -/
set_option maxHeartbeats 1000000 in
theorem new_enum1 {v : Value} {ob : Obj} {G : Heap → Prop} (Bg : Begins v ob G) :
    Meets (Builtin.«enumerate.__new__» ⟨[.type "enumerate", v], []⟩) (fun _ R s => G s.heap ∧
      R (.ok (.ret (.ref (s.heap.push ob).objs.size))) { s with heap := (s.heap.push ob).push { cls := .type "enumerate", data := .fields #[.none, .bool false, .ref s.heap.objs.size, rawInt 0, .none, .none] } }) :=
  .of_wp fun prog w A R s hG => by
    obtain ⟨hp, g, d, tk, os⟩ := s; obtain ⟨hg, h⟩ := hG
    have hsub := sub_enumerate
    have itr : ∀ {A' : Around} {E : Value → Shared → Prop} {Q : Value → Shared → Prop}, Q (.ref hp.objs.size) ⟨hp.push ob, g, d, tk, os⟩ → wpAny (model prog w) A' (pyIter v) Q E ⟨hp, g, d, tk, os⟩ :=
      fun q => Bg.iter prog w _ _ ⟨hp, g, d, tk, os⟩ _ hg q
    wp_walk using itr
    refine wpAny_stack_any fun st => wpAny_pure ?_
    split
    · rename_i c _ _ _ _ _
      cases (c == Value.type "enumerate") <;> (wp_walk using itr; exact ⟨_, rfl, h⟩)
    · wp_walk using itr
      exact ⟨_, rfl, h⟩
section
variable {prog : Program} {w : World} {A : Around} {E : Value → Shared → Prop} {s : Shared}
theorem enum1 {v : Value} {ob : Obj} {G : Heap → Prop} {Q : Value → Shared → Prop} (Bg : Begins v ob G) (hg : G s.heap)
    (h : ∀ h', IsEnum h' (s.heap.objs.size + 1) s.heap.objs.size 0 .none → h'.get? s.heap.objs.size = some ob → (∀ b o, s.heap.get? b = some o → h'.get? b = some o) → Q (.ref (s.heap.objs.size + 1)) { s with heap := h' }) :
    wpAny (model prog w) A (call (.type "enumerate") [v]) Q E s := by
  refine callType_new F.called_enumerate (by decide) (F.typeCall_enumerate_1 _) (F.newCall_enumerate_1 _) (fun obj => F.args_object_init_2 obj _) F.entry_enumerate_new (new_enum1 Bg) ⟨hg, ?_⟩
  have z1 : (s.heap.push ob).objs.size = s.heap.objs.size + 1 := Heap.size_push ..
  have en : IsEnum ((s.heap.push ob).push { cls := .type "enumerate", data := .fields #[.none, .bool false, .ref s.heap.objs.size, rawInt 0, .none, .none] }) (s.heap.objs.size + 1) s.heap.objs.size 0 .none := by
    have := Heap.get?_push_size (s.heap.push ob) (o := { cls := .type "enumerate", data := .fields #[.none, .bool false, .ref s.heap.objs.size, rawInt 0, .none, .none] }) rfl
    rw [z1] at this
    exact this
  show _ ∧ _
  rw [z1]
  exact ⟨⟨_, en, rfl⟩, h _ en (Heap.get?_push_of_some _ (Heap.get?_push_size _ Bg.free)) fun b o x => Heap.get?_push_of_some _ (Heap.get?_push_of_some _ x)⟩
end
section
variable {prog : Program} {w : World} {A : Around} {E : Value → Shared → Prop} {s : Shared}
theorem enum_overT {en it a : Addr} {i : Nat} {items : Array Value} {k : Int} {old : Value} {Q : Option Value → Shared → Prop} (hh : A.in1.handled = none) (he : IsEnum s.heap en it k old) (hit : s.heap.IsTupleIter it a i) (ht : s.heap.IsTuple a items)
    (hx : items[i]? = none) (hQ : ∀ h', Heap.ExtBut it s.heap h' → Q none { s with heap := h' }) : wpAny (model prog w) A (pyNext (.ref en)) Q E s := by
  have ty : s.TypeIs (.ref en) "enumerate" := ⟨_, he, rfl⟩
  unfold pyNext
  refine wpAny_bind (wpAny_attempt (wpAny_callSpecial?_slot (name := Str.ofString "__next__") ty F.slot_enumerate_next (wpAny_call_entry F.slot_enumerate_next ty F.entry_enumerate_next ?_ (F.args_enumerate_next_1 _))))
  show wpAny _ _ (field (.ref en) 2 >>= _) _ _ _
  refine wpAny_bind (wpAny_field he rfl (x := .ref it) rfl (wpAny_bind (wpAny_nextOf_tuple_end hh hit ht hx fun h' x hb hc => ?_)))
  obtain ⟨ob, h1, h2⟩ := hc
  exact wpAny_bind (wpAny_isInstance (T := "StopIteration") (b := true) ⟨ob, h1, h2⟩ isSubtype_stop (wpAny_pure (hQ _ hb)))
end
/-- the tuple at a, each item in a new pair -/
def IteT (K : PySem.W.Frag) (a : Addr) : It :=
  ⟨fun i H => ∃ (xs : List V) (x : V), SqT K H a xs ∧ xs[i]? = some x, fun i H v H' => ∃ T x, v = .ref T ∧ H T = none ∧ H' = upd H T (.tup [.int (i : Nat), x]) ∧ ∀ xs, SqT K H a xs → xs[i]? = some x,
    fun i H => ∃ xs : List V, SqT K H a xs ∧ xs.length ≤ i⟩
theorem turn_enumT {P : Program} {w : World} {K : PySem.W.Frag} {elts : List Expr} {kk : Nat} {tpos : Pos} (a e it : Addr) :
    Turn P w K (.Tuple elts kk tpos) (IteT K a) [e, it] e (fun i h => (∃ old, IsEnum h e it ((i : Nat) : Int) old) ∧ h.IsTupleIter it a i ∧ e ≠ it ∧ a ≠ it ∧ a ≠ e) where
  mem := by simp
  obj := fun i h st b hb => by
    obtain ⟨⟨old, he⟩, ⟨o, ho, hc, hd⟩, _⟩ := st
    have two : b = e ∨ b = it := by simpa using hb
    rcases two with rfl | rfl
    · exact ⟨_, he, fun v q => nomatch q⟩
    · exact ⟨o, ho, fun v q => by rw [hd] at q; cases q⟩
  keep := fun i h h' st k => let ⟨⟨old, he⟩, hi, r⟩ := st; ⟨⟨old, k e (by simp) _ he⟩, hi.at fun o q => k it (by simp) o q, r⟩
  item := by
    intro X hP hw hK hc i pins s σ H E I hf st hg
    subst hP hw hK
    obtain ⟨⟨old, he⟩, hit, hne, n1, n2⟩ := st
    obtain ⟨xs, x, hq, hx⟩ := hg
    obtain ⟨its, rv, p, hz⟩ := I.tuple hq
    obtain ⟨u, hu, ru⟩ := rv.get hx
    have hel : e < s.heap.objs.size := Heap.lt_size he
    have hil : it < s.heap.objs.size := by obtain ⟨_, q, _⟩ := hit; exact Heap.lt_size q
    have Dr := Draws.tuple (prog := X.prog) (w := X.w) (A := X.A.in1) (I.ok.hd hc) it a n1 its.toArray
    have hlt : i < its.toArray.size := by
      have := (List.getElem?_eq_some_iff.mp hu).1
      simpa using this
    refine wpAny_pyNext_enum_itemD Dr he ⟨hit, p⟩ hlt hne (by simp [hne, Ne.symm n2]) fun y h' tk hy ho hst' hT hsz hk => ?_
    obtain rfl : u = y := by
      have q : its[i]? = some y := by simpa using hy
      rw [hu] at q
      exact Option.some.inj q
    refine ⟨_, rfl, wpAny_letOwnedTupleGo_enum (s := { s with heap := h', toks := tk + 1 }) ho fun h'' he' sb => ?_⟩
    have hT2 : h''.get? s.heap.objs.size = some { cls := .type "tuple", data := .seq #[.int i tk, u] } := (sb.2 _ (Nat.ne_of_gt hel)).trans hT
    have made : ObjOk X.prog X.w (upd H s.heap.objs.size (.tup [.int (i : Nat), x])) h'' s.heap.objs.size (.tup [.int (i : Nat), x]) :=
      ⟨by show 2 ≤ sizeLine; decide, [.int i tk, u], .cons ⟨_, rfl⟩ (.cons ru .nil), ⟨_, hT2, rfl, _, rfl⟩⟩
    have I1 : Inv X pins σ (upd H s.heap.objs.size (.tup [.int (i : Nat), x])) { s with heap := h'', toks := tk + 1 } :=
      I.turnedNew (ch := [e, it]) (fun b o hb q => (sb.2 b (fun z => hb (by simp [z]))).trans (hk b o (fun z => hb (by simp [z])) (fun z => hb (by simp [z])) q)) hf (Nat.le_refl _) made
    refine ⟨.ref s.heap.objs.size, _, I1, rfl, ⟨_, x, rfl, I.hok.fresh (Nat.le_refl _), rfl, fun ys hy => by rw [I.tuple_inj hy hq]; exact hx⟩, ⟨⟨u, ?_⟩, hst'.1.at fun o q => (sb.2 it (Ne.symm hne)).trans q, hne, n1, n2⟩, fun b hb => ?_⟩
    · have up : ((i + 1 : Nat) : Int) = (i : Int) + 1 := by omega
      rw [up]; exact he'
    · have below : b < s.heap.objs.size := by
        have two : b = e ∨ b = it := by simpa using hb
        rcases two with z | z <;> (rw [z]; assumption)
      rw [upd_ne (Nat.ne_of_lt below)]
      exact (hf b hb).1
  done := by
    intro X hP hw hK hc i pins s σ H E I hf st hg
    subst hP hw hK
    obtain ⟨⟨old, he⟩, hit, hne, n1, n2⟩ := st
    obtain ⟨xs, hq, hx⟩ := hg
    obtain ⟨its, rv, p, hz⟩ := I.tuple hq
    obtain ⟨f0, f1, f2, f3, f4, f5⟩ := hf it (by simp)
    have hl := rv.length
    exact enum_overT (I.ok.hd hc) he hit p (by simp; omega) fun h' eb => ⟨rfl, I.turned (t' := s.toks) (fun b o hb q => eb b o hb q) f0 f1 f3 f4 f5⟩
  self := fun A i s Q E st h => let ⟨⟨_, he⟩, _⟩ := st; wpAny_pyIter_enum he h
/-- pairs of a number and a thing -/
def enumD (xs : List D) : List D := (List.range xs.length).map fun i : Nat => .tup [.int i, xs.getD i .non]
theorem enumD_get {xs : List D} {i : Nat} {d : D} : (enumD xs)[i]? = some d ↔ ∃ x, xs[i]? = some x ∧ d = .tup [.int i, x] := by
  unfold enumD
  rw [List.getElem?_map]
  by_cases h : i < xs.length
  · rw [List.getElem?_range h, Option.map_some, List.getElem?_eq_getElem h]
    have e : xs.getD i .non = xs[i] := by rw [List.getD_eq_getElem?_getD, List.getElem?_eq_getElem h]; rfl
    rw [e]
    constructor
    · intro q; exact ⟨_, rfl, (Option.some.inj q).symm⟩
    · rintro ⟨x, q, rfl⟩; cases q; rfl
  · rw [List.getElem?_eq_none (by simpa using Nat.le_of_not_lt h), List.getElem?_eq_none (Nat.le_of_not_lt h)]
    simp
theorem enumD_length {xs : List D} : (enumD xs).length = xs.length := by simp [enumD]
theorem yl_enumT {K : PySem.W.Frag} {φ : List Addr} {H : Hp} {a : Addr} {xs : List D} {vs : List V} (ha : SqT K H a vs) (ra : RDs K φ H xs vs) : Yl K (IteT K a) φ H (enumD xs) noG := by
  refine ⟨fun φ1 H1 S i d e rh _ h => ?_, fun φ1 H1 S i d x H' e rh _ h y => ?_, fun φ1 H1 S e rh _ => ?_⟩
  · obtain ⟨x, h1, _⟩ := enumD_get.mp h
    obtain ⟨v, hv, _⟩ := ra.get h1
    exact ⟨vs, v, e.tup _ _ ha, hv⟩
  · obtain ⟨x1, h1, rfl⟩ := enumD_get.mp h
    obtain ⟨v, hv, rv⟩ := ra.get h1
    obtain ⟨T, p, rfl, nT, rfl, f1⟩ := y
    have e1 := f1 _ (e.tup _ _ ha)
    rw [hv] at e1; cases e1
    exact ⟨Ext.side nT, rh.side nT, RDs.mk_tup nT (.cons (.int _) (.cons (rv.ext e) .nil))⟩
  · exact ⟨vs, e.tup _ _ ha, by rw [enumD_length, ra.length]; exact Nat.le_refl _⟩
def iEnumD (t : DTA) (δ : Env) (S : Store) (Q : List D → (Store → Prop) → Store → Prop) : Prop := t δ S fun ds S1 => match ds with
  | [.tup xs] => Q (enumD xs) noG S1
  | _ => False
section
variable {X : Cx} {B : Base} {a : Expr} {t : DTA} {pos p : Pos}
theorem di_enum {elts : List Expr} {kk : Nat} {tpos : Pos} (hm : X.mg "enumerate" = none) (ha : PA X [a] (liftA X.K B t)) (hg : Gl X "enumerate" := by rfl) (hs : starEach [a] X.env = [(false, eval a X.env)] := by rfl) :
    PI X (.Tuple elts kk tpos) (.Call (.Name "enumerate" p) [a] [] pos) (liftI X.K B (iEnumD t)) := by
  refine ⟨fun pins s σ H R I h => ?_⟩
  obtain ⟨φ, δ, S, P, e, rs, rh, ht, k⟩ := h
  refine PyProof.Rows.Call_ (ld_blt I hg hm PyProof.Rows.boot_enumerate (PyProof.Rows.callWith_type1 (thn (ha.run pos pins s σ H (fun vs H1 => ∃ φ1 ds S1, Ext X.K φ φ1 H H1 ∧ RH X.K φ1 H1 S1 ∧ RDs X.K φ1 H1 ds vs ∧ (match ds with | [.tup xs] => P (enumD xs) noG S1 | _ => False)) I
    ⟨φ, δ, S, _, e, rs, rh, ht, fun φ1 H1 ds vs S1 e1 rh1 rd q => ⟨φ1, ds, S1, e1, rh1, rd, q⟩⟩) fun us s1 hus => ?_) hs rfl))
  obtain ⟨vs, H1, I1, r1, φ1, ds, S1, e1, rh1, rd, q⟩ := hus
  split at q
  · cases rd with
    | cons rd0 rd1 =>
      cases rd1
      cases rd0 with
      | tup hq ra =>
        cases r1 with
        | cons r rr =>
          cases rr
          cases r
          obtain ⟨its, rv, pt, hz⟩ := I1.tuple hq
          rename_i aa _
          refine enum1 (begins_tuple aa its.toArray) pt fun h' he ho hk => wpAny_pyIter_enum he ?_
          have hlt : aa < s1.heap.objs.size := by obtain ⟨o, q, _⟩ := pt; exact Heap.lt_size q
          have I2 : Inv X pins σ H1 { s1 with heap := h' } := I1.kept (t' := s1.toks) hk
          refine ⟨s1.heap.objs.size + 1, [s1.heap.objs.size + 1, s1.heap.objs.size], _, _, H1, rfl, I2, turn_enumT aa (s1.heap.objs.size + 1) s1.heap.objs.size, ⟨⟨.none, he⟩, ⟨_, ho, rfl, rfl⟩, Nat.succ_ne_self _, Nat.ne_of_lt hlt, Nat.ne_of_lt (Nat.lt_succ_of_lt hlt)⟩, fun b hb => ?_, k φ1 H1 _ _ _ S1 e1 rh1 (yl_enumT hq ra) q⟩
          have two : b = s1.heap.objs.size + 1 ∨ b = s1.heap.objs.size := by simpa using hb
          have hle : s1.heap.objs.size ≤ b := by
            rcases two with z | z <;> rw [z]
            · exact Nat.le_add_right _ _
            · exact Nat.le_refl _
          exact I1.fpOk hle (I1.hok.fresh hle)
  · exact q.elim
def isT1 : List D → (List D → Prop) → Prop
  | [.tup xs], k => k xs
  | _, _ => False
theorem isT1_mk {xs : List D} {k : List D → Prop} : isT1 [.tup xs] k = k xs := Eq.trans rfl rfl
theorem iEnumD_eq {δ : Env} {S : Store} {R : List D → (Store → Prop) → Store → Prop} : iEnumD t δ S R = t δ S fun ds S1 => isT1 ds fun xs => R (enumD xs) noG S1 := by
  unfold iEnumD
  congr 1; funext ds S1
  match ds with
  | [] => rfl
  | [d] => cases d <;> rfl
  | a :: _ :: _ => cases a <;> rfl
end
/-! ## xs[i] += e -/
def dAugIx (f : Int → Int → Int) (to ti te : DT) (E : DEnds) (δ : Env) (S : Store) : Prop := to δ S fun o S1 => ti δ S1 fun i S2 => isR o fun n => isI i fun k => 0 ≤ k ∧ dMut S2 n fun xs => optD (atI xs k) fun x => te δ S2 fun y S3 => isI x fun a => isI y fun b => dMut S3 n fun ys => optN (ixN ys.length k) fun j => E.nx δ (S3.set n (.lst (ys.set j (.int (f a b)))))
def gLst (K : PySem.W.Frag) : V → V → Hp → VK → Prop := fun o i H Q => ∃ p xs k v, o = .ref p ∧ i = .int k ∧ SqL K H p xs ∧ L2.atI xs k = some v ∧ 0 ≤ k ∧ Q v H
theorem get_lst {X : Cx} : PGet X (gLst X.K) := by
  intro pins s σ H o i ov iv Q I ro ri h
  obtain ⟨p, xs, k, v, rfl, rfl, hq, he, h0, q⟩ := h
  cases ro
  obtain ⟨t, rfl⟩ := ri
  obtain ⟨its, r, pl, hz⟩ := I.list hq
  obtain ⟨j, h1, h2, h3, h4, h5⟩ := atI_get he
  obtain ⟨u, eu, ru⟩ := r.get h2
  have hn := line63
  have hj : k.toNat = j := by
    rw [seqIndex_of h0 h5] at h1
    exact Option.some.inj h1
  have hl := r.length
  exact wpAny_getItem_list pl.isList h0 (by omega) (by rw [hj]; simpa using eu) ⟨v, H, I, ru, q⟩
theorem isR_at {d : D} {k : Nat → Prop} (h : isR d k) : ∃ n, d = .ref n ∧ k n := by
  cases d with
  | ref n => exact ⟨n, rfl, h⟩
  | _ => exact (show False from h).elim
theorem isI_at {d : D} {k : Int → Prop} (h : isI d k) : ∃ n, d = .int n ∧ k n := by
  cases d with
  | int n => exact ⟨n, rfl, h⟩
  | _ => exact (show False from h).elim
theorem optN_at {o : Option Nat} {k : Nat → Prop} (h : optN o k) : ∃ n, o = some n ∧ k n := by
  cases o with
  | none => exact h.elim
  | some n => exact ⟨n, rfl, h⟩
section
variable {X : Cx} {B : Base} {o i e : Expr} {to ti te : DT} {pos tpos : Pos} {op : Operator} {f : Int → Int → Int}
theorem ds_augIx (ho : PE X o (lift X.K B to)) (hi : PE X i (lift X.K B ti)) (he : PE X e (lift X.K B te)) (hp : PIp X op (ipI f))
    (ha : ∀ ov iv new, augStore i ov iv new = (do holding [new, ov, iv] (setItem ov iv new); release [new, ov, iv] []; pure .next) := by intros; rfl) :
    PS X (.AugAssign (.Subscript o i tpos) op e pos) (liftS X.K B (dAugIx f to ti te)) := PS.imp (ps_augS ho hi get_lst he hp set_list ha) fun σ H E h => by
  obtain ⟨φ, δ, S, P, ex, rs, rh, t, le⟩ := h
  refine ⟨φ, δ, S, _, ex, rs, rh, t, fun φ1 H1 x v S1 e1 rh1 rx q1 => ?_⟩
  refine ⟨φ1, δ, S1, _, ex.trans e1, rs.ext e1, rh1, q1, fun φ2 H2 y w S2 e2 rh2 ry q2 => ?_⟩
  obtain ⟨n, rfl, q2⟩ := isR_at q2
  obtain ⟨k, rfl, h0, q2⟩ := isI_at q2
  have rx := rx.ext e2
  cases rx with
  | ref hn =>
    cases ry
    obtain ⟨xs, vs, _, q, eh, r⟩ := dMut_at rh2 hn q2
    obtain ⟨d, ed, q⟩ := optD_at q
    obtain ⟨u, eu, ru⟩ := r.atI ed
    refine ⟨_, vs, k, u, rfl, rfl, .inl (.inl eh), eu, h0, φ2, δ, S2, _, (ex.trans e1).trans e2, (rs.ext e1).ext e2, rh2, q, fun φ3 H3 z w2 S3 e3 rh3 rz q3 => ?_⟩
    obtain ⟨a, rfl, q3⟩ := isI_at (d := d) q3
    obtain ⟨b, rfl, q3⟩ := isI_at (d := z) q3
    cases ru
    cases rz
    refine ⟨a, b, rfl, rfl, ?_⟩
    have hn3 := e3.pre _ _ hn
    obtain ⟨ys, ws, _, q, eh3, r3⟩ := dMut_at rh3 hn3 q3
    obtain ⟨j, ej, q⟩ := optN_at q
    have e123 := (e1.trans e2).trans e3
    obtain ⟨ex3, rh4⟩ := set_ok rh3 hn3 eh3 (r3.set (.int (f a b)) j)
    exact ⟨_, ws, k, j, rfl, rfl, eh3, by rw [← r3.length]; exact ej, le.nx φ3 _ σ δ _ (e123.trans ex3) ((rs.ext e123).ext ex3) rh4 q⟩
end
theorem dAugIx_E : type_of% @dAugIx.eq_1 := by intros; exact Eq.trans rfl rfl
end DL

set_option Elab.async false
set_option linter.all false
set_option maxRecDepth 100000
set_option autoImplicit false
set_option maxHeartbeats 4000000
namespace DL
open PySem PySem.Spec L2 PyProof.Rows

/-! ## a tuple, once: xs * 1 -/
theorem tuple_mul1 (l : Addr) (items : Array Value) (n : Nat) (dd : Option Addr) (sl : Array (Option Value)) (u : Tok) :
    Meets (Builtin.«tuple.__mul__» ⟨[.ref l, .int 1 u], []⟩) (fun _ R s => s.heap.get? l = some { cls := .type "tuple", dict := dd, data := .seq items n, slots := sl } ∧
      R (.ok (.ret (Value.ref l))) s) :=
  .of_wp fun prog w A R s h => by
    obtain ⟨hp, g, d, tk, os⟩ := s
    obtain ⟨hl, h⟩ := h
    have f1 := AutoSeq1.idx_int
    have c1 : (items.isEmpty || (1 : Int) == 1) = true := by rw [Bool.or_eq_true]; exact .inr rfl
    wp_walk using wpAny_loadPart' hl
    exact ⟨_, rfl, h⟩
def rRep1 (K : PySem.W.Frag) : R2 := fun x y H Q => ∃ l xs, x = .ref l ∧ y = .int 1 ∧ SqT K H l xs ∧ Q (.ref l) H
theorem op_rep1 {X : Cx} : OpR X (binaryOp .Mult) (rRep1 X.K) := by
  intro pins s σ H x y v u Q I rx ry h
  obtain ⟨l, xs, rfl, rfl, hT, q⟩ := h
  cases rx
  obtain ⟨t, rfl⟩ := ry
  obtain ⟨its, r, ⟨⟨cls, dd, data, sl⟩, ho, hc, n, hd⟩, hs⟩ := I.tuple hT
  simp only at hc hd
  subst hc hd
  exact wpAny_binaryOp_repeat_ref (T := "tuple") (U := "int") (by decide) ⟨_, ho, rfl⟩ (fun s' => typeIs_int s' 1 t) noFill_tuple_mul F.fills_int_mul F.slot_int_rmul repeat_tuple F.slot_int_index.lookup
    (call_meets F.slot_int_rmul (typeIs_int s 1 t) F.entry_int_rmul (F.args_int_rmul_2 _ _) (int_rmul_tuple 1 t l its.toArray n dd sl)
      ⟨ho, rfl, ⟨_, ho, rfl⟩, call_meets F.slot_tuple_mul ⟨_, ho, rfl⟩ F.entry_tuple_mul (F.args_tuple_mul_2 _ _) (tuple_mul1 l its.toArray n dd sl t) ⟨ho, ⟨.ref l, H, I, rfl, q⟩⟩⟩)
def dMulT : D2
  | .tup xs, .int j, S, Q => xs ≠ [] ∧ 1 ≤ j ∧ j ≤ 1000 ∧ xs.length ≤ 1000 ∧ Q (.tup (List.replicate j.toNat xs).flatten) S
  | _, _, _, _ => False
theorem dMulT_ok {K : PySem.W.Frag} : Snd2 K dMulT (fun x y H Q => rRep1 K x y H Q ∨ rRepT K x y H Q) := by
  intro φ H S x y v w P Q rh rx ry h k
  cases x with
  | tup xs =>
    cases y with
    | int j =>
      cases rx with
      | tup ha ra =>
        cases ry
        obtain ⟨h1, h2, h3, h4, q⟩ := (show xs ≠ [] ∧ 1 ≤ j ∧ j ≤ 1000 ∧ xs.length ≤ 1000 ∧ P (.tup (List.replicate j.toNat xs).flatten) S from h)
        by_cases e : j = 1
        · subst e
          refine .inl ⟨_, _, rfl, rfl, ha, k φ H _ _ S .refl rh (.tup ha ra) ?_⟩
          have e2 : (List.replicate (1 : Int).toNat xs).flatten = xs := by
            show (xs :: List.replicate 0 xs).flatten = xs
            simp
          rw [e2] at q
          exact q
        · refine .inr ⟨_, j, _, rfl, rfl, ha, fun z => h1 ?_, by omega, h3, by rw [← ra.length]; exact h4, fun p hp => k φ _ _ _ S (Ext.side hp) (rh.side hp) (RDs.mk_tup hp (ra.rep j.toNat)) q⟩
          have := ra.length
          rw [z] at this
          exact List.eq_nil_of_length_eq_zero this
    | _ => exact (show False from h).elim
  | _ => exact (show False from h).elim
theorem dMulT_i {xs : List D} {j : Int} {S : Store} {Q : DQ} : dMulT (.tup xs) (.int j) S Q = (xs ≠ [] ∧ 1 ≤ j ∧ j ≤ 1000 ∧ xs.length ≤ 1000 ∧ Q (.tup (List.replicate j.toNat xs).flatten) S) := Eq.trans rfl rfl
theorem de_mulT {X : Cx} {B : Base} {a b : Expr} {ta tb : DT} {pos : Pos} (ha : PE X a (lift X.K B ta)) (hb : PE X b (lift X.K B tb)) : PE X (.BinOp a .Mult b pos) (lift X.K B (dOp dMulT ta tb)) := de_op dMulT_ok (OpR.or op_rep1 op_repT) ha hb
/-! ## rows that wanted one -/
theorem dSorted_E : type_of% @dSorted.eq_1 := by intros; exact Eq.trans rfl rfl
def isT2 : List D → (List D → List D → Prop) → Prop
  | [.tup xs, .tup ys], k => k xs ys
  | _, _ => False
theorem isT2_mk {xs ys : List D} {k : List D → List D → Prop} : isT2 [.tup xs, .tup ys] k = k xs ys := Eq.trans rfl rfl
theorem iZipD_eq {t : DTA} {δ : Env} {S : Store} {R : List D → (Store → Prop) → Store → Prop} : iZipD t δ S R = t δ S fun ds S1 => isT2 ds fun xs ys => R (zipD xs ys) noG S1 := by
  unfold iZipD
  congr 1; funext ds S1
  match ds with
  | [] => rfl
  | [d] => cases d <;> rfl
  | [d, e] => cases d <;> cases e <;> rfl
  | a :: b :: _ :: _ => cases a <;> cases b <;> rfl
/-! ## a comprehension in a comprehension -/
theorem look_re {ev : PySem.Env} {x : Str} : ∀ {ns : List (Str × NameKind)}, (ns.lookup x = some .cell ∨ ns.lookup x = some .free) →
    ((ns.map fun (n, k) => if (k == NameKind.free && ev.scope.kind == .function && ev.kindOf n == some .cell) then (n, NameKind.cell) else (n, k)).lookup x = some .cell ∨
      (ns.map fun (n, k) => if (k == NameKind.free && ev.scope.kind == .function && ev.kindOf n == some .cell) then (n, NameKind.cell) else (n, k)).lookup x = some .free)
  | [], h => by rcases h with h | h <;> simp at h
  | (n, k) :: r, h => by
    have ih := @look_re ev x r
    rw [List.map_cons]
    dsimp only
    by_cases hc : (k == NameKind.free && ev.scope.kind == .function && ev.kindOf n == some .cell) = true
    · rw [if_pos hc, List.lookup_cons]
      rw [List.lookup_cons] at h
      cases hx : x == n with
      | true => exact .inl rfl
      | false => rw [hx] at h; exact ih h
    · rw [if_neg hc, List.lookup_cons]
      rw [List.lookup_cons] at h
      cases hx : x == n with
      | true => rw [hx] at h; exact h
      | false => rw [hx] at h; exact ih h
theorem BlkOk.re {N : List Str} {sc scope : Scope} {own : List (Str × Nat)} (h : BlkOk N sc scope own) (ev : PySem.Env) : BlkOk N (relabel sc ev) scope own :=
  ⟨h.kind, h.uniq, h.ix, fun y hy e => look_re (h.free y hy e), h.own⟩
theorem dl_compIn {X0 : Cx} {s0 : Shared} {H0 : Hp} {sc0 : Scope} {C0 : Addr} {cl0 : List (Str × Addr)} {fp0 : List Addr} {B : Base} {tg elt iter : Expr} {ifs : List Expr} {scope : Scope} {own : List (Str × Nat)} {ti : DTI} {g : Tg} {tt : DTT} {te : DT} {pos : Pos}
    (hN : X0.N.Nodup) (hi : PI (X0.blk s0 H0 sc0 (compEnvC sc0 cl0 C0 X0.env) fp0) tg iter (liftI X0.K B ti)) (ok : BlkOk X0.N sc0 scope own)
    (hg : ∀ (s : Shared) (H : Hp) (C : Addr) (cl : List (Str × Addr)) (fp : List Addr), PG ((X0.blk s0 H0 sc0 (compEnvC sc0 cl0 C0 X0.env) fp0).blk s H scope (compEnvC scope cl C (compEnvC sc0 cl0 C0 X0.env)) fp) tg (gOf X0.K g))
    (ht : ∀ (s : Shared) (H : Hp) (C : Addr) (cl : List (Str × Addr)) (fp : List Addr), PTs ((X0.blk s0 H0 sc0 (compEnvC sc0 cl0 C0 X0.env) fp0).blk s H scope (compEnvC scope cl C (compEnvC sc0 cl0 C0 X0.env)) fp) ifs (liftT X0.K B tt))
    (he : ∀ (s : Shared) (H : Hp) (C : Addr) (cl : List (Str × Addr)) (fp : List Addr), PE ((X0.blk s0 H0 sc0 (compEnvC sc0 cl0 C0 X0.env) fp0).blk s H scope (compEnvC scope cl C (compEnvC sc0 cl0 C0 X0.env)) fp) elt (lift X0.K B te))
    (hown : ∀ i ∈ g.slots, i ∈ own.map (·.2) := by decide) (hc : X0.calm = true := by rfl) (hs : ∀ x, foldedSetIterable iter (compEnvC sc0 cl0 C0 X0.env) x = pure x := by intro _; rfl) :
    PE (X0.blk s0 H0 sc0 (compEnvC sc0 cl0 C0 X0.env) fp0) (.ListComp elt [⟨tg, iter, ifs, 0⟩] scope pos) (liftL X0.K B (dLc ti g (own.map (·.2)) tt te)) :=
  dl_comp (X := X0.blk s0 H0 sc0 (compEnvC sc0 cl0 C0 X0.env) fp0) hN hi (BlkOk.re ok X0.env) hg ht he hown hc hs
end DL

set_option Elab.async false
set_option linter.all false
set_option maxRecDepth 100000
set_option autoImplicit false
set_option maxHeartbeats 4000000
namespace DL
open PySem PySem.Spec L2 PyProof.Rows PySem.W

/-! ## list(range(n)) -/
def dLRg (t : DT) (δ : Env) (S : Store) (Q : List D → Store → Prop) : Prop := t δ S fun d S1 => isI d fun n => 0 ≤ n ∧ n ≤ 1000000 ∧ Q (rangeD 0 n.toNat) S1
theorem dLRg_E : type_of% @dLRg.eq_1 := by intros; exact Eq.trans rfl rfl
theorem rd_range {K : PySem.W.Frag} {φ : List Addr} {H : Hp} {n : Int} : RDs K φ H (rangeD 0 n.toNat) (rgV 0 n) := by
  unfold rangeD rgV
  rw [Int.sub_zero]
  generalize List.range n.toNat = l
  induction l with
  | nil => exact .nil
  | cons i l ih => exact .cons (.int _) ih
theorem dl_listRange {X : Cx} {B : Base} {a : Expr} {ta : DT} {p p2 pos pos2 : Pos} (hm : X.mg "list" = none) (hr : X.mg "range" = none) (ha : PE X a (lift X.K B ta)) (hc : X.calm = true := by rfl) (hg : Gl X "list" := by rfl) (hgr : Gl X "range" := by rfl)
    (na : starEach [a] X.env = (false, eval a X.env) :: starEach [] X.env := by rfl)
    (nb : starEach [.Call (.Name "range" p2) [a] [] pos2] X.env = (false, eval (.Call (.Name "range" p2) [a] [] pos2) X.env) :: starEach [] X.env := by rfl) :
    PE X (.Call (.Name "list" p) [.Call (.Name "range" p2) [a] [] pos2] [] pos) (liftL X.K B (dLRg ta)) :=
  PE.imp (pe_listRg hc hg hm (prg_1 hgr hr ha na) nb) fun σ H Q h => by
    obtain ⟨φ, δ, S, P, e, rs, rh, t, k⟩ := h
    refine ⟨φ, δ, S, _, e, rs, rh, t, fun φ1 H1 x v S1 e1 rh1 rx q1 => ?_⟩
    obtain ⟨n, rfl, h0, h1, q⟩ := isI_at q1
    cases rx
    refine ⟨n, rfl, RgOk.of_le (by omega) (by omega) (by omega) h0, fun l hl => ?_⟩
    exact k φ1 _ (rangeD 0 n.toNat) (rgV 0 n) S1 l (e1.trans (Ext.side hl)) upd_same (rh1.notin hl) (rh.free rh1 e1 hl) (rh1.side hl) rd_range q

/-! ## max(a tuple of ints) -/
def rMaxT (K : PySem.W.Frag) : List V → Hp → VK → Prop := fun vs H Q => ∃ (a : Addr) (n : Int) (ns : List Int), vs = [V.ref a] ∧ SqT K H a ((n :: ns).map V.int) ∧ Q (.int (ns.foldl max n)) H
theorem reads_ints {h : Heap} : ∀ {ns : List Int} {its : List Value}, Vals (ns.map V.int) its → ReadsAll h its (ns.map .int) []
  | [], _, .nil => .nil
  | n :: ns, _, .cons a b => by
    obtain ⟨t, rfl⟩ := a
    exact .cons (.int n t) (reads_ints b)
theorem alike_ints (ns : List Int) : AlikeAll (ns.map PyData.int) := by
  refine ⟨fun x hx y hy => ?_, fun x hx => ?_⟩
  · obtain ⟨i, _, rfl⟩ := List.mem_map.mp hx
    obtain ⟨j, _, rfl⟩ := List.mem_map.mp hy
    rfl
  · obtain ⟨i, _, rfl⟩ := List.mem_map.mp hx
    exact fun z => nomatch z
theorem depth_ints (ns : List Int) : PyData.depthAll (ns.map PyData.int) = 0 := by
  induction ns with
  | nil => rfl
  | cons n ns ih => rw [List.map_cons, PyData.depthAll, ih]; rfl
theorem cr_maxT {X : Cx} {k : Nat} (hr : Room k X.A) (hc : X.calm = true) : CallR X (.builtin "max") (rMaxT X.K) := by
  intro pins s σ H vs us Q I r h
  obtain ⟨a, n, ns, rfl, hs, q⟩ := h
  obtain ⟨its, rv, pt, _⟩ := I.tuple hs
  rw [Vals.ref1 r]
  have hu := hr.units
  refine max_tuple_data (I.ok.hd hc) pt (reads_ints rv) (alike_ints (n :: ns)) (by rw [show (PyData.int n :: ns.map PyData.int) = (n :: ns).map PyData.int from rfl, depth_ints]; omega) fun i v h' tk bs hv rd hk => ?_
  rw [maxD_ints] at rd
  cases rd with
  | int _ t => exact ⟨.int _, H, I.kept hk, ⟨t, rfl⟩, q⟩
def dMaxT : D1
  | .tup xs, S, Q => ∃ (n : Int) (ns : List Int), xs = (n :: ns).map .int ∧ Q (.int (ns.foldl max n)) S
  | _, _, _ => False
theorem dMaxT_t {xs : List D} {S : Store} {Q : DQ} : dMaxT (.tup xs) S Q = ∃ (n : Int) (ns : List Int), xs = (n :: ns).map .int ∧ Q (.int (ns.foldl max n)) S := Eq.trans rfl rfl
theorem dMaxT_ok {K : PySem.W.Frag} : SndN K (one dMaxT) (rMaxT K) := snd_one fun φ H S x v P Q rh rx h k => by
  cases x with
  | tup xs =>
    cases rx with
    | tup ha ra =>
      obtain ⟨n, ns, rfl, q⟩ := (show ∃ (n : Int) (ns : List Int), xs = (n :: ns).map .int ∧ P (.int (ns.foldl max n)) S from h)
      rw [ra.ints_of] at ha
      exact ⟨_, n, ns, rfl, ha, k φ H _ _ S .refl rh (.int _) q⟩
  | _ => exact (show False from h).elim
theorem de_maxT {X : Cx} {B : Base} {a : Expr} {ta : DT} {p pos : Pos} {k : Nat} (hr : Room k X.A) (hm : X.mg "max" = none) (ha : PE X a (lift X.K B ta)) (hc : X.calm = true := by rfl) (hg : Gl X "max" := by rfl) (he : starEach [a] X.env = [(false, eval a X.env)] := by rfl) :
    PE X (.Call (.Name "max" p) [a] [] pos) (lift X.K B (dUn dMaxT ta)) := de_b1 dMaxT_ok (cr_maxT hr hc) boot_max hm ha hg (by decide) (by decide) he
end DL

set_option Elab.async false
set_option linter.all false
set_option maxRecDepth 100000
set_option autoImplicit false
namespace DL
open PySem PySem.Spec L2
theorem fm_congr {α β : Type} {f g : α → Option β} : ∀ {l : List α}, (∀ x ∈ l, f x = g x) → l.filterMap f = l.filterMap g
  | [], _ => rfl
  | x :: l, h => by
    rw [List.filterMap_cons, List.filterMap_cons, h x List.mem_cons_self, fm_congr fun y hy => h y (List.mem_cons_of_mem _ hy)]

/-! ## xs[::-1] -/
section
open PyProof.Rows HT
variable {prog : Program} {w : World} {A : Around} {E : Value → Shared → Prop} {s : Shared}
theorem back_pick (xs : Array Value) : ((List.range xs.size).filterMap fun (k : Nat) => xs[(((xs.size : Int) - 1) + (k : Int) * -1).toNat]?).toArray = xs.toList.reverse.toArray := by
  congr 1
  have e : (List.range xs.size).filterMap (fun (k : Nat) => xs[(((xs.size : Int) - 1) + (k : Int) * -1).toNat]?) = ((List.range xs.size).map fun k => xs.size - 1 - k).filterMap (xs[·]?) := by
    rw [List.filterMap_map]
    refine fm_congr fun k hk => ?_
    have := List.mem_range.mp hk
    show _ = xs[xs.size - 1 - k]?
    congr 1
    omega
  rw [e, PySem.W.krv_range, List.filterMap_reverse, PySem.W.krv_all]
theorem getItem_tuple_back {t sl : Addr} {items : Array Value} {vs : Value} {Q : Value → Shared → Prop} (ht : IsTup s.heap t items) (hs : s.heap.IsSliceOf sl .none .none vs) (ps : IsPart vs (some (-1)))
    (h : Q (.ref s.heap.objs.size) { s with heap := s.heap.push { cls := .type "tuple", data := .seq items.toList.reverse.toArray } })
    (hsz : items.size ≤ sizeLine) : wpAny (model prog w) A (getItem (.ref t) (.ref sl)) Q E s := by
  obtain ⟨os, hos, hcs, hds⟩ := id hs
  have hTs : s.TypeIs (.ref sl) "slice" := ⟨os, hos, hcs⟩
  unfold getItem
  try with_reducible refine wpAny_holding ?_
  first | refine wpAny_bind (wpAny_pure ?_) | skip
  refine wpAny_bind (wpAny_sequenceKey ht.typeIs (by decide) ?_)
  refine wpAny_bind (wpAny_callSpecial?_slot (name := Str.ofString "__getitem__") ht.typeIs PyProof.Rows.slot_tuple_getitem
    (wpAny_call_entry PyProof.Rows.slot_tuple_getitem ht.typeIs PyProof.Rows.entry_tuple_getitem ?_ (PyProof.Rows.args_tuple_getitem _ _)))
  show wpAny _ _ (Builtin.Tuple.tupleItemsOf (.ref t) >>= _) _ _ s
  refine wpAny_bind (tupleItemsOf_ ht ?_)
  refine wpAny_bind (wpAny_typeOf hTs ?_)
  rw [if_pos (by decide)]
  have sa : wpAny (model prog w) A.in1 (Builtin.Slice.sliceApplied (.ref sl) (pure (items.size : Int))) (fun r s' => r = ((items.size : Int) - 1, -1, items.size) ∧ s' = s) E s := by
    unfold Builtin.Slice.sliceApplied Builtin.Slice.sliceFields
    refine wpAny_bind (wpAny_bind (wpAny_field hos hds (x := .none) rfl (wpAny_bind (wpAny_field hos hds (x := .none) rfl (wpAny_bind (wpAny_field hos hds (x := vs) rfl (wpAny_pure ?_)))))))
    refine wpAny_bind (HT.slicePart_ ps ?_)
    show wpAny _ _ (if ((-1 : Int) == 0) = true then _ else _) _ _ s
    rw [if_neg (by decide)]
    refine wpAny_bind (HT.slicePart_ .none (wpAny_bind (HT.slicePart_ .none (wpAny_bind (wpAny_pure ?_)))))
    refine wpAny_pure ⟨?_, rfl⟩
    show (((items.size : Int) - 1), (-1 : Int), Builtin.Slice.slicePlaces ((items.size : Int) - 1) (-1) (-1)) = _
    have hp : Builtin.Slice.slicePlaces ((items.size : Int) - 1) (-1) (-1) = items.size := by
      unfold Builtin.Slice.slicePlaces
      rw [if_neg (by decide)]
      by_cases h : items.size = 0
      · rw [h]; rfl
      · rw [if_pos (by omega)]
        show ((((items.size : Int) - 1) - (-1) - 1) / 1 + 1).toNat = _
        rw [Int.ediv_one]
        omega
    rw [hp]
  refine wpAny_bind (wpAny_mono sa ?_ fun _ _ e => e)
  rintro r s' ⟨rfl, rfl⟩
  have hno : ¬ ((((items.size : Int) - 1) == 0 && (-1 : Int) == 1 && items.size == items.size) = true) := by
    intro q
    rw [Bool.and_eq_true, Bool.and_eq_true] at q
    exact absurd (eq_of_beq q.1.2) (by decide)
  show wpAny _ _ (if (((items.size : Int) - 1) == 0 && (-1 : Int) == 1 && items.size == items.size) = true then _ else _) _ _ s'
  rw [if_neg hno, back_pick]
  have htake : sizeOk (.seq items.toList.reverse.toArray) := by
    show items.toList.reverse.toArray.size ≤ sizeLine
    rw [List.size_toArray, List.length_reverse, Array.length_toList]
    exact hsz
  first
    | exact wpAny_bind (m := Builtin.Tuple.tupleExact _) (wpAny_newObj_type (wpAny_pure ⟨_, rfl, wpAny_pure h⟩) htake)
    | exact wpAny_bind (m := Builtin.Tuple.tupleExact _) (wpAny_newObj_type (wpAny_bind (wpAny_pure (wpAny_pure ⟨_, rfl, wpAny_pure h⟩))) htake)
    | exact wpAny_bind (wpAny_bind (m := Builtin.Tuple.tupleExact _) (wpAny_newObj_type (wpAny_pure (wpAny_pure ⟨_, rfl, wpAny_pure h⟩)) htake))
    | exact wpAny_bind (wpAny_bind (m := Builtin.Tuple.tupleExact _) (wpAny_newObj_type (wpAny_pure ⟨_, rfl, wpAny_pure h⟩) htake))
end
def tRevT (K : PySem.W.Frag) (te : TE) : TE := fun σ H Q => te σ H fun x H1 => ∃ a xs, x = .ref a ∧ ((SqL K H1 a xs ∧ ∀ p, H1 p = none → Q (.ref p) (upd H1 p (.lst xs.reverse))) ∨ (SqT K H1 a xs ∧ ∀ p, H1 p = none → Q (.ref p) (upd H1 p (.tup xs.reverse))))
section
open PyProof.Rows
variable {X : Cx} {B : Base} {ta : DT} {a : Expr}
theorem pe_revT {e : Expr} {te : TE} {k : Nat} {p1 p2 p3 pos : Pos} (he : PE X e te) : PE X (.Subscript e (.Slice none none (some (.UnaryOp .USub (.Constant (.int 1) k p1) p2)) p3) pos) (tRevT X.K te) := by
  refine ⟨fun pins s σ H Q I h => ?_⟩
  refine Subscript_ (thn (he.run pins s σ H _ I h) fun v s1 ⟨x, H1, I1, r1, q1⟩ => ?_)
  obtain ⟨a, xs, ex, q⟩ := q1
  subst ex
  cases r1
  have hst : PO X (some (.UnaryOp .USub (.Constant (.int 1) k p1) p2)) (tPart (tUn (rU fun i => .int (-i)) (tC (.int 1)))) := po_some (pe_un un_neg pe_int)
  refine wpAny_Slice (thn (po_none.run pins s1 σ H1 (fun o H2 => o = none ∧ H2 = H1) I1 ⟨rfl, rfl⟩) fun vl s2 ⟨l, H2, I2, pl, el, e2⟩ => ?_)
  subst el e2
  refine thn (po_none.run pins s2 σ H2 (fun o H3 => o = none ∧ H3 = H2) I2 ⟨rfl, rfl⟩) fun vu s3 ⟨u, H3, I3, pu, eu, e3⟩ => ?_
  subst eu e3
  refine thn (hst.run pins s3 σ H3 (fun o H4 => o = some (-1) ∧ H4 = H3) I3 ⟨1, rfl, -1, rfl, rfl, rfl⟩) fun vs s4 ⟨o, H4, I4, ps, eo, e4⟩ => ?_
  subst eo e4
  have I5 : Inv X pins σ H4 { s4 with heap := s4.heap.push { cls := .type "slice", data := .fields #[vl, vu, vs] } } := I4.kept (t' := s4.toks) fun b ob q => Heap.get?_push_of_some _ q
  show wpAny (model X.prog X.w) X.A (subscriptTail e (.Slice none none (some (.UnaryOp .USub (.Constant (.int 1) k p1) p2)) p3) (.ref a) (.ref s4.heap.objs.size)) (EP X pins σ Q) X.xe { s4 with heap := s4.heap.push { cls := .type "slice", data := .fields #[vl, vu, vs] } }
  cases pl
  cases pu
  rcases q with ⟨hx, q⟩ | ⟨hx, q⟩
  · obtain ⟨its, r, ht, hz⟩ := I5.list hx
    have hlen := r.length
    refine tail_any (ops := [.ref a, .ref s4.heap.objs.size]) ht.isList.typeIs (PySem.slot_list_getitem.lookup) ?_ (by with_unfolding_all rfl)
    refine wpAny_getItem_list_slice ht.isList (Heap.IsSliceOf.new _ .none .none vs) .none .none ps (by decide) ?_ (by rw [List.size_toArray]; omega)
    rw [PySem.W.krv_pick]
    refine ⟨.ref _, _, I5.laid (t' := s4.toks) (o := .lst xs.reverse) (fun b ob q => Heap.get?_push_of_some _ q) (Nat.le_refl _) ?_, rfl, q _ (I5.hok.fresh (Nat.le_refl _))⟩
    exact ⟨by rw [List.length_reverse]; exact hz, _, 0, r.reverse, Heap.get?_push_size _ rfl⟩
  · obtain ⟨its, r, ht, hz⟩ := I5.tuple hx
    have hlen := r.length
    refine tail_any (ops := [.ref a, .ref s4.heap.objs.size]) ht.typeIs (PyProof.Rows.slot_tuple_getitem.lookup) ?_ (by with_unfolding_all rfl)
    refine getItem_tuple_back ht (Heap.IsSliceOf.new _ .none .none vs) ps ?_ (by rw [List.size_toArray]; omega)
    refine ⟨.ref _, _, I5.laid (t' := s4.toks) (o := .tup xs.reverse) (fun b ob q => Heap.get?_push_of_some _ q) (Nat.le_refl _) ?_, rfl, q _ (I5.hok.fresh (Nat.le_refl _))⟩
    exact ⟨by rw [List.length_reverse]; exact hz, _, r.reverse, IsTup.new _ _⟩
def dRevV : D1
  | .tup xs, S, Q => Q (.tup xs.reverse) S
  | .ref n, S, Q => dLst S n fun xs => Q (.ref S.length) (S ++ [.lst xs.reverse])
  | _, _, _ => False
theorem de_rev {k : Nat} {p1 p2 p3 pos : Pos} (ha : PE X a (lift X.K B ta)) : PE X (.Subscript a (.Slice none none (some (.UnaryOp .USub (.Constant (.int 1) k p1) p2)) p3) pos) (lift X.K B (dUn dRevV ta)) :=
  PE.imp (pe_revT ha) fun σ H Q h => by
    obtain ⟨φ, δ, S, P, ex, rs, rh, t, k⟩ := h
    refine ⟨φ, δ, S, _, ex, rs, rh, t, fun φ1 H1 x v S1 e1 rh1 rx q1 => ?_⟩
    cases x with
    | tup xs =>
      cases rx with
      | tup ha ra => exact ⟨_, _, rfl, .inr ⟨ha, fun p hp => k φ1 _ _ _ S1 (e1.trans (Ext.side hp)) (rh1.side hp) (RDs.mk_tup hp ra.reverse) q1⟩⟩
    | ref n =>
      cases rx with
      | ref hn =>
        obtain ⟨xs, vs, q, hl, r⟩ := dLst_at rh1 hn (show dLst S1 n _ from q1)
        refine ⟨_, _, rfl, .inl ⟨hl, fun p hp => ?_⟩⟩
        exact k (φ1 ++ [p]) _ (.ref S1.length) (.ref p) _ (e1.trans (Ext.cell rh1 hp)) (rh1.alloc hp (show RC X.K _ _ (.lst _) p from ⟨_, upd_same, r.reverse.ext (Ext.cell rh1 hp)⟩)) (.ref (by rw [← rh1.len, List.getElem?_concat_length])) q
    | _ => exact (show False from q1).elim
end
theorem dRevV_t {xs : List D} {S : Store} {Q : DQ} : dRevV (.tup xs) S Q = Q (.tup xs.reverse) S := Eq.trans rfl rfl
theorem dRevV_l {n : Nat} {S : Store} {Q : DQ} : dRevV (.ref n) S Q = dLst S n fun xs => Q (.ref S.length) (S ++ [.lst xs.reverse]) := Eq.trans rfl rfl

/-! ## a def that is never called -/
def spNo : DSp := fun _ _ _ _ => False
theorem DFn.no {P : Program} {w : World} {K : PySem.W.Frag} {mg : Str → Option Value} {base : Heap} {CX : CXT} {k : Nat} {f : Addr} {fd : FuncData} {ps : List Str} : DFn P w K mg base CX k f fd ps spNo :=
  ⟨fun _ _ _ _ h => False.elim h, fun _ _ _ _ _ _ _ _ _ _ _ _ _ _ _ _ _ _ _ _ h _ => False.elim h⟩
end DL

set_option Elab.async false
set_option linter.all false
set_option maxRecDepth 100000
set_option autoImplicit false
namespace DL
open PySem PySem.Spec L2

/-! ## things that hang on no cell below b: ints up to m, at most w heavy, k deep -/
mutual
inductive G (b : Nat) (X : Store) (m : Nat) : D → Nat → Nat → Prop
  | non {w k : Nat} : G b X m .non w k
  | bl {x : Bool} {w k : Nat} : G b X m (.bl x) w k
  | int {i : Int} {w k : Nat} (h : i.natAbs ≤ m) (hw : 203 ≤ w) : G b X m (.int i) w k
  | str {x : Str} {w k : Nat} (h : Cp x) (hw : x.length ≤ w) : G b X m (.str x) w k
  | tup {xs : List D} {w k : Nat} (h : GA b X m xs w k) : G b X m (.tup xs) w (k + 1)
  | ref {n : Nat} {xs : List D} {w k : Nat} (e : X[n]? = some (Cell.lst xs)) (h : GA b X m xs w k) : G b X m (.ref (b + n)) w (k + 1)
inductive GA (b : Nat) (X : Store) (m : Nat) : List D → Nat → Nat → Prop
  | nil {w k : Nat} : GA b X m [] w k
  | cons {d : D} {ds : List D} {w1 w2 w k : Nat} (h : G b X m d w1 k) (t : GA b X m ds w2 k) (hw : w1 + 1 + w2 ≤ w) : GA b X m (d :: ds) w k
end
section
variable {b m : Nat} {X : Store} {d : D} {ds es : List D} {w w' k k' : Nat}
mutual
theorem G.mono : ∀ {d : D} {w k m' w' k' : Nat}, G b X m d w k → m ≤ m' → w ≤ w' → k ≤ k' → G b X m' d w' k'
  | _, _, _, _, _, _, .non, _, _, _ => .non
  | _, _, _, _, _, _, .bl, _, _, _ => .bl
  | _, _, _, _, _, _, .int h hw, h0, h1, _ => .int (Nat.le_trans h h0) (Nat.le_trans hw h1)
  | _, _, _, _, _, _, .str h hw, _, h1, _ => .str h (Nat.le_trans hw h1)
  | _, _, k + 1, _, _, k' + 1, .tup h, h0, h1, h2 => .tup (GA.mono h h0 h1 (Nat.le_of_succ_le_succ h2))
  | _, _, k + 1, _, _, 0, .tup h, _, _, h2 => absurd h2 (Nat.not_succ_le_zero _)
  | _, _, k + 1, _, _, k' + 1, .ref e h, h0, h1, h2 => .ref e (GA.mono h h0 h1 (Nat.le_of_succ_le_succ h2))
  | _, _, k + 1, _, _, 0, .ref e h, _, _, h2 => absurd h2 (Nat.not_succ_le_zero _)
theorem GA.mono : ∀ {ds : List D} {w k m' w' k' : Nat}, GA b X m ds w k → m ≤ m' → w ≤ w' → k ≤ k' → GA b X m' ds w' k'
  | _, _, _, _, _, _, .nil, _, _, _ => .nil
  | _, _, _, _, _, _, .cons h t hw, h0, h1, h2 => .cons (G.mono h h0 (Nat.le_refl _) h2) (GA.mono t h0 (Nat.le_refl _) h2) (Nat.le_trans hw h1)
end
mutual
theorem G.more {X' : Store} (e' : ∀ (n : Nat) (xs : List D), X[n]? = some (Cell.lst xs) → X'[n]? = some (Cell.lst xs)) : ∀ {d : D} {w k : Nat}, G b X m d w k → G b X' m d w k
  | _, _, _, .non => .non
  | _, _, _, .bl => .bl
  | _, _, _, .int h hw => .int h hw
  | _, _, _, .str h hw => .str h hw
  | _, _, _, .tup h => .tup (GA.more e' h)
  | _, _, _, .ref e h => .ref (e' _ _ e) (GA.more e' h)
theorem GA.more {X' : Store} (e' : ∀ (n : Nat) (xs : List D), X[n]? = some (Cell.lst xs) → X'[n]? = some (Cell.lst xs)) : ∀ {ds : List D} {w k : Nat}, GA b X m ds w k → GA b X' m ds w k
  | _, _, _, .nil => .nil
  | _, _, _, .cons h t hw => .cons (G.more e' h) (GA.more e' t) hw
end
theorem G.grow (T : Store) (h : G b X m d w k) : G b (X ++ T) m d w k := h.more (grown T)
theorem GA.grow (T : Store) (h : GA b X m ds w k) : GA b (X ++ T) m ds w k := h.more (grown T)
/-- M: S with some cells hidden -/
structure Mask (M S : Store) : Prop where
  len : M.length = S.length
  at_ : ∀ (n : Nat) (xs : List D), M[n]? = some (Cell.lst xs) → S[n]? = some (Cell.lst xs)
theorem Mask.refl {S : Store} : Mask S S := ⟨rfl, fun _ _ h => h⟩
theorem Mask.append {M S : Store} (h : Mask M S) (T : Store) : Mask (M ++ T) (S ++ T) := by
  refine ⟨by rw [List.length_append, List.length_append, h.len], fun n xs e => ?_⟩
  by_cases hn : n < M.length
  · rw [List.getElem?_append_left hn] at e
    rw [List.getElem?_append_left (by rw [← h.len]; exact hn)]
    exact h.at_ n xs e
  · rw [List.getElem?_append_right (by omega)] at e
    rw [List.getElem?_append_right (by rw [← h.len]; omega), ← h.len]
    exact e
def hid : Cell := .dic []
theorem Mask.hole {X Z : Store} {c : Cell} : Mask (X ++ hid :: Z) (X ++ c :: Z) := by
  refine ⟨by simp, fun n xs e => ?_⟩
  by_cases hn : n < X.length
  · rw [List.getElem?_append_left hn] at e ⊢
    exact e
  · rw [List.getElem?_append_right (by omega)] at e ⊢
    cases hk : n - X.length with
    | zero => rw [hk] at e; cases e
    | succ j => rw [hk] at e; exact e
theorem G.mask {M S : Store} (h : Mask M S) (g : G b M m d w k) : G b S m d w k := g.more h.at_
theorem GA.mask {M S : Store} (h : Mask M S) (g : GA b M m ds w k) : GA b S m ds w k := g.more h.at_
mutual
/-- as seen from the whole store -/
theorem G.at0 {Z : Store} (hz : Z.length = b) : ∀ {d : D} {w k : Nat}, G b X m d w k → G 0 (Z ++ X) m d w k
  | _, _, _, .non => .non
  | _, _, _, .bl => .bl
  | _, _, _, .int h hw => .int h hw
  | _, _, _, .str h hw => .str h hw
  | _, _, _, .tup h => .tup (GA.at0 hz h)
  | _, _, _, .ref (n := n) (xs := xs) e h => by
    have e' : (Z ++ X)[b + n]? = some (Cell.lst xs) := by rw [List.getElem?_append_right (by omega), hz, Nat.add_sub_cancel_left]; exact e
    have := G.ref (b := 0) e' (GA.at0 hz h)
    rwa [Nat.zero_add] at this
theorem GA.at0 {Z : Store} (hz : Z.length = b) : ∀ {ds : List D} {w k : Nat}, GA b X m ds w k → GA 0 (Z ++ X) m ds w k
  | _, _, _, .nil => .nil
  | _, _, _, .cons h t hw => .cons (G.at0 hz h) (GA.at0 hz t) hw
end
mutual
theorem G.sh (hm : m < 10 ^ 61) : ∀ {d : D} {w k : Nat}, G b X m d w k → ∃ p, ∀ Z : Store, Z.length = b → Sh (Z ++ X) d p w k
  | _, _, _, .non => ⟨_, fun _ _ => Sh.non.mono (Nat.zero_le _) (Nat.le_refl _)⟩
  | _, _, _, .bl => ⟨_, fun _ _ => Sh.bl.mono (Nat.zero_le _) (Nat.le_refl _)⟩
  | _, _, _, .int h hw => ⟨_, fun _ _ => (Sh.int (Nat.lt_of_le_of_lt h hm)).mono hw (Nat.le_refl _)⟩
  | _, _, _, .str h hw => ⟨_, fun _ _ => Sh.str h hw⟩
  | _, _, _, .tup h => by
    obtain ⟨ps, hp⟩ := GA.sh hm h
    exact ⟨_, fun Z hz => ShA.tup (hp Z hz)⟩
  | _, _, _, .ref (n := n) e h => by
    obtain ⟨ps, hp⟩ := GA.sh hm h
    refine ⟨_, fun Z hz => ShA.lst ?_ (hp Z hz)⟩
    rw [List.getElem?_append_right (by omega), hz, Nat.add_sub_cancel_left]
    exact e
theorem GA.sh (hm : m < 10 ^ 61) : ∀ {ds : List D} {w k : Nat}, GA b X m ds w k → ∃ ps, ∀ Z : Store, Z.length = b → ShA (Z ++ X) ds ps w k
  | _, _, _, .nil => ⟨_, fun _ _ => ShA.nil.mono (Nat.zero_le _) (Nat.le_refl _)⟩
  | _, _, _, .cons h t hw => by
    obtain ⟨p, hp⟩ := G.sh hm h
    obtain ⟨ps, hps⟩ := GA.sh hm t
    exact ⟨_, fun Z hz => (ShA.cons (hp Z hz) (hps Z hz)).mono hw (Nat.le_refl _)⟩
end
theorem G.wt (h : G b X m d w k) (h1 : w ≤ w') : G b X m d w' k := h.mono (Nat.le_refl _) h1 (Nat.le_refl _)
theorem GA.wt (h : GA b X m ds w k) (h1 : w ≤ w') : GA b X m ds w' k := h.mono (Nat.le_refl _) h1 (Nat.le_refl _)
theorem GA.mem : ∀ {ds : List D} {w k : Nat}, GA b X m ds w k → ∀ d ∈ ds, G b X m d w k
  | _, _, _, .cons h t hw, d, hd => by
    rcases List.mem_cons.mp hd with rfl | hd
    · exact h.wt (by omega)
    · exact (GA.mem t d hd).wt (by omega)
theorem GA.length : ∀ {ds : List D} {w k : Nat}, GA b X m ds w k → ds.length ≤ w
  | _, _, _, .nil => Nat.zero_le _
  | _, _, _, .cons h t hw => by
    have := GA.length t
    rw [List.length_cons]; omega
theorem GA.parts : ∀ {ds : List D} {w k : Nat} (n : Nat), GA b X m ds w k → ∃ w1 w2, GA b X m (ds.take n) w1 k ∧ GA b X m (ds.drop n) w2 k ∧ w1 + w2 ≤ w
  | ds, w, _, 0, h => ⟨0, w, .nil, h, by omega⟩
  | _, _, _, _ + 1, .nil => ⟨0, 0, .nil, .nil, by omega⟩
  | _, _, _, n + 1, .cons (w1 := v1) h t hw => by
    obtain ⟨w1, w2, h1, h2, h3⟩ := GA.parts n t
    exact ⟨v1 + 1 + w1, w2, .cons h h1 (Nat.le_refl _), h2, by omega⟩
theorem GA.drop (n : Nat) (h : GA b X m ds w k) : GA b X m (ds.drop n) w k := by
  obtain ⟨w1, w2, _, h2, h3⟩ := h.parts n
  exact h2.wt (by omega)
theorem GA.take (n : Nat) (h : GA b X m ds w k) : GA b X m (ds.take n) w k := by
  obtain ⟨w1, w2, h2, _, h3⟩ := h.parts n
  exact h2.wt (by omega)
theorem GA.cut (h : GA b X m ds w k) (lo hi : Option Int) : GA b X m (cutD ds lo hi) w k := (h.drop _).take _
theorem GA.append : ∀ {ds es : List D} {w w' k : Nat}, GA b X m ds w k → GA b X m es w' k → GA b X m (ds ++ es) (w + w') k
  | _, _, _, _, _, .nil, h => h.wt (by omega)
  | _, _, _, _, _, .cons h t hw, h' => .cons h (GA.append t h') (by omega)
theorem GA.one (h : G b X m d w k) : GA b X m [d] (w + 1) k := .cons h (.nil (w := 0)) (by omega)
theorem GA.reverse (h : GA b X m ds w k) : GA b X m ds.reverse w k := by
  induction ds generalizing w with
  | nil => exact .nil
  | cons d ds ih =>
    cases h with
    | cons h t hw =>
      rw [List.reverse_cons]
      exact ((ih t).append (GA.one h)).wt (by omega)
theorem GA.filter (f : D → Option D) (hf : ∀ d e, f d = some e → e = d) : ∀ {ds : List D} {w : Nat}, GA b X m ds w k → GA b X m (ds.filterMap f) w k
  | _, _, .nil => .nil
  | _, _, .cons (d := d) h t hw => by
    rw [List.filterMap_cons]
    cases e : f d with
    | none => exact (GA.filter f hf t).wt (by omega)
    | some y =>
      rw [hf d y e]
      exact .cons h (GA.filter f hf t) hw
theorem GA.all : ∀ {ds : List D}, (∀ d ∈ ds, G b X m d w k) → GA b X m ds (ds.length * (w + 1)) k
  | [], _ => .nil
  | d :: ds, h => by
    have t := GA.all (ds := ds) fun q hq => h q (List.mem_cons_of_mem _ hq)
    refine .cons (h d List.mem_cons_self) t ?_
    rw [List.length_cons, Nat.add_mul, Nat.one_mul]
    omega
theorem G.tupInv (h : G b X m (.tup ds) w k) : ∃ k', k = k' + 1 ∧ GA b X m ds w k' := by
  cases h with
  | tup h => exact ⟨_, rfl, h⟩
/-- shown: the text stays as it is while cells come -/
theorem G.shown {Z : Store} (hm : m < 10 ^ 61) (hz : Z.length = b) (h : G b X m d w k) : ∃ p, ∀ T : Store, Sh (Z ++ (X ++ T)) d p w k := by
  obtain ⟨p, hp⟩ := h.sh hm
  exact ⟨p, fun T => by rw [← List.append_assoc]; exact (hp Z hz).grow T⟩
theorem G.shown0 (hm : m < 10 ^ 61) (h : G 0 X m d w k) : ∃ p, ∀ T : Store, Sh (X ++ T) d p w k := by
  obtain ⟨p, hp⟩ := h.shown (Z := []) hm rfl
  exact ⟨p, fun T => hp T⟩
end
/-! ## zip of two lists -/
theorem yl_zipL {K : PySem.W.Frag} {φ : List Addr} {H : Hp} {n m : Nat} {a b : Addr} {xs ys : List D} (ha : φ[n]? = some a) (hb : φ[m]? = some b) : Yl K (Itz K a b) φ H (zipD xs ys) (fun S => S[n]? = some (.lst xs) ∧ S[m]? = some (.lst ys)) := by
  have get : ∀ (n : Nat) (a : Addr) (xs : List D) φ1 H1 S, φ[n]? = some a → Ext K φ φ1 H H1 → RH K φ1 H1 S → S[n]? = some (.lst xs) → ∃ vs, SqL K H1 a vs ∧ RDs K φ1 H1 xs vs := fun n a xs φ1 H1 S ha e rh h => by
    obtain ⟨b, hb, vs, e2, r⟩ := rh.cell h
    rw [e.pre _ _ ha] at hb; cases hb
    exact ⟨vs, .inl (.inl e2), r⟩
  refine ⟨fun φ1 H1 S i d e rh g h => ?_, fun φ1 H1 S i d x H' e rh g h y => ?_, fun φ1 H1 S e rh g => ?_⟩
  · obtain ⟨x, y, h1, h2, _⟩ := zipD_get h
    obtain ⟨vs, hq, ra⟩ := get n a xs φ1 H1 S ha e rh g.1
    obtain ⟨ws, hr, rb⟩ := get m b ys φ1 H1 S hb e rh g.2
    obtain ⟨v, hv, _⟩ := ra.get h1
    obtain ⟨w, hw, _⟩ := rb.get h2
    exact ⟨vs, ws, v, w, hq, hr, hv, hw⟩
  · obtain ⟨x1, y1, h1, h2, rfl⟩ := zipD_get h
    obtain ⟨vs, hq, ra⟩ := get n a xs φ1 H1 S ha e rh g.1
    obtain ⟨ws, hr, rb⟩ := get m b ys φ1 H1 S hb e rh g.2
    obtain ⟨v, hv, rv⟩ := ra.get h1
    obtain ⟨w, hw, rw'⟩ := rb.get h2
    obtain ⟨T, p, q, rfl, nT, rfl, f1, f2⟩ := y
    have e1 := f1 _ hq
    have e2 := f2 _ hr
    rw [hv] at e1; cases e1
    rw [hw] at e2; cases e2
    exact ⟨Ext.side nT, rh.side nT, RDs.mk_tup nT (.cons rv (.cons rw' .nil))⟩
  · obtain ⟨vs, hq, ra⟩ := get n a xs φ1 H1 S ha e rh g.1
    obtain ⟨ws, hr, rb⟩ := get m b ys φ1 H1 S hb e rh g.2
    refine ⟨vs, ws, hq, hr, ?_⟩
    rw [zipD_length, ra.length, rb.length]
    omega
def iZip2 (t : DTA) (δ : Env) (S : Store) (Q : List D → (Store → Prop) → Store → Prop) : Prop := t δ S fun ds S1 => match ds with
  | [.tup xs, .tup ys] => Q (zipD xs ys) noG S1
  | [.ref n, .ref m] => dLst S1 n fun xs => dLst S1 m fun ys => Q (zipD xs ys) (fun S => S[n]? = some (.lst xs) ∧ S[m]? = some (.lst ys)) S1
  | _ => False
section
variable {X : Cx} {B : Base} {a b e2 : Expr} {t : DTA} {p pos : Pos}
theorem di_zip2 {elts : List Expr} {kk : Nat} {tpos : Pos} (hm : X.mg "zip" = none) (ha : PA X [a, b] (liftA X.K B t)) (hg : Gl X "zip" := by rfl) (hs : starEach [a, b] X.env = (false, eval a X.env) :: starEach [b] X.env := by rfl)
    (hpl : (backTo pos (starEach [b] X.env)).any (·.1) = false := by rfl) : PI X (.Tuple elts kk tpos) (.Call (.Name "zip" p) [a, b] [] pos) (liftI X.K B (iZip2 t)) :=
  PI.imp (RZ.pi_zipA hg hm ha hs hpl) fun σ H R h => by
    obtain ⟨φ, δ, S, P, e, rs, rh, t, k⟩ := h
    refine ⟨φ, δ, S, _, e, rs, rh, t, fun φ1 H1 xs vs S1 e1 rh1 rx q1 => ?_⟩
    split at q1
    · cases rx with
      | cons r1 r2 =>
        cases r2 with
        | cons r2 r3 =>
          cases r3
          cases r1 with
          | tup ha ra =>
            cases r2 with
            | tup hb rb => exact ⟨_, _, _, _, rfl, .inr ⟨ha, hb, k φ1 H1 _ _ _ S1 e1 rh1 (yl_zipT ha ra hb rb) q1⟩⟩
    · cases rx with
      | cons r1 r2 =>
        cases r2 with
        | cons r2 r3 =>
          cases r3
          cases r1 with
          | ref ha =>
            cases r2 with
            | ref hb =>
              obtain ⟨xs, vs, q, hl, r⟩ := dLst_at rh1 ha q1
              obtain ⟨ys, ws, q, hl2, r2⟩ := dLst_at rh1 hb q
              exact ⟨_, _, _, _, rfl, .inl ⟨hl, hl2, k φ1 H1 _ _ _ S1 e1 rh1 (yl_zipL ha hb) q⟩⟩
    · exact q1.elim
end
def isZ (S : Store) (k : List D → List D → (Store → Prop) → Prop) : List D → Prop
  | [.tup xs, .tup ys] => k xs ys noG
  | [.ref n, .ref m] => dLst S n fun xs => dLst S m fun ys => k xs ys fun S => S[n]? = some (.lst xs) ∧ S[m]? = some (.lst ys)
  | _ => False
theorem isZ_t {S : Store} {k : List D → List D → (Store → Prop) → Prop} {xs ys : List D} : isZ S k [.tup xs, .tup ys] = k xs ys noG := Eq.trans rfl rfl
theorem isZ_l {S : Store} {k : List D → List D → (Store → Prop) → Prop} {n m : Nat} : isZ S k [.ref n, .ref m] = dLst S n fun xs => dLst S m fun ys => k xs ys fun S => S[n]? = some (.lst xs) ∧ S[m]? = some (.lst ys) := Eq.trans rfl rfl
theorem iZip2_eq {t : DTA} {δ : Env} {S : Store} {Q : List D → (Store → Prop) → Store → Prop} : iZip2 t δ S Q = t δ S fun ds S1 => isZ S1 (fun xs ys gd => Q (zipD xs ys) gd S1) ds := by
  unfold iZip2
  congr 1
/-! ## what stands behind a statement, once for all its ways -/
theorem seq_use {t u : DTS} {E : DEnds} {δ : Env} {S : Store} (J : Env → Store → Prop) (h1 : ∀ R : Env → Store → Prop, (∀ δ' S', J δ' S' → R δ' S') → t { E with nx := R } δ S) (h2 : ∀ δ' S', J δ' S' → u E δ' S') : dSeq t u E δ S := h1 (u E) h2

/-! ## cuts within bounds -/
section
variable {α : Type} {xs : List α} {i j : Int}
theorem six_of {n d : Nat} (h : 0 ≤ i) : HT.sIx n d (some i) = min i.toNat n := if_neg (by omega)
theorem cut_to (h : 0 ≤ i) : cutD xs none (some i) = xs.take i.toNat := by
  unfold cutD
  rw [six_of h]
  show (xs.drop 0).take (min i.toNat xs.length - 0) = _
  rw [List.drop_zero, Nat.sub_zero]
  by_cases hl : i.toNat ≤ xs.length
  · rw [Nat.min_eq_left hl]
  · rw [Nat.min_eq_right (by omega), List.take_length, List.take_of_length_le (by omega)]
theorem cut_from (h : 0 ≤ i) : cutD xs (some i) none = xs.drop i.toNat := by
  unfold cutD
  rw [six_of h]
  show (xs.drop (min i.toNat xs.length)).take (xs.length - min i.toNat xs.length) = _
  by_cases hl : i.toNat ≤ xs.length
  · rw [Nat.min_eq_left hl, List.take_of_length_le (by rw [List.length_drop]; omega)]
  · rw [Nat.min_eq_right (by omega), List.drop_length, List.take_nil, List.drop_of_length_le (by omega)]
theorem cut_mid (h : 0 ≤ i) (hj : i ≤ j) (hl : j ≤ xs.length) : cutD xs (some i) (some j) = (xs.drop i.toNat).take (j.toNat - i.toNat) := by
  unfold cutD
  rw [six_of h, six_of (by omega), Nat.min_eq_left (by omega), Nat.min_eq_left (by omega)]
end
theorem GA.take_drop {b m : Nat} {X : Store} {ds : List D} {w k : Nat} (n : Nat) (h : GA b X m ds w k) : ∃ w1 w2, GA b X m (ds.take n) w1 k ∧ GA b X m (ds.drop n) w2 k ∧ GA b X m (ds.drop (n + 1)) w2 k ∧ GA b X m ((ds.drop n).take 1) w2 k ∧ w1 + w2 ≤ w := by
  obtain ⟨w1, w2, h1, h2, h3⟩ := h.parts n
  refine ⟨w1, w2, h1, h2, ?_, h2.take 1, h3⟩
  have := h2.drop 1
  rwa [List.drop_drop] at this
theorem cp_text (s : String) : Cp (Str.ofString s) := by
  intro c hc
  rw [Str.ofString_eq_toList] at hc
  obtain ⟨ch, _, rfl⟩ := List.mem_map.mp (show c ∈ s.toList.map Char.toNat from hc)
  have := ch.valid
  show ch.val.toNat < 1114112
  rcases this with h | h
  · have : ch.val.toNat < 55296 := h
    omega
  · exact h.2
theorem int_text_len {i : Int} (h : i.natAbs < 10 ^ 61) : (Str.ofString (toString i)).length ≤ 62 := by
  rw [show (Str.ofString (toString i)).length = (toString i).length from ofString_length _]
  exact int_text_length_le10 (k := 61) (by decide) h
theorem int_log {i : Int} (h : i.natAbs < 10 ^ 61) : i.natAbs.log2 < 1920 := by
  have h2 : i.natAbs < 2 ^ 203 := Nat.lt_trans h lt_10_61
  by_cases h0 : i.natAbs = 0
  · rw [h0]; decide
  · have := (Nat.log2_lt h0).mpr h2
    omega
end DL

set_option Elab.async false
set_option linter.all false
set_option maxRecDepth 100000
set_option autoImplicit false
namespace DL
open PySem PySem.Spec L2

/-! ## defs with defaults -/
section
variable {P : Program} {w : World} {K : PySem.W.Frag} {mg : Str → Option Value} {base : Heap}
theorem okDd {x qual : Str} {st : Stmt} {f : Addr} {fd : FuncData} {N ps : List Str} {k : Nat} {dsp : DSp} {dvs : List V} {kws : List (Str × V)} (F : FunD K x qual (defArgs st) (defBody st) (defScope st) dvs kws f fd) (Sc : FnScope N ps (defScope st)) (len : ∀ ds S Q E, dsp ds S Q E → ds.length = ps.length)
    (hbody : ∀ (cdv : Value) (A : Around) (outer : List PySem.Env) (s : Shared) (H : Hp) (E : XK) (B : Base) (PX : DXQ), Room k (A.deeper (PyProof.Rows.envOfC qual (defScope st) s.heap.objs.size f cdv)) → (A.deeper (PyProof.Rows.envOfC qual (defScope st) s.heap.objs.size f cdv)).guards = some [] →
      ∃ t, PSs (cxOf CX0 P w K mg base N qual (defScope st) f cdv A outer s H E).nox (defBody st) (liftS K B t) ∧ ∀ ds S PQ, dsp ds S PQ PX → t { nx := fun _ S' => PQ .non S', rt := PQ } (dstart N ds) S) :
    DFn P w K mg base CX0 (k + 1) f fd ps dsp := by
  obtain ⟨oc, od, dV, kV, doc, pm, an, cdv, ct, osl, rfl, lk, hcd, _, _⟩ := F.ex
  refine dfn_of lk hcd Sc len fun A outer s H φ PX E hr hgd hE => ?_
  obtain ⟨t, h, q⟩ := hbody cdv A outer s H E ⟨φ, H⟩ PX hr hgd
  exact ⟨t, h.nox, q⟩
theorem okDdX {x qual : Str} {st : Stmt} {f : Addr} {fd : FuncData} {N ps : List Str} {k : Nat} {dsp : DSp} {dvs : List V} {kws : List (Str × V)} (F : FunD K x qual (defArgs st) (defBody st) (defScope st) dvs kws f fd) (Sc : FnScope N ps (defScope st)) (len : ∀ ds S Q E, dsp ds S Q E → ds.length = ps.length)
    (hbody : ∀ (cdv : Value) (A : Around) (outer : List PySem.Env) (s : Shared) (H : Hp) (E : XK) (φ : List Addr) (PX : DXQ), Room k (A.deeper (PyProof.Rows.envOfC qual (defScope st) s.heap.objs.size f cdv)) → (A.deeper (PyProof.Rows.envOfC qual (defScope st) s.heap.objs.size f cdv)).guards = some [] → XOk K φ H PX E →
      ∃ t, PSs (cxOf (L2.CX P w) P w K mg base N qual (defScope st) f cdv A outer s H E) (defBody st) (liftS K ⟨φ, H⟩ t) ∧ ∀ ds S PQ, dsp ds S PQ PX → t { nx := fun _ S' => PQ .non S', rt := PQ } (dstart N ds) S) :
    DFn P w K mg base (L2.CX P w) (k + 1) f fd ps dsp := by
  obtain ⟨oc, od, dV, kV, doc, pm, an, cdv, ct, osl, rfl, lk, hcd, _, _⟩ := F.ex
  exact dfn_of lk hcd Sc len fun A outer s H φ PX E hr hgd hE => hbody cdv A outer s H E φ PX hr hgd hE
theorem fund_mk {x qual : Str} {st : Stmt} {f T : Addr} {oc : Value} {od an : Option Addr} {osl : Array (Option Value)} {kV doc pm cdv ct : Value} {dvs : List V} {its : List Value} {tc : Value} {td : Option Addr} {n : Nat} {tsl : Array (Option Value)}
    (l : K.lookup f = some ⟨oc, od, .func (PySem.W.fnOf x qual (defArgs st) (defBody st) (defScope st) (.ref T) kV doc pm an cdv ct), osl⟩)
    (c : PySem.W.codeIn K cdv qual = true) (k : PySem.W.keepIn K (.ref f) = true) (lT : K.lookup T = some ⟨tc, td, .seq its.toArray n, tsl⟩) (ne : dvs ≠ []) (r : Vals dvs its) :
    FunD K x qual (defArgs st) (defBody st) (defScope st) dvs [] f (PySem.W.fnOf x qual (defArgs st) (defBody st) (defScope st) (.ref T) kV doc pm an cdv ct) :=
  ⟨⟨oc, od, .ref T, kV, doc, pm, an, cdv, ct, osl, rfl, l, c, .inr ⟨ne, T, _, its, n, rfl, lT, rfl, r⟩, .inl rfl⟩, k⟩
theorem bnd_full {K : PySem.W.Frag} {x qual : Str} {params : Arguments} {body : List Stmt} {scope : Scope} {dvs : List V} {kws : List (Str × V)} {f : Addr} {fd : FuncData} {ps : List Str} (F : FunD K x qual params body scope dvs kws f fd) (n : Nat) (hd : dvs ≠ []) (hn : n = ps.length)
    (h : ∀ (T : Addr) (kV doc pm : Value) (an : Option Addr) (cdv ct : Value) (us its : List Value), us.length = n → its.length = dvs.length →
      ∃ k, bindArgs (PySem.W.fnOf x qual params body scope (.ref T) kV doc pm an cdv ct) ⟨us, []⟩ = seqItems? (.ref T) >>= k ∧ k (some its.toArray) = pure (ps.zip us)) : Binds K fd ps [] := by
  obtain ⟨ds, v, b⟩ := F.binds1 (ps := ps) n dvs.length hd (by omega) fun T kV doc pm an cdv ct us its h1 h2 => by
    rw [← h2, List.drop_length, List.append_nil]
    exact h T kV doc pm an cdv ct us its h1 h2
  rw [List.drop_length] at v
  cases v
  exact b
end
/-- f(e, ..), the last parameters left out -/
def dCallD (dsp : DSp) (es' : List D) (t : DTA) (δ : Env) (S : Store) (Q : DQ) : Prop := t δ S fun ds S1 => dsp (ds ++ es') S1 Q noX
section
variable {X : Cx} {B : Base} {k : Nat} {f : Addr} {fd : FuncData} {ps : List Str} {dsp : DSp} {x : Str} {p pos : Pos} {e : Expr} {es : List Expr} {t : DTA}
theorem de_callD {es' : List D} {ws : List V} {xs : List Value} (F : DFn X.prog X.w X.K X.mg X.base CX0 k f fd ps dsp) (hr : Room k X.A) (hgd : X.A.guards = some []) (hm : X.mg x = some (.ref f)) (hk : PySem.W.keepIn X.K (.ref f) = true)
    (hb : ∃ xs, Vals ws xs ∧ Binds X.K fd ps xs) (hw : ∀ φ H, RDs X.K φ H es' ws)
    (ha : PA X (e :: es) (liftA X.K B t)) (hg : Gl X x := by rfl) (hdb : (x == ("__debug__" : Str)) = false := by decide) (he : starEach (e :: es) X.env = (false, eval e X.env) :: starEach es X.env := by rfl)
    (hpl : (backTo pos (starEach es X.env)).any (·.1) = false := by rfl) : PE X (.Call (.Name x p) (e :: es) [] pos) (lift X.K B (dCallD dsp es' t)) := by
  obtain ⟨xs, hv, hb⟩ := hb
  exact de_callG (es' := es') F hr hgd hm hk hb hv hw pass0 (fun _ _ _ => xok0) ha hg hdb he hpl
end
theorem dCallD_E : type_of% @dCallD.eq_1 := by intros; exact Eq.trans rfl rfl
/-! ## joined values, compared lists -/
def jOf (S : Store) (k : List D → Prop) : D → Prop
  | .tup xs => k xs
  | .ref n => dLst S n k
  | _ => False
theorem jOf_t {S : Store} {k : List D → Prop} {xs : List D} : jOf S k (.tup xs) = k xs := Eq.trans rfl rfl
theorem jOf_l {S : Store} {k : List D → Prop} {n : Nat} : jOf S k (.ref n) = dLst S n k := Eq.trans rfl rfl
theorem dJoinV_eq {to te : DT} {δ : Env} {S : Store} {Q : DQ} : dJoinV to te δ S Q = to δ S fun x S1 => isS x fun z => te δ S1 fun y S2 => jOf S2 (fun xs => dJoin z xs S2 Q) y := by
  unfold dJoinV
  congr 1
theorem joinL_length (a : List Nat) : ∀ (ys : List (List Nat)), ys ≠ [] → (TL.joinL a ys).length + a.length = (ys.map fun y => y.length + a.length).sum
  | [], h => absurd rfl h
  | [p], _ => by simp [TL.joinL]
  | p :: q :: r, _ => by
    have ih := joinL_length a (q :: r) (by simp)
    rw [TL.joinL, List.map_cons, List.sum_cons, ← ih]
    simp only [List.length_append]
    omega
theorem join_blank {ys : List Str} (h : ys ≠ []) : (Txt.join (Str.ofString " ") ys).length + 1 = (ys.map fun y => y.length + 1).sum := by
  have e1 : (Txt.join (Str.ofString " ") ys).length = (TL.tl (Txt.join (Str.ofString " ") ys)).length := rfl
  have e2 : (TL.tl (Str.ofString " ")).length = 1 := by decide +kernel
  have := joinL_length (TL.tl (Str.ofString " ")) (ys.map TL.tl) (by simpa using h)
  rw [e1, TL.join_eq, TL.tl_join]
  rw [e2, List.map_map] at this
  rw [this]
  rfl
theorem dNe_nil {S : Store} {a b m w k : Nat} {xs : List D} {Q : DQ} (ea : S[a]? = some (Cell.lst xs)) (eb : S[b]? = some (Cell.lst [])) (g : GA 0 S m xs w k) (hm : m < 10 ^ 61) (hk : k ≤ 60) (q : Q (.bl (!xs.isEmpty)) S) : dEq true (.ref a) (.ref b) S Q := by
  obtain ⟨ps, hp⟩ := g.sh hm
  have h := hp [] rfl
  refine dEqP_of ⟨.list ps, .list [], .lst ea h.1, .lst eb .nil, h.2.list.shaped (by omega), shaped_nil, ?_⟩
  rw [eqv_nil h.1]
  exact q
theorem dEq_nil {S : Store} {a b m w k : Nat} {xs : List D} {Q : DQ} (ea : S[a]? = some (Cell.lst xs)) (eb : S[b]? = some (Cell.lst [])) (g : GA 0 S m xs w k) (hm : m < 10 ^ 61) (hk : k ≤ 60) (q : Q (.bl xs.isEmpty) S) : dEq false (.ref a) (.ref b) S Q := by
  obtain ⟨ps, hp⟩ := g.sh hm
  have h := hp [] rfl
  refine dEqP_of ⟨.list ps, .list [], .lst ea h.1, .lst eb .nil, h.2.list.shaped (by omega), shaped_nil, ?_⟩
  rw [eqv_nil h.1]
  exact q
theorem GA.ints {b : Nat} {X : Store} {m k : Nat} {ns : List Int} (h : ∀ i ∈ ns, i.natAbs ≤ m) : GA b X m (ns.map .int) (ns.length * 204) k := by
  have := GA.all (b := b) (X := X) (m := m) (w := 203) (k := k) (ds := ns.map .int) fun d hd => by
    obtain ⟨i, hi, rfl⟩ := List.mem_map.mp hd
    exact .int (h i hi) (Nat.le_refl _)
  rwa [List.length_map] at this
theorem test_use {c : DTT} {k : Bool → Store → Prop} {δ : Env} {S : Store} (P : Bool → Store → Prop) (h1 : ∀ R : Bool → Store → Prop, (∀ b S', P b S' → R b S') → c δ S R) (h2 : ∀ b S', P b S' → k b S') : c δ S k := h1 k h2
theorem val_use {t : DT} {k : DQ} {δ : Env} {S : Store} (P : DQ) (h1 : ∀ R : DQ, (∀ d S', P d S' → R d S') → t δ S R) (h2 : ∀ d S', P d S' → k d S') : t δ S k := h1 k h2
section
variable {a b c d e f u : DTS} {E : DEnds} {δ : Env} {S : Store}
theorem cut1 (J : Env → Store → Prop) (h1 : ∀ R : Env → Store → Prop, (∀ δ' S', J δ' S' → R δ' S') → a { E with nx := R } δ S) (h2 : ∀ δ' S', J δ' S' → u E δ' S') : dSeq a u E δ S := h1 (u E) h2
theorem cut2 (J : Env → Store → Prop) (h1 : ∀ R : Env → Store → Prop, (∀ δ' S', J δ' S' → R δ' S') → dSeq a b { E with nx := R } δ S) (h2 : ∀ δ' S', J δ' S' → u E δ' S') : dSeq a (dSeq b u) E δ S := h1 (u E) h2
theorem cut3 (J : Env → Store → Prop) (h1 : ∀ R : Env → Store → Prop, (∀ δ' S', J δ' S' → R δ' S') → dSeq a (dSeq b c) { E with nx := R } δ S) (h2 : ∀ δ' S', J δ' S' → u E δ' S') : dSeq a (dSeq b (dSeq c u)) E δ S := h1 (u E) h2
theorem cut4 (J : Env → Store → Prop) (h1 : ∀ R : Env → Store → Prop, (∀ δ' S', J δ' S' → R δ' S') → dSeq a (dSeq b (dSeq c d)) { E with nx := R } δ S) (h2 : ∀ δ' S', J δ' S' → u E δ' S') : dSeq a (dSeq b (dSeq c (dSeq d u))) E δ S := h1 (u E) h2
theorem cut5 (J : Env → Store → Prop) (h1 : ∀ R : Env → Store → Prop, (∀ δ' S', J δ' S' → R δ' S') → dSeq a (dSeq b (dSeq c (dSeq d e))) { E with nx := R } δ S) (h2 : ∀ δ' S', J δ' S' → u E δ' S') : dSeq a (dSeq b (dSeq c (dSeq d (dSeq e u)))) E δ S := h1 (u E) h2
theorem cut6 (J : Env → Store → Prop) (h1 : ∀ R : Env → Store → Prop, (∀ δ' S', J δ' S' → R δ' S') → dSeq a (dSeq b (dSeq c (dSeq d (dSeq e f)))) { E with nx := R } δ S) (h2 : ∀ δ' S', J δ' S' → u E δ' S') : dSeq a (dSeq b (dSeq c (dSeq d (dSeq e (dSeq f u))))) E δ S := h1 (u E) h2
end
end DL

set_option Elab.async false
set_option linter.all false
set_option maxRecDepth 100000
set_option autoImplicit false
namespace DL
open PySem PySem.Spec L2

/-! ## text * int -/
def rMulS : R2 := fun x y H Q => ∃ a n, x = .str a ∧ y = .int n ∧ PySem.MulOk a n ∧ Q (.str (PySem.Txt.mul a n)) H
theorem op_mulS {X : Cx} : OpR X (binaryOp .Mult) rMulS := by
  intro pins s σ H x y v u Q I rx ry h
  obtain ⟨a, n, rfl, rfl, hok, q⟩ := h
  obtain ⟨t, rfl⟩ := rx
  obtain ⟨t', rfl⟩ := ry
  exact PySem.SB.mul hok fun t2 k => ⟨.str _, H, I.tok _, ⟨_, rfl⟩, q⟩
def dMulS : D2
  | .str x, .int n, S, Q => PySem.MulOk x n ∧ Q (.str (PySem.Txt.mul x n)) S
  | _, _, _, _ => False
theorem dMulS_ok {K : PySem.W.Frag} : Snd2 K dMulS rMulS := by
  intro φ H S x y v w P Q rh rx ry h k
  cases x with
  | str i =>
    cases y with
    | int j => cases rx; cases ry; exact ⟨i, j, rfl, rfl, h.1, k φ H _ _ S .refl rh (.str _) h.2⟩
    | _ => exact (show False from h).elim
  | _ => exact (show False from h).elim
section
variable {X : Cx} {B : Base} {a b : Expr} {ta tb : DT} {pos : Pos}
theorem de_mulS (ha : PE X a (lift X.K B ta)) (hb : PE X b (lift X.K B tb)) : PE X (.BinOp a .Mult b pos) (lift X.K B (dOp dMulS ta tb)) := de_op dMulS_ok op_mulS ha hb
end
theorem dMulS_i {x : Str} {n : Int} {S : Store} {Q : DQ} : dMulS (.str x) (.int n) S Q = (PySem.MulOk x n ∧ Q (.str (PySem.Txt.mul x n)) S) := Eq.trans rfl rfl
end DL

set_option Elab.async false
set_option linter.all false
set_option maxRecDepth 100000
set_option autoImplicit false
namespace DL
open PySem PySem.Spec L2

/-! ## for x in reversed(a list) -/
theorem yl_rev {K : PySem.W.Frag} {φ : List Addr} {H : Hp} {n : Nat} {a : Addr} {xs : List D} (ha : φ[n]? = some a) : Yl K (Itv K a xs.length) φ H xs.reverse (fun S => S[n]? = some (.lst xs)) := by
  have get : ∀ φ1 H1 S, Ext K φ φ1 H H1 → RH K φ1 H1 S → S[n]? = some (.lst xs) → ∃ vs, SqL K H1 a vs ∧ RDs K φ1 H1 xs vs := fun φ1 H1 S e rh h => by
    obtain ⟨b, hb, vs, e2, r⟩ := rh.cell h
    rw [e.pre _ _ ha] at hb; cases hb
    exact ⟨vs, .inl (.inl e2), r⟩
  have at_ : ∀ {i : Nat} {d : D}, xs.reverse[i]? = some d → i < xs.length ∧ xs[xs.length - 1 - i]? = some d := fun {i d} h => by
    have hi := (List.getElem?_eq_some_iff.mp h).1
    rw [List.length_reverse] at hi
    rw [List.getElem?_reverse hi] at h
    exact ⟨hi, h⟩
  refine ⟨fun φ1 H1 S i d e rh g h => ?_, fun φ1 H1 S i d x H' e rh g h y => ?_, fun φ1 H1 S e rh g => ?_⟩
  · obtain ⟨hi, hd⟩ := at_ h
    obtain ⟨vs, hq, ra⟩ := get φ1 H1 S e rh g
    obtain ⟨v, hv, _⟩ := ra.get hd
    exact ⟨hi, vs, v, hq, hv⟩
  · obtain ⟨hi, hd⟩ := at_ h
    obtain ⟨rfl, y⟩ := y
    obtain ⟨vs, hq, ra⟩ := get φ1 _ S e rh g
    obtain ⟨v, hv, rv⟩ := ra.get hd
    have := y vs hq
    rw [hv] at this; cases this
    exact ⟨.refl, rh, rv⟩
  · show xs.length ≤ xs.reverse.length
    rw [List.length_reverse]
    exact Nat.le_refl _
def isL (S : Store) (k : Nat → List D → Prop) : D → Prop
  | .ref n => dLst S n fun xs => k n xs
  | _ => False
theorem isL_l {S : Store} {k : Nat → List D → Prop} {n : Nat} : isL S k (.ref n) = dLst S n fun xs => k n xs := Eq.trans rfl rfl
theorem isL_at {K : PySem.W.Frag} {φ : List Addr} {H : Hp} {S : Store} {d : D} {v : V} {k : Nat → List D → Prop} (rh : RH K φ H S) (r : RD K φ H d v) (h : isL S k d) : ∃ n a xs vs, d = .ref n ∧ v = .ref a ∧ φ[n]? = some a ∧ k n xs ∧ SqL K H a vs ∧ RDs K φ H xs vs := by
  cases d with
  | ref n =>
    cases r with
    | ref hn =>
      obtain ⟨xs, vs, q, hl, r⟩ := dLst_at rh hn (show dLst S n _ from h)
      exact ⟨n, _, xs, vs, rfl, rfl, hn, q, hl, r⟩
  | _ => exact (show False from h).elim
def iRev (ta : DT) (δ : Env) (S : Store) (Q : List D → (Store → Prop) → Store → Prop) : Prop := ta δ S fun d S1 => isL S1 (fun n xs => Q xs.reverse (fun S' => S'[n]? = some (.lst xs)) S1) d
section
variable {X : Cx} {B : Base} {a e o tg : Expr} {es : List Expr} {ta te to : DT} {t : DTA} {pos p p2 pos2 apos cpos : Pos}
theorem di_rev (hm : X.mg "reversed" = none) (ha : PE X a (lift X.K B ta)) (hg : Gl X "reversed" := by rfl) (hs : starEach [a] X.env = (false, eval a X.env) :: starEach [] X.env := by rfl) : PI X tg (.Call (.Name "reversed" p) [a] [] pos) (liftI X.K B (iRev ta)) :=
  PI.imp (RT.pi_revA hg hm ha hs) fun σ H R h => by
    obtain ⟨φ, δ, S, P, e, rs, rh, t, k⟩ := h
    refine ⟨φ, δ, S, _, e, rs, rh, t, fun φ1 H1 d v S1 e1 rh1 rd q1 => ?_⟩
    obtain ⟨n, aa, xs, vs, rfl, rfl, hn, q, hl, r⟩ := isL_at rh1 rd q1
    refine ⟨aa, vs, rfl, .inl ⟨hl, ?_⟩⟩
    rw [← r.length]
    exact k φ1 H1 _ _ _ S1 e1 rh1 (yl_rev hn) q
/-- tuple(reversed(xs)) -/
def dTupRev (ta : DT) (δ : Env) (S : Store) (Q : DQ) : Prop := ta δ S fun d S1 => isL S1 (fun _ xs => Q (.tup xs.reverse) S1) d
theorem de_tupRev (hm : X.mg "tuple" = none) (hm2 : X.mg "reversed" = none) (ha : PE X a (lift X.K B ta)) (hc : X.calm = true := by rfl) (hg : Gl X "tuple" := by rfl) (hg2 : Gl X "reversed" := by rfl) (hs : starEach [a] X.env = (false, eval a X.env) :: starEach [] X.env := by rfl)
    (hs2 : starEach [.Call (.Name "reversed" p2) [a] [] pos2] X.env = (false, eval (.Call (.Name "reversed" p2) [a] [] pos2) X.env) :: starEach [] X.env := by rfl) :
    PE X (.Call (.Name "tuple" p) [.Call (.Name "reversed" p2) [a] [] pos2] [] pos) (lift X.K B (dTupRev ta)) :=
  PE.imp (RT.pe_tupRev hc hg hm hg2 hm2 ha hs hs2) fun σ H Q h => by
    obtain ⟨φ, δ, S, P, ex, rs, rh, t, k⟩ := h
    refine ⟨φ, δ, S, _, ex, rs, rh, t, fun φ1 H1 d v S1 e1 rh1 rd q1 => ?_⟩
    obtain ⟨n, aa, xs, vs, rfl, rfl, hn, q, hl, r⟩ := isL_at rh1 rd q1
    exact ⟨aa, vs, rfl, hl, fun l hl => k φ1 _ _ _ S1 (e1.trans (Ext.side hl)) (rh1.side hl) (RDs.mk_tup hl r.reverse) q⟩

/-! ## enumerate(a list) -/
theorem yl_enumL {K : PySem.W.Frag} {φ : List Addr} {H : Hp} {n : Nat} {a : Addr} {xs : List D} (ha : φ[n]? = some a) : Yl K (Ite K a) φ H (enumD xs) (fun S => S[n]? = some (.lst xs)) := by
  have get : ∀ φ1 H1 S, Ext K φ φ1 H H1 → RH K φ1 H1 S → S[n]? = some (.lst xs) → ∃ vs, SqL K H1 a vs ∧ RDs K φ1 H1 xs vs := fun φ1 H1 S e rh h => by
    obtain ⟨b, hb, vs, e2, r⟩ := rh.cell h
    rw [e.pre _ _ ha] at hb; cases hb
    exact ⟨vs, .inl (.inl e2), r⟩
  refine ⟨fun φ1 H1 S i d e rh g h => ?_, fun φ1 H1 S i d x H' e rh g h y => ?_, fun φ1 H1 S e rh g => ?_⟩
  · obtain ⟨x, h1, _⟩ := enumD_get.mp h
    obtain ⟨vs, hq, ra⟩ := get φ1 H1 S e rh g
    obtain ⟨v, hv, _⟩ := ra.get h1
    exact ⟨vs, v, hq, hv⟩
  · obtain ⟨x1, h1, rfl⟩ := enumD_get.mp h
    obtain ⟨vs, hq, ra⟩ := get φ1 H1 S e rh g
    obtain ⟨v, hv, rv⟩ := ra.get h1
    obtain ⟨T, p, rfl, nT, rfl, f1⟩ := y
    have e1 := f1 _ hq
    rw [hv] at e1; cases e1
    exact ⟨Ext.side nT, rh.side nT, RDs.mk_tup nT (.cons (.int _) (.cons rv .nil))⟩
  · obtain ⟨vs, hq, ra⟩ := get φ1 H1 S e rh g
    exact ⟨vs, hq, by rw [enumD_length, ra.length]; exact Nat.le_refl _⟩
def iEnumL (t : DTA) (δ : Env) (S : Store) (Q : List D → (Store → Prop) → Store → Prop) : Prop := t δ S fun ds S1 => isD1 ds fun d => isL S1 (fun n xs => Q (enumD xs) (fun S' => S'[n]? = some (.lst xs)) S1) d
theorem isD1_at {K : PySem.W.Frag} {φ : List Addr} {H : Hp} {ds : List D} {vs : List V} {k : D → Prop} (r : RDs K φ H ds vs) (h : isD1 ds k) : ∃ d v, ds = [d] ∧ vs = [v] ∧ RD K φ H d v ∧ k d := by
  match ds, h with
  | [d], h =>
    cases r with
    | cons r1 r2 => cases r2; exact ⟨d, _, rfl, rfl, r1, h⟩
  | [], h => exact (show False from h).elim
  | _ :: _ :: _, h => exact (show False from h).elim
theorem di_enumL {elts : List Expr} {kk : Nat} {tpos : Pos} (hm : X.mg "enumerate" = none) (ha : PA X [a] (liftA X.K B t)) (hg : Gl X "enumerate" := by rfl) (hs : starEach [a] X.env = [(false, eval a X.env)] := by rfl) :
    PI X (.Tuple elts kk tpos) (.Call (.Name "enumerate" p) [a] [] pos) (liftI X.K B (iEnumL t)) :=
  PI.imp (pi_enum hg hm ha hs) fun σ H R h => by
    obtain ⟨φ, δ, S, P, e, rs, rh, t, k⟩ := h
    refine ⟨φ, δ, S, _, e, rs, rh, t, fun φ1 H1 ds us S1 e1 rh1 rd q1 => ?_⟩
    obtain ⟨d, v, rfl, rfl, r1, q⟩ := isD1_at rd q1
    obtain ⟨n, aa, xs, vs, rfl, rfl, hn, q, hl, r⟩ := isL_at rh1 r1 q
    exact ⟨aa, vs, rfl, hl, k φ1 H1 _ _ _ S1 e1 rh1 (yl_enumL hn) q⟩

/-! ## xs.index(i), i in xs: ints -/
theorem flat_ints (ns : List Int) : (ns.map V.int).all flatV = true := by
  rw [List.all_map]
  exact List.all_eq_true.mpr fun _ _ => rfl
theorem eqV_int {i j : Int} : eqV (.int i) (.int j) = decide (i = j) := by
  show (i == j) = decide (i = j)
  exact Bool.beq_eq_decide_eq i j
def dIndex (to te : DT) (δ : Env) (S : Store) (Q : DQ) : Prop := to δ S fun x S1 => isL S1 (fun n _ => te δ S1 fun y S2 => isI y fun i => dLst S2 n fun xs => ∃ (ns : List Int) (j : Nat), xs = ns.map .int ∧ ns[j]? = some i ∧ (∀ m, m < j → ns[m]? ≠ some i) ∧ Q (.int (j : Nat)) S2) x
theorem de_index (ho : PE X o (lift X.K B to)) (he : PE X e (lift X.K B te)) (hbase : attributeBase o "index" X.env (eval o X.env) = eval o X.env := by rfl)
    (hfew : ((backTo cpos (starEach [e] X.env)).all (fun x => !x.1) && (backToKw cpos (keywordEach [] X.env)).all (fun x => x.1.isSome)
      && decide ([e].length + ([] : List Keyword).length + (if ([] : List Keyword).isEmpty then 0 else 1) < 30)) = true := by rfl)
    (hline : (apos.endLine == cpos.line) = true := by rfl) (hs : starEach [e] X.env = [(false, eval e X.env)] := by rfl) :
    PE X (.Call (.Attribute o "index" apos) [e] [] cpos) (lift X.K B (dIndex to te)) :=
  PE.imp (pe_bm PySem.F.plainAttrs_list PySem.F.slot_list_index PySem.F.type_list_index mt_index ho (pa_cons he pa_nil (by rw [hs]; rfl)) hbase hfew hline (by rw [hs]; rfl) (by rfl)) fun σ H Q h => by
    obtain ⟨φ, δ, S, P, ex, rs, rh, ht, k⟩ := h
    refine ⟨φ, δ, S, _, ex, rs, rh, ht, fun φ1 H1 x v S1 e1 rh1 rx q1 => ?_⟩
    obtain ⟨n, aa, xs, vs, rfl, rfl, hn, q1, hl, r⟩ := isL_at rh1 rx q1
    refine ⟨.inl ⟨rfl, vs, hl⟩, φ1, δ, S1, _, ex.trans e1, rs.ext e1, rh1, q1, fun φ2 H2 y w S2 e2 rh2 ry q2 => ?_⟩
    cases y with
    | int i =>
      cases ry
      obtain ⟨ys, ws, ⟨ns, j, rfl, hj, hno, q⟩, hl2, r2⟩ := dLst_at rh2 (e2.pre _ _ hn) (show dLst S2 n _ from q2)
      rw [r2.ints_of] at hl2
      refine ⟨aa, _, _, j, .int i, rfl, rfl, hl2, rfl, flat_ints ns, by rw [List.getElem?_map, hj]; rfl, by rw [eqV_int]; exact decide_eq_true rfl, fun m z hm hz => ?_, k φ2 H2 _ _ S2 (e1.trans e2) rh2 (.int _) q⟩
      rw [List.getElem?_map] at hz
      cases e : ns[m]? with
      | none => rw [e] at hz; cases hz
      | some u =>
        rw [e] at hz; cases hz
        rw [eqV_int]
        exact decide_eq_false fun z => hno m hm (by rw [e, z])
    | _ => exact (show False from q2).elim
def dInA (neg : Bool) : D2
  | .str i, .str j, S, Q => Q (.bl (if neg then !(!(Builtin.Str.occurrences j i 0 j.length 1).isEmpty) else !(Builtin.Str.occurrences j i 0 j.length 1).isEmpty)) S
  | .int i, .ref n, S, Q => dLst S n fun xs => ∃ ns : List Int, xs = ns.map .int ∧ Q (.bl (if neg then !decide (i ∈ ns) else decide (i ∈ ns))) S
  | _, _, _, _ => False
theorem inV_ints {i : Int} {ns : List Int} : inV (.int i) (ns.map V.int) = decide (i ∈ ns) := by
  unfold inV
  induction ns with
  | nil => rfl
  | cons n ns ih =>
    rw [List.map_cons, List.any_cons, ih, eqV_int, Bool.eq_iff_iff]
    simp only [Bool.or_eq_true, decide_eq_true_eq, List.mem_cons]
    exact ⟨fun h => h.imp Eq.symm id, fun h => h.imp Eq.symm id⟩
theorem dInA_ok {K : PySem.W.Frag} {neg : Bool} : Snd2 K (dInA neg) (fun x y H Q => (∃ i j, x = .str i ∧ y = .str j ∧ Q (.bl (if neg then !(!(Builtin.Str.occurrences j i 0 j.length 1).isEmpty) else !(Builtin.Str.occurrences j i 0 j.length 1).isEmpty)) H) ∨ rIn K neg x y H Q) := by
  intro φ H S x y v w P Q rh rx ry h k
  cases x with
  | str i =>
    cases y with
    | str j => cases rx; cases ry; exact .inl ⟨i, j, rfl, rfl, k φ H _ _ S .refl rh (.bl _) h⟩
    | _ => exact (show False from h).elim
  | int i =>
    cases y with
    | ref n =>
      cases rx
      cases ry with
      | ref hn =>
        obtain ⟨xs, vs, ⟨ns, rfl, q⟩, hl, r⟩ := dLst_at rh hn (show dLst S n _ from h)
        rw [r.ints_of] at hl
        refine .inr ⟨_, _, rfl, .inl hl, rfl, flat_ints ns, ?_⟩
        rw [inV_ints]
        exact k φ H _ _ S .refl rh (.bl _) q
    | _ => exact (show False from h).elim
  | _ => exact (show False from h).elim
variable {b : Expr} {tb : DT}
theorem op_inA : OpR X (compareOp .In) (fun x y H Q => (∃ i j, x = .str i ∧ y = .str j ∧ Q (.bl (if false = true then !(!(Builtin.Str.occurrences j i 0 j.length 1).isEmpty) else !(Builtin.Str.occurrences j i 0 j.length 1).isEmpty)) H) ∨ rIn X.K false x y H Q) := OpR.or op_in_str op_in_seq
theorem op_notInA : OpR X (compareOp .NotIn) (fun x y H Q => (∃ i j, x = .str i ∧ y = .str j ∧ Q (.bl (if true = true then !(!(Builtin.Str.occurrences j i 0 j.length 1).isEmpty) else !(Builtin.Str.occurrences j i 0 j.length 1).isEmpty)) H) ∨ rIn X.K true x y H Q) := OpR.or op_notIn_str op_notIn_seq
theorem de_inA (ha : PE X a (lift X.K B ta)) (hb : PE X b (lift X.K B tb)) (hm : behindInMarks .In b = false := by rfl) : PE X (.Compare a [.In] [b] pos) (lift X.K B (dOp (dInA false) ta tb)) := de_cmp dInA_ok op_inA ha hb hm
theorem de_notInA (ha : PE X a (lift X.K B ta)) (hb : PE X b (lift X.K B tb)) (hm : behindInMarks .NotIn b = false := by rfl) : PE X (.Compare a [.NotIn] [b] pos) (lift X.K B (dOp (dInA true) ta tb)) := de_cmp dInA_ok op_notInA ha hb hm
theorem dt_inA (ha : PE X a (lift X.K B ta)) (hb : PE X b (lift X.K B tb)) (hm : behindInMarks .In b = false := by rfl) : PT X (.Compare a [.In] [b] pos) (liftT X.K B (dTest (dOp (dInA false) ta tb))) := dt_cmp dInA_ok op_inA ha hb hm
theorem dt_notInA (ha : PE X a (lift X.K B ta)) (hb : PE X b (lift X.K B tb)) (hm : behindInMarks .NotIn b = false := by rfl) : PT X (.Compare a [.NotIn] [b] pos) (liftT X.K B (dTest (dOp (dInA true) ta tb))) := dt_cmp dInA_ok op_notInA ha hb hm

/-! ## a try whose body raises nothing -/
theorem ds_try0 {x : Str} {c : Value} {body suite : List Stmt} {b₀ : Stmt} {np pos' : Pos} {t : DTS} (hc : Names X x c)
    (hb : ∀ (pn : List (Addr × Obj)) (xe : Value → Shared → Prop), PSs (X.tr pn xe) body (liftS X.K B t)) (hs : X.stack = X.env :: X.outer := by rfl) (hf : X.env.frame = some X.env.locals := by rfl) :
    PS X (.Try body [.ExceptHandler (some (.Name x np)) none (b₀ :: suite) pos'] [] [] pos) (liftS X.K B t) :=
  ps_try_only (ts := fun _ _ _ => liftS X.K B dNever) hs hf hc takes_none5 (fun _ pn xe _ _ => hb pn xe) fun _ _ _ _ _ _ _ => dss_never
end
theorem iRev_eq {ta : DT} {δ : Env} {S : Store} {R : List D → (Store → Prop) → Store → Prop} : iRev ta δ S R = ta δ S fun d S1 => isL S1 (fun n xs => R xs.reverse (fun S' => S'[n]? = some (.lst xs)) S1) d := Eq.trans rfl rfl
theorem dTupRev_eq {ta : DT} {δ : Env} {S : Store} {Q : DQ} : dTupRev ta δ S Q = ta δ S fun d S1 => isL S1 (fun _ xs => Q (.tup xs.reverse) S1) d := Eq.trans rfl rfl
theorem iEnumL_eq {t : DTA} {δ : Env} {S : Store} {R : List D → (Store → Prop) → Store → Prop} : iEnumL t δ S R = t δ S fun ds S1 => isD1 ds fun d => isL S1 (fun n xs => R (enumD xs) (fun S' => S'[n]? = some (.lst xs)) S1) d := Eq.trans rfl rfl
theorem dIndex_eq {to te : DT} {δ : Env} {S : Store} {Q : DQ} : dIndex to te δ S Q = to δ S fun x S1 => isL S1 (fun n _ => te δ S1 fun y S2 => isI y fun i => dLst S2 n fun xs => ∃ (ns : List Int) (j : Nat), xs = ns.map .int ∧ ns[j]? = some i ∧ (∀ m, m < j → ns[m]? ≠ some i) ∧ Q (.int (j : Nat)) S2) x := Eq.trans rfl rfl
theorem dInA_s {x y : Str} {S : Store} {Q : DQ} : dInA false (.str x) (.str y) S Q = Q (.bl (!(Builtin.Str.occurrences y x 0 y.length 1).isEmpty)) S := Eq.trans rfl rfl
theorem dNotInA_s {x y : Str} {S : Store} {Q : DQ} : dInA true (.str x) (.str y) S Q = Q (.bl (!(!(Builtin.Str.occurrences y x 0 y.length 1).isEmpty))) S := Eq.trans rfl rfl
theorem dInA_l {i : Int} {n : Nat} {S : Store} {Q : DQ} : dInA false (.int i) (.ref n) S Q = dLst S n fun xs => ∃ ns : List Int, xs = ns.map .int ∧ Q (.bl (decide (i ∈ ns))) S := Eq.trans rfl rfl
theorem dNotInA_l {i : Int} {n : Nat} {S : Store} {Q : DQ} : dInA true (.int i) (.ref n) S Q = dLst S n fun xs => ∃ ns : List Int, xs = ns.map .int ∧ Q (.bl (!decide (i ∈ ns))) S := Eq.trans rfl rfl
end DL

set_option Elab.async false
set_option linter.all false
set_option maxRecDepth 100000
set_option autoImplicit false
namespace DL
open PySem PySem.Spec L2

/-! ## errors of own classes over LookupError -/
abbrev leTail : List Value := [.type "LookupError", .type "Exception", .type "BaseException", .type "object"]
/-- own classes, then what LookupError is under -/
def refsLE : List Value → Bool
  | .ref _ :: r => refsLE r
  | l => l == leTail
theorem refsLE_or : ∀ l : List Value, refsLE l = true → (∃ c r, l = .ref c :: r ∧ refsLE r = true) ∨ l = leTail := by
  intro l e
  cases l with
  | nil => exact .inr (beq_iff_eq.mp e)
  | cons v r =>
    cases v with
    | ref c => exact .inl ⟨c, r, rfl, e⟩
    | _ => exact .inr (beq_iff_eq.mp e)
theorem refsLE_go (self : Value) : ∀ l : List Value, refsLE l = true → refuseLoop self "__setattr__" l = pure () := by
  intro l
  induction l with
  | nil => intro e; exact absurd e (by decide)
  | cons a r ih =>
    intro e
    rcases refsLE_or (a :: r) e with ⟨c, r', q, h⟩ | q
    · obtain ⟨rfl, rfl⟩ := List.cons.inj q
      rw [refuseLoop_ref]
      exact ih h
    · rw [q]
      exact PySem.F.store_LookupError.passes self
theorem refsLE_has (x : String) : ∀ l : List Value, refsLE l = true → l.contains (.type x) = leTail.contains (.type x) := by
  intro l
  induction l with
  | nil => intro e; exact absurd e (by decide)
  | cons a r ih =>
    intro e
    rcases refsLE_or (a :: r) e with ⟨c, r', q, h⟩ | q
    · obtain ⟨rfl, rfl⟩ := List.cons.inj q
      rw [List.contains_cons, ih h]
      rfl
    · rw [q]
theorem refsLE_some {l : List Value} (e : refsLE l = true) : l.isEmpty = false := by
  cases l with
  | nil => exact absurd e (by decide)
  | cons _ _ => rfl
section
open PySem.W PySem.Calls PyProof.Rows PySem.HandSPX Builtin Builtin.ObjectAttr
variable {prog : Program} {w : World} {A : Around} {E : Value → Shared → Prop} {R : Result → Shared → Prop} {hp : Heap} {g : Array GenState} {d : Drawn} {t : Nat} {os : OsState}
theorem osaL {K : W.Frag} {name : Str} {tk : Tok} {v : Value} {x C : Addr} {fv : Array Value} {cd : ClassData}
    (X : K.In hp) (ex : hp.get? x = some { cls := .ref C, data := .fields fv }) (ecd : W.clsIn K C = some cd) (em : refsLE cd.mro = true) (eh : cd.hasDict = true) (ha : W.findIn K (.ref C) name = some none)
    (fin : ∀ h2 t2 dx, (∀ b o, b ≠ x → hp.get? b = some o → h2.get? b = some o) → hp.objs.size ≤ dx → dx ≠ x → h2.get? x = some { cls := .ref C, dict := some dx, data := .fields fv } → h2.Ns1 dx (fun y => if y = name then some v else none) → R (.ok (.ret .none)) ⟨h2, g, d, t2, os⟩) :
    codeAny (model prog w) A (.call (.builtin "object.__setattr__") ⟨[.ref x, .str name tk, v], []⟩) R ⟨hp, g, d, t, os⟩ := by
  have I : W.InstAt hp x { cls := .ref C, data := .fields fv } C none := ⟨ex, rfl, rfl, trivial⟩
  have sf := F.store_object
  have nem := refsLE_some em
  have top : cd.mro.contains (.type "object") = true := (refsLE_has "object" _ em).trans (by decide +kernel)
  have xs : x ≠ hp.objs.size := Nat.ne_of_lt (Heap.lt_size ex)
  have sub : W.Looks (model prog w) hp (isInstance (.ref x) (.type "object")) true := I.type.andThen (W.looks_mroIn X (by unfold W.mroIn; rw [ecd, Option.bind_some, if_neg (by rw [nem]; decide), top]))
  refine codeAny_call_builtin sf.slot.plain sf.entry (@W.check_slot (model prog w) _ _ ⟨hp, g, d, t, os⟩ "object.__setattr__" "object" "__setattr__" (.ref x) [.str name tk, v] [] _ sf.kind sf.split sub (sf.args (.ref x) (.str name tk) v) ?_)
  have hmr : W.Looks (model prog w) hp (mroOf (.ref C)) cd.mro := (W.looks_clsIn X ecd).andThen .now
  have nul : W.Looks (model prog w) hp (storeTaker? none) none := .now
  have hcls : W.Looks (model prog w) hp (classData C) cd := W.looks_clsIn X ecd
  rw [W.osa_eq, refuse_eq]
  refine wpAny_bind (wpAny_bind (I.type.at (wpAny_bind (hmr.at ?_))))
  rw [refsLE_go _ _ em]
  refine wpAny_pure (wpAny_bind (I.type.at (wpAny_bind ((W.looks_findIn X ha).at (wpAny_bind (nul.at ?_))))))
  show wpAny _ _ (storeInOwnDict (.ref x) (.ref C) (.str name tk) name v false) _ _ _
  obtain ⟨c1, c2, c3, c4, c5, hd, c7, c8, c9, c10, c11⟩ := cd
  dsimp only at eh
  subst eh
  unfold storeInOwnDict ownDictForStores
  repeat (first | with_reducible refine store_in_new ?_ ?_ | with_reducible refine wpAny_loadPart_at ex ?_ | with_reducible refine hcls.at ?_ | wp_step)
  · exact ⟨_, #[], _, (Heap.get?_update_ne _ _ _ _ xs.symm).trans (Heap.get?_push_at rfl rfl), rfl, fun e he => absurd he (by simp), fun _ => rfl⟩
  · intro h2 t2 hn2 hs2
    have ex1 : (hp.push { cls := .type "dict", data := .dict #[] }).get? x = some { cls := .ref C, data := .fields fv } := Heap.get?_push_of_some _ ex
    refine fin h2 t2 hp.objs.size (fun b o hb ho => ?_) (Nat.le_refl _) xs.symm ?_ hn2
    · exact (hs2.2 b (Nat.ne_of_lt (Heap.lt_size ho))).trans ((Heap.get?_update_ne _ _ _ _ hb).trans (Heap.get?_push_of_some _ ho))
    · exact (hs2.2 x xs).trans (Heap.get?_update_self _ ex1 rfl)
end
/-- what the written part says of such a class -/
structure OexL (K : PySem.W.Frag) (C : Addr) : Prop where
  cls : ∃ nm q N bs bm sn sub ab col dd k0 k1 k2 k3 k5, K.lookup C = some (excClassObj nm q C N bs bm true sn sub ab col dd k0 k1 k2 k3 k5 "LookupError.__new__") ∧ refsLE bm = true
  sa : PySem.W.findIn K (.ref C) "__setattr__" = some (some (.builtin "object.__setattr__"))
  exC : PySem.W.subIn K (.ref C) (.type "BaseException") = some true
  tyC : PySem.W.typeIn K (.ref C) = some (.type "type")
  kC : PySem.W.keepIn K (.ref C) = true
section
open PyProof.Rows
variable {X : Cx} {pins : List (Addr × Obj)} {σ : L2.St} {H : Hp} {s : Shared} {a C dx : Addr} {f : Str} {y : V} {u : Value} {fs : List (Str × V)} {Q : Unit → Shared → Prop} {E : Value → Shared → Prop} {A : Around}
theorem ost_newL (T : OexL X.K C) (I : Inv X pins σ H s) (e : H a = some (exo a C none)) (hno : PySem.W.findIn X.K (.ref C) f = some none) (ry : RelV y u)
    (h : ∀ dx s', H dx = none → dx ≠ a → Inv X pins σ (upd (upd H dx (exd dx [(f, y)])) a (exo a C (some dx))) s' → Q () s') : wpAny (model X.prog X.w) A (setAttr (.ref a) f u) Q E s := by
  obtain ⟨nm, q, N, bs, bm, sn, sub, ab, col, dd, k0, k1, k2, k3, k5, hC, hbm⟩ := T.cls
  have cl : PySem.W.clsIn X.K C = some { name := nm, bases := bs, mro := .ref C :: bm, ns := N, qualname := q, hasDict := true, slotNames := sn, subclasses := sub, abstract := ab, collection := col, hasDel := false } := by unfold PySem.W.clsIn; rw [hC] <;> rfl
  obtain ⟨t1, ho⟩ := exo_at I.hok e
  obtain ⟨hp, g, d, t, os⟩ := s
  refine PySem.W.set_plain I.kIn (ox := { cls := .ref C, dict := none, data := .fields #[.ref t1, .none, .none, .none, .bool false, .none] }) (od := none) ⟨ho, rfl, rfl, trivial⟩ T.sa ?_
  refine osaL I.kIn ho cl (show refsLE (.ref C :: bm) = true from hbm) rfl hno (fun h2 t2 dx k dn dne hx hn => ?_)
  have nH : H dx = none := I.hok.fresh dn
  have nd : ∀ {b : Addr} {o : Obj}, hp.get? b = some o → b ≠ dx := fun {b o} q => Nat.ne_of_lt (Nat.lt_of_lt_of_le (Heap.lt_size q) dn)
  have na : ∀ {b : Addr}, H b = none → b ≠ a := fun {b} n z => by
    rw [z, e] at n
    cases n
  have U : Un X.fs [] H (upd (upd H dx (exd dx [(f, y)])) a (exo a C (some dx))) hp h2 :=
    ⟨fun b o q n _ _ => k b o (na n) q, fun b o q n _ _ => ⟨o.slots, k b o (na n) q⟩, fun b o q n _ => by rw [upd_ne (na n), upd_ne (nd q)]; exact n,
      fun b o q _ => by
        by_cases hb : b = a
        · exact ⟨_, by rw [hb]; exact hx⟩
        · exact ⟨o, k b o hb q⟩,
      fun b xs q => by rw [upd_ne (at_ne e q exo_tup), upd_ne (ne_of_none q nH)]; exact q, fun b o v q => by rw [upd_ne (at_ne e q exo_frz), upd_ne (ne_of_none q nH)]; exact q,
      fun b ps q => ⟨#[], by rw [upd_ne (at_ne e q exo_tbl), upd_ne (ne_of_none q nH), q]; simp⟩⟩
  refine h dx _ nH dne (I.un (t' := t2) U fun b o q => ?_)
  by_cases hb : b = a
  · subst hb
    rw [upd_same] at q
    cases q
    exact exo_ok hx
  · rw [upd_ne hb] at q
    by_cases hd : b = dx
    · subst hd
      rw [upd_same] at q
      cases q
      exact exd_ok hn (relO_put (fs := []) ry fun g => True.intro)
    · rw [upd_ne hd] at q
      refine (I.hok b o q).stay (fun c v hc z => k c v ?_ z) (fun c hc => by rw [upd_ne (at_ne e hc exo_own), upd_ne (ne_of_none hc nH)]; exact hc) (fun c xs hc => by rw [upd_ne (at_ne e hc exo_tup), upd_ne (ne_of_none hc nH)]; exact hc)
      rcases hc with hc | hc
      · rw [hc]; exact hb
      · exact at_ne e hc exo_own
end
/-! ### both kinds of classes -/
def OexG (K : PySem.W.Frag) (C : Addr) : Prop := OexC K C ∨ OexL K C
def tOstG (K : PySem.W.Frag) (f : Str) (to te : TE) : TS := fun D σ H => te σ H fun y H1 => to σ H1 fun x H2 => ∃ a C : Addr, x = .ref a ∧ PySem.W.findIn K (.ref C) f = some none ∧
  ((OexG K C ∧ H2 a = some (exo a C none) ∧ ∀ dx, H2 dx = none → dx ≠ a → D.nx σ (upd (upd H2 dx (exd dx [(f, y)])) a (exo a C (some dx)))) ∨
    (OexC K C ∧ ∃ (dx : Addr) (fs : List (Str × V)), H2 a = some (exo a C (some dx)) ∧ H2 dx = some (exd dx fs) ∧ fs.length ≤ 900 ∧ D.nx σ (upd H2 dx (exd dx ((f, y) :: fs)))))
section
open PyProof.Rows
variable {X : Cx} {o e : Expr} {es : List Expr} {to te : TE} {ta : TA} {f : Str} {p p' pos : Pos}
theorem ps_ostG (ho : PE X o to) (he : PE X e te) (hs : swapsWith e (some (.Attribute o f p')) pos.line X.env = pure false := by rfl) : PS X (.Assign [.Attribute o f p'] e pos) (tOstG X.K f to te) := by
  refine ⟨fun pins s σ H D I h => ?_⟩
  refine plainObj_wpAny_Assign_Attribute (thn (he.run pins s σ H _ I h) fun v s1 hv => ?_) hs
  obtain ⟨y, H1, I1, r1, q1⟩ := hv
  refine thn (ho.run pins s1 σ H1 _ I1 q1) fun u s2 hu => ?_
  obtain ⟨x, H2, I2, r2, a, C, rfl, hno, q⟩ := hu
  obtain rfl : u = Value.ref a := r2
  rcases q with ⟨T | T, ea, q⟩ | ⟨T, dx, fs, ea, ed, hl, q⟩
  · exact ost_new T I2 ea hno r1 fun dx s' n ne J => ⟨σ, _, J, q dx n ne⟩
  · exact ost_newL T I2 ea hno r1 fun dx s' n ne J => ⟨σ, _, J, q dx n ne⟩
  · exact ost_old T I2 ea ed hl hno r1 fun s' J => ⟨σ, _, J, q⟩
theorem pmk_oexL {CX : CXT} {x : Str} {C fI : Addr} {k : Nat} {fd : FuncData} {ps : List Str} {sp : Sp} (T : OexL X.K C) (iC : PySem.W.findIn X.K (.ref C) "__init__" = some (some (.ref fI))) (tI : PySem.W.typeIn X.K (.ref fI) = some (.type "function"))
    (F1 : FnOk X.prog X.w X.K X.mg X.base CX k fI fd ps sp) (hr : Room (k + 1) X.A) (hb : Binds X.K fd ps []) (hx : Passes CX X (fun _ _ _ => False)) (hg : Gl X x) (hm : X.mg x = some (.ref C)) (ha : PA X (e :: es) ta)
    (hdb : (x == ("__debug__" : Str)) = false := by decide) (he : starEach (e :: es) X.env = (false, eval e X.env) :: starEach es X.env := by rfl) (hpl : (backTo pos (starEach es X.env)).any (·.1) = false := by rfl) :
    PMk X (.Call (.Name x p) (e :: es) [] pos) (tMkO C sp [] ta) := by
  intro pins s σ H Q I h
  obtain ⟨nm, q, N, bs, bm, sn, sub, ab, col, dd, k0, k1, k2, k3, k5, hC, hbm⟩ := T.cls
  refine wpAny_Call_Name_kw (ld_glob I hg hm ?_ hdb)
  refine PySem.W.callWith_K (h₀ := X.base) I.ok.mod.kin T.kC (thn (ha.run pos pins s σ H _ I h) fun us s1 hus => ?_) he hpl
  obtain ⟨vs, H1, I1, r1, hz, q1⟩ := hus
  refine ⟨I1.kIn, ?_⟩
  show wpAny _ _ (call (.ref C) us) _ _ _
  obtain ⟨hp, g, dr, tk, os⟩ := s1
  have up1 : hp.objs.size ≤ hp.objs.size + 1 := Nat.le_succ _
  have hq := q1 (hp.objs.size + 1) (I1.hok.fresh up1)
  have kk : ∀ b o, hp.get? b = some o → ((hp.push (PySem.W.kdv_tup us)).push (PySem.HandSPX.excO C hp.objs.size)).get? b = some o := fun b o e => Heap.get?_push_of_some _ (Heap.get?_push_of_some _ e)
  have hget : ((hp.push (PySem.W.kdv_tup us)).push (PySem.HandSPX.excO C hp.objs.size)).get? (hp.objs.size + 1) = some (PySem.HandSPX.excO C hp.objs.size) := by heap_get
  have I2 := I1.laid (t' := tk) (a := hp.objs.size + 1) (o := exo (hp.objs.size + 1) C none) (h' := (hp.push (PySem.W.kdv_tup us)).push (PySem.HandSPX.excO C hp.objs.size)) kk up1 (exo_ok hget)
  have r2 : Vals (V.ref (hp.objs.size + 1) :: (vs ++ [])) (Value.ref (hp.objs.size + 1) :: (us ++ [])) := .cons rfl (r1.append .nil)
  have hl : (Value.ref (hp.objs.size + 1) :: us ++ []).length = ps.length := by
    have e := r2.length
    rw [F1.len _ _ _ _ hq] at e
    exact e.symm
  have hbb : BindsTo ⟨(hp.push (PySem.W.kdv_tup us)).push (PySem.HandSPX.excO C hp.objs.size), g, dr, tk, os⟩ fd ⟨Value.ref (hp.objs.size + 1) :: us, []⟩ (ps.zip (Value.ref (hp.objs.size + 1) :: (us ++ []))) := hb _ (Value.ref (hp.objs.size + 1) :: us) I2.kIn hl
  have few : us.length ≤ sizeLine := by
    rw [← Paired.length r1, sizeLine_eq]
    omega
  refine wpAny_call (PySem.HandSPX.call_own F.excBase_LookupError (fun Y => refsLE_has Y bm hbm) (I1.kIn _ _ hC) (PySem.W.looks_findIn I1.kIn iC) (fun self => PySem.W.bind_fn I1.kIn self tI) few
    (codeAny_mono (F1.run _ X.stack _ _ ⟨Value.ref (hp.objs.size + 1) :: us, []⟩ (Value.ref (hp.objs.size + 1) :: (us ++ [])) _ _ (fun _ _ _ => False) (hr.make C us []) (I2.env0.make C us []) hbb r2 hq) fun r s' hq' => ?_))
  match r, hq' with
  | .error er, hq' => exact hx pins σ _ _ er s' I2 hq'
  | .ok (.ret u), hq' =>
    obtain ⟨v, H2, os2, bare2, un2, hok2, rv, ev, d, fs, ea, ed, hd1, q2⟩ := hq'
    subst ev
    obtain ⟨h2, g2, d2, t2, os'⟩ := s'
    exact ⟨rv, mk_end (raises_own T.exC T.tyC) I1 up1 kk un2 hok2 os2 bare2 ea ed hd1 q2⟩
theorem pmk_oexG {CX : CXT} {x : Str} {C fI : Addr} {k : Nat} {fd : FuncData} {ps : List Str} {sp : Sp} (T : OexG X.K C) (iC : PySem.W.findIn X.K (.ref C) "__init__" = some (some (.ref fI))) (tI : PySem.W.typeIn X.K (.ref fI) = some (.type "function"))
    (F1 : FnOk X.prog X.w X.K X.mg X.base CX k fI fd ps sp) (hr : Room (k + 1) X.A) (hb : Binds X.K fd ps []) (hx : Passes CX X (fun _ _ _ => False)) (hg : Gl X x) (hm : X.mg x = some (.ref C)) (ha : PA X (e :: es) ta)
    (hdb : (x == ("__debug__" : Str)) = false := by decide) (he : starEach (e :: es) X.env = (false, eval e X.env) :: starEach es X.env := by rfl) (hpl : (backTo pos (starEach es X.env)).any (·.1) = false := by rfl) :
    PMk X (.Call (.Name x p) (e :: es) [] pos) (tMkO C sp [] ta) := by
  rcases T with T | T
  · exact pmk_oex T iC tI F1 hr hb .nil hx hg hm ha hdb he hpl
  · exact pmk_oexL T iC tI F1 hr hb hx hg hm ha hdb he hpl
end
end DL

set_option Elab.async false
set_option linter.all false
set_option maxRecDepth 100000
set_option autoImplicit false
namespace DL
open PySem PySem.Spec L2

/-! ## errors of own classes: raised, let out of a def, caught -/
theorem XOk.ext {K : PySem.W.Frag} {φ φ' : List Addr} {H H' : Hp} {PX : DXQ} {E : XK} (h : XOk K φ H PX E) (e : Ext K φ φ' H H') : XOk K φ' H' PX E :=
  fun φ2 H2 S2 cls d fs vs e2 => h φ2 H2 S2 cls d fs vs (e.trans e2)
/-- what is wanted of an error that leaves an expression of the suite -/
def XWish (K : PySem.W.Frag) (B : Base) (PXE : Env → DXQ) (W : WX) : Prop := ∀ σ φ H δ, Ext K B.φ φ B.H H → RS K φ H σ δ → XOk K φ H (PXE δ) (fun cls d H' => W cls d σ H')
theorem XWish.of {K : PySem.W.Frag} {φ : List Addr} {H : Hp} {PX : DXQ} {E : XK} (h : XOk K φ H PX E) : XWish K ⟨φ, H⟩ (fun _ => PX) (fun cls d _ H' => E cls d H') := fun _ _ _ _ e _ => h.ext e
section
variable {X : Cx} {B : Base} {k : Nat} {f : Addr} {fd : FuncData} {ps : List Str} {dsp : DSp} {x : Str} {p pos : Pos} {e : Expr} {es : List Expr} {t : DTA} {W : WX} {PXE : Env → DXQ}
theorem run_dfnX {CX : CXT} {E : XK} {PX : DXQ} {pins : List (Addr × Obj)} {σ : L2.St} {H : Hp} {s : Shared} {us : List Value} {vs : List V} {φ : List Addr} {S : Store} {ds es : List D} {ws : List V} {xs : List Value} {PQ : DQ} (F : DFn X.prog X.w X.K X.mg X.base CX k f fd ps dsp)
    (hr : Room k X.A) (hgd : X.A.guards = some []) (hb : Binds X.K fd ps xs) (hv : Vals ws xs) (hw : ∀ φ H, RDs X.K φ H es ws) (hx : PassesAt CX X σ E)
    (I : Inv X pins σ H s) (r : Vals vs us) (rh : RH X.K φ H S) (rd : RDs X.K φ H ds vs) (h : dsp (ds ++ es) S PQ PX) (hE : XOk X.K φ H PX E) : wpAny (model X.prog X.w) X.A (call (.ref f) us) (EP X pins σ (QOk X.K φ H PQ)) X.xe s := by
  have rd2 : RDs X.K φ H (ds ++ es) (vs ++ ws) := rd.append (hw φ H)
  have r2 : Vals (vs ++ ws) (us ++ xs) := r.append hv
  have hl : (us ++ xs).length = ps.length := by
    have h1 := F.len _ _ _ _ h
    have h2 := rd2.length
    have h3 := r2.length
    omega
  refine wpAny_call (codeAny_mono (F.run X.A X.stack s H ⟨us, []⟩ (us ++ xs) (vs ++ ws) φ S (ds ++ es) PQ PX E hr hgd I.env0 (hb s us I.kIn hl) r2 rh rd2 h hE) ?_)
  intro r s' hq
  match r, hq with
  | .error e, hq => exact hx pins H s e s' I hq
  | .ok (.ret u), hq => exact I.after hq
def dCallX (dsp : DSp) (es' : List D) (PXE : Env → DXQ) (t : DTA) (δ : Env) (S : Store) (Q : DQ) : Prop := t δ S fun ds S1 => dsp (ds ++ es') S1 Q (PXE δ)
/-- a call that may let an error out -/
theorem de_callX {es' : List D} {ws : List V} (F : DFn X.prog X.w X.K X.mg X.base (L2.CX X.prog X.w) k f fd ps dsp) (hr : Room k X.A) (hgd : X.A.guards = some []) (tk : Takes X W) (hE : XWish X.K B PXE W) (hm : X.mg x = some (.ref f)) (hk : PySem.W.keepIn X.K (.ref f) = true)
    (hb : ∃ xs, Vals ws xs ∧ Binds X.K fd ps xs) (hw : ∀ φ H, RDs X.K φ H es' ws)
    (ha : PA X (e :: es) (liftA X.K B t)) (hg : Gl X x := by rfl) (hdb : (x == ("__debug__" : Str)) = false := by decide) (he : starEach (e :: es) X.env = (false, eval e X.env) :: starEach es X.env := by rfl)
    (hpl : (backTo pos (starEach es X.env)).any (·.1) = false := by rfl) : PE X (.Call (.Name x p) (e :: es) [] pos) (lift X.K B (dCallX dsp es' PXE t)) := by
  obtain ⟨xs, hv, hb⟩ := hb
  constructor
  intro pins s σ H Q I h
  obtain ⟨φ, δ, S, P, ex, rs, rh, ht, kk⟩ := h
  refine wpAny_Call_Name_kw (ld_glob I hg hm ?_ hdb)
  have hA := ha.run pos pins s σ H (fun vs H1 => ∃ φ1 ds S1, Ext X.K φ φ1 H H1 ∧ RH X.K φ1 H1 S1 ∧ RDs X.K φ1 H1 ds vs ∧ dsp (ds ++ es') S1 P (PXE δ)) I
    ⟨φ, δ, S, _, ex, rs, rh, ht, fun φ1 H1 ds vs S1 e1 rh1 rd1 q1 => ⟨φ1, ds, S1, e1, rh1, rd1, q1⟩⟩
  refine PySem.W.callWith_K (h₀ := X.base) I.ok.mod.kin hk (thn hA fun us s1 hus => ?_) he hpl
  obtain ⟨vs, H1, I1, r, φ1, ds, S1, e1, rh1, rd1, q1⟩ := hus
  have hE1 : XOk X.K φ1 H1 (PXE δ) (WE W σ) := (hE σ φ H δ ex rs).ext e1
  refine ⟨I1.kIn, thn (run_dfnX F hr hgd hb hv hw (passAt tk σ) I1 r rh1 rd1 q1 hE1) fun u s2 hu => ?_⟩
  obtain ⟨v, H2, I2, ru, φ2, d, S2, e2, rh2, rd2, q2⟩ := hu
  exact ⟨v, H2, I2, ru, kk φ2 H2 d v S2 (e1.trans e2) rh2 rd2 q2⟩
end

/-! ### the class -/
/-- __init__ stores each argument under its own name -/
def spInit (C : Addr) (fl : List Str) : Sp := fun vs H Q _ => ∃ (a : Addr) (ys : List V), vs = .ref a :: ys ∧ ys.length = fl.length ∧ H a = some (exo a C none) ∧
  ∀ dx H2, H dx = none → dx ≠ a → H2 a = some (exo a C (some dx)) → H2 dx = some (exd dx (fl.zip ys).reverse) → (∀ b, b ≠ a → b ≠ dx → H2 b = H b) → Q .non H2
structure ExC (K : PySem.W.Frag) (mg : Str → Option Value) (x : Str) (fl : List Str) (C fI : Addr) (fd : FuncData) : Prop where
  gC : mg x = some (.ref C)
  oe : OexG K C
  xf : XfC K C
  no : ∀ f ∈ fl, PySem.W.findIn K (.ref C) f = some none
  iC : PySem.W.findIn K (.ref C) "__init__" = some (some (.ref fI))
  tI : PySem.W.typeIn K (.ref fI) = some (.type "function")
  ex : PySem.W.exmOne K (.ref C) (.ref C) = some true
  b : Binds K fd ("self" :: fl) []
  ok : ∀ (P : Program) (w : World) (base : Heap), FnOk P w K mg base CX0 1 fI fd ("self" :: fl) (spInit C fl)
theorem spInit_len {C : Addr} {fl : List Str} {vs : List V} {H : Hp} {Q : VK} {E : XK} (h : spInit C fl vs H Q E) : vs.length = ("self" :: fl : List Str).length := by
  obtain ⟨a, ys, rfl, hl, _⟩ := h
  rw [List.length_cons, List.length_cons, hl]
theorem zip1 {f : Str} {y : V} : (([f] : List Str).zip [y]).reverse = [(f, y)] := rfl
theorem zip2 {f g : Str} {y z : V} : (([f, g] : List Str).zip [y, z]).reverse = [(g, z), (f, y)] := rfl
/-- the reading of an __init__ of one line, of two -/
theorem init_red1 {K : PySem.W.Frag} {C : Addr} {f n0 n1 : Str} {vs : List V} {H : Hp} {Q : VK} {E : XK} (oe : OexG K C) (no : PySem.W.findIn K (.ref C) f = some none) (h : spInit C [f] vs H Q E) :
    tSeq (tOstG K f (tVar 0) (tVar 1)) tNext { nx := fun _ H' => Q .non H', rt := Q } (L2.start [n0, n1] vs) H := by
  obtain ⟨a, ys, rfl, hl, ha, q⟩ := h
  match ys, hl with
  | [y], _ =>
    refine ⟨y, rfl, .ref a, rfl, a, C, rfl, no, .inl ⟨oe, ha, fun dx hd hne => ?_⟩⟩
    exact q dx _ hd hne upd_same (by rw [upd_ne hne, upd_same, zip1]) fun b h1 h2 => by rw [upd_ne h1, upd_ne h2]
theorem init_red2 {K : PySem.W.Frag} {C : Addr} {f g n0 n1 n2 : Str} {vs : List V} {H : Hp} {Q : VK} {E : XK} (oe : OexC K C) (no : PySem.W.findIn K (.ref C) f = some none) (no2 : PySem.W.findIn K (.ref C) g = some none) (h : spInit C [f, g] vs H Q E) :
    tSeq (tOstG K f (tVar 0) (tVar 1)) (tSeq (tOstG K g (tVar 0) (tVar 2)) tNext) { nx := fun _ H' => Q .non H', rt := Q } (L2.start [n0, n1, n2] vs) H := by
  obtain ⟨a, ys, rfl, hl, ha, q⟩ := h
  match ys, hl with
  | [y, z], _ =>
    refine ⟨y, rfl, .ref a, rfl, a, C, rfl, no, .inl ⟨.inl oe, ha, fun dx hd hne => ?_⟩⟩
    refine ⟨z, rfl, .ref a, rfl, a, C, rfl, no2, .inr ⟨oe, dx, [(f, y)], upd_same, by rw [upd_ne hne, upd_same], by show 1 ≤ 900; decide, ?_⟩⟩
    refine q dx _ hd hne ?_ (by rw [upd_same, zip2]) fun b h1 h2 => by rw [upd_ne h2, upd_ne h1, upd_ne h2]
    rw [upd_ne (Ne.symm hne), upd_same]
/-- a class catches its own -/
theorem exm_self {K : PySem.W.Frag} {C : Addr} (h1 : PySem.W.subIn K (.ref C) (.type "BaseException") = some true) (h2 : PySem.W.isClsIn K C = true) (h3 : PySem.W.typeIn K (.ref C) = some (.type "type")) (h4 : PySem.W.subIn K (.ref C) (.ref C) = some true) : PySem.W.exmOne K (.ref C) (.ref C) = some true := by
  have h2' : (PySem.W.clsIn K C).isSome = true := h2
  simp [PySem.W.exmOne, PySem.W.kitCls, h1, h2', h3, h4]
/-! ### raise -/
theorem rf_of {K : PySem.W.Frag} {φ : List Addr} {H : Hp} : ∀ {fl : List Str} {ds : List D} {vs : List V}, RDs K φ H ds vs → RF K φ H (fl.zip ds) (fl.zip vs)
  | [], _, _, _ => by rw [List.zip_nil_left, List.zip_nil_left]; exact .nil
  | _ :: _, _, _, .nil => by rw [List.zip_nil_right, List.zip_nil_right]; exact .nil
  | _ :: _, _, _, .cons h r => .cons h (rf_of r)
theorem rf_append {K : PySem.W.Frag} {φ : List Addr} {H : Hp} : ∀ {a c : List (Str × D)} {b d : List (Str × V)}, RF K φ H a b → RF K φ H c d → RF K φ H (a ++ c) (b ++ d)
  | _, _, _, _, .nil, r => r
  | _, _, _, _, .cons h t, r => .cons h (rf_append t r)
theorem rf_rev {K : PySem.W.Frag} {φ : List Addr} {H : Hp} : ∀ {a : List (Str × D)} {b : List (Str × V)}, RF K φ H a b → RF K φ H a.reverse b.reverse
  | _, _, .nil => .nil
  | _, _, .cons h t => by
    rw [List.reverse_cons, List.reverse_cons]
    exact rf_append (rf_rev t) (.cons h .nil)
theorem rf_look {K : PySem.W.Frag} {φ : List Addr} {H : Hp} {f : Str} {d : D} : ∀ {a : List (Str × D)} {b : List (Str × V)}, RF K φ H a b → a.lookup f = some d → ∃ v, b.lookup f = some v ∧ RD K φ H d v
  | _, _, .nil, e => by cases e
  | (g, x) :: _, (_, y) :: _, .cons h t, e => by
    rw [List.lookup_cons] at e ⊢
    cases hg : (f == g) with
    | true =>
      rw [hg] at e
      cases e
      exact ⟨y, rfl, h⟩
    | false =>
      rw [hg] at e
      exact rf_look t e
def dRaise (C : Addr) (fl : List Str) (PXE : Env → DXQ) (t : DTA) (_ : DEnds) (δ : Env) (S : Store) : Prop := t δ S fun xs S1 => xs.length = fl.length ∧ xs.length ≤ 1000 ∧ PXE δ (.ref C) (fl.zip xs).reverse S1
section
variable {X : Cx} {B : Base} {x : Str} {C fI : Addr} {fl : List Str} {fd : FuncData} {p pos pos' : Pos} {e : Expr} {es : List Expr} {t : DTA} {W : WX} {PXE : Env → DXQ}
theorem ds_raise (T : ExC X.K X.mg x fl C fI fd) (hr : Room 2 X.A) (tk : Takes X W) (hE : XWish X.K B PXE W) (ha : PA X (e :: es) (liftA X.K B t)) (hc : X.calm = true := by rfl) (hg : Gl X x := by rfl)
    (hdb : (x == ("__debug__" : Str)) = false := by decide) (he : starEach (e :: es) X.env = (false, eval e X.env) :: starEach es X.env := by rfl) (hpl : (backTo pos (starEach es X.env)).any (·.1) = false := by rfl) :
    PS X (.Raise (some (.Call (.Name x p) (e :: es) [] pos)) none pos') (liftS X.K B (dRaise C fl PXE t)) := by
  refine PS.imp (ps_raise hc tk (pmk_oexG T.oe T.iC T.tI (T.ok X.prog X.w X.base) hr T.b pass0 hg T.gC ha hdb he hpl)) fun σ H D h => ?_
  obtain ⟨φ, δ, S, P, ex, rs, rh, ht, le⟩ := h
  refine ⟨φ, δ, S, _, ex, rs, rh, ht, fun φ1 H1 ds vs S1 e1 rh1 rd1 q1 => ?_⟩
  obtain ⟨hl, h1000, q⟩ := q1
  have hlv := rd1.length
  refine ⟨by omega, fun a hna => ⟨a, vs, by rw [List.append_nil], by omega, upd_same, fun dx H2 hdx hne ha2 hd2 hoth => ⟨rfl, dx, _, ha2, hd2, ?_, ?_⟩⟩⟩
  · rw [upd_ne hne] at hdx
    exact hdx
  · rw [upd_ne hne] at hdx
    have same : upd (L2.del H2 a) dx (.xd (fl.zip vs).reverse) = upd H1 dx (.xd (fl.zip vs).reverse) := by
      funext b
      by_cases hb : b = dx
      · rw [hb, upd_same, upd_same]
      · rw [upd_ne hb, upd_ne hb]
        by_cases hb2 : b = a
        · rw [hb2, del_same, hna]
        · rw [del_ne hb2, hoth b hb2 hb, upd_ne hb2]
    rw [same]
    exact hE σ φ H δ ex rs φ1 _ S1 (.ref C) dx _ _ (e1.trans (Ext.side hdx)) (rh1.side hdx) upd_same (rh1.notin hdx) (rf_rev (rf_of (rd1.ext (Ext.side hdx)))) q
end

/-! ### try .. except C as n -/
def clrE (i : Nat) (P : DEnds) : DEnds := { nx := fun δ S => P.nx (δ.set i none) S, rt := P.rt, bk := fun δ S => P.bk (δ.set i none) S, ct := fun δ S => P.ct (δ.set i none) S }
def dTry (C : Addr) (i : Nat) (t : (Env → DXQ) → DTS) (k : List (Str × D) → DTS) (P : DEnds) (δ : Env) (S : Store) : Prop :=
  t (fun δ' cls fs S' => cls = .ref C ∧ i < δ'.length ∧ k fs (clrE i P) (δ'.set i none) S') P δ S
/-- the suite's reading: at slot i the error a, of the class at C, its fields as data -/
def liftX (K : PySem.W.Frag) (C : Addr) (i : Nat) (a : Addr) (cls : Value) (d : Option Addr) (k : List (Str × D) → DTS) : TS := fun E σ H => ∃ (φ : List Addr) (δ : Env) (S : Store) (P : DEnds) (dd : Addr) (fs : List (Str × D)) (vs : List (Str × V)),
  cls = .ref C ∧ d = some dd ∧ σ[i]? = some (some (.ref a)) ∧ RS K φ H σ δ ∧ RH K φ H S ∧ H dd = some (.xd vs) ∧ dd ∉ φ ∧ RF K φ H fs vs ∧ k fs P δ S ∧ Le K φ H P E
theorem Le.clr {K : PySem.W.Frag} {φ : List Addr} {H : Hp} {P : DEnds} {E : Ends} (l : Le K φ H P E) (i : Nat) : Le K φ H (clrE i P) { nx := fun σ' H' => E.nx (σ'.set i none) H', rt := E.rt, bk := fun σ' H' => E.bk (σ'.set i none) H', ct := fun σ' H' => E.ct (σ'.set i none) H' } :=
  ⟨fun φ' H' σ δ S e rs rh q => l.nx φ' H' _ _ S e (rs.unset i) rh q, l.rt, fun φ' H' σ δ S e rs rh q => l.bk φ' H' _ _ S e (rs.unset i) rh q, fun φ' H' σ δ S e rs rh q => l.ct φ' H' _ _ S e (rs.unset i) rh q⟩
theorem RS.exc {K : PySem.W.Frag} {φ : List Addr} {H : Hp} {σ : St} {δ : Env} (h : RS K φ H σ δ) (i : Nat) (v : V) : RS K φ H (σ.set i (some v)) (δ.set i none) := by
  refine ⟨by rw [List.length_set, List.length_set]; exact h.len, fun j e q => ?_⟩
  by_cases hj : i = j
  · subst hj
    have hlt : i < δ.length := by
      have := (List.getElem?_eq_some_iff.mp q).1
      rw [List.length_set] at this
      exact this
    rw [List.getElem?_set_self hlt] at q
    cases q
  · rw [List.getElem?_set_ne hj] at q
    obtain ⟨w, h1, h2⟩ := h.at_ j e q
    exact ⟨w, by rw [List.getElem?_set_ne hj]; exact h1, h2⟩
section
variable {X : Cx} {B : Base} {x n : Str} {C fI : Addr} {fl : List Str} {fd : FuncData} {i : Nat} {body suite : List Stmt} {b₀ : Stmt} {np pos pos' : Pos} {t : (Env → DXQ) → DTS} {k : List (Str × D) → DTS}
theorem ds_tryAs (T : ExC X.K X.mg x fl C fI fd) (hN : X.N.Nodup) (hi : X.N[i]? = some n) (hln : X.env.kindOf n = some .local)
    (hb : ∀ (B' : Base) (PXE : Env → DXQ) (W : WX) (pn : List (Addr × Obj)) (xe : Value → Shared → Prop), Takes (X.tr pn xe) W → PassesOwn (model X.prog X.w) X.A X.env xe → XWish X.K B' PXE W → PSs (X.tr pn xe) body (liftS X.K B' (t PXE)))
    (hsu : ∀ (a : Addr) (oe : Obj) (cls : Value) (d : Option Addr) (pn : List (Addr × Obj)), Zc cls d oe → (∃ vs, oe.data = .fields vs) → PSs (X.suite a ((a, oe) :: pn)) (b₀ :: suite) (liftX X.K C i a cls d k))
    (hg : Gl X x := by rfl) (hdb : (x == ("__debug__" : Str)) = false := by decide) (hs : X.stack = X.env :: X.outer := by rfl) (hf : X.env.frame = some X.env.locals := by rfl) :
    PS X (.Try body [.ExceptHandler (some (.Name x np)) (some n) (b₀ :: suite) pos'] [] [] pos) (liftS X.K B (dTry C i t k)) := by
  have R := ps_try_as (X := X) (x := x) (c := .ref C) (i := i) (np := np) (pos := pos) (pos' := pos') (tb := fun W E σ H => ∃ (B' : Base) (PXE : Env → DXQ), XWish X.K B' PXE W ∧ liftS X.K B' (t PXE) E σ H) (ts := fun a cls d => liftX X.K C i a cls d k) (Wout := fun _ _ _ _ => False)
    hs hf hN hi hln ⟨hg, hdb, .inl T.gC⟩ takes_none5 (fun W pn xe tk po => ⟨fun pins s σ H D I h => by
      obtain ⟨B', PXE, hE, h⟩ := h
      exact (hb B' PXE W pn xe tk po hE).run pins s σ H D I h⟩) hsu
  refine PS.imp R fun σ H D h => ?_
  obtain ⟨φ, δ, S, P, ex, rs, rh, ht, le⟩ := h
  refine ⟨⟨φ, H⟩, _, fun σ' φ' H' δ' ex' rs' φ2 H2 S2 cls d fs vs ex2 rh2 hd hdn rf hq => ?_, φ, δ, S, P, .refl, rs, rh, ht, le⟩
  obtain ⟨hcls, hi', hk⟩ := hq
  subst hcls
  refine ⟨true, T.ex, fun _ a ha => ?_, fun z => nomatch z⟩
  exact ⟨φ2, δ'.set i none, S2, _, d, fs, vs, rfl, rfl, List.getElem?_set_self (by rw [rs'.len]; exact hi'), (rs'.ext ex2).exc i _, rh2, hd, hdn, rf, hk, (le.ext (ex'.trans ex2)).clr i⟩
/-- the suite «return (c, n.f)» -/
def kRet1 (c f : Str) (fs : List (Str × D)) (P : DEnds) (_ : Env) (S : Store) : Prop := ∃ d, fs.lookup f = some d ∧ P.rt (.tup [.str c, d]) S
theorem su_ret1 {a : Addr} {oe : Obj} {cls : Value} {d : Option Addr} {pn : List (Addr × Obj)} {c f : Str} {j : Nat} {p1 p2 p3 p4 p5 : Pos} {x1 : Nat} (T : ExC X.K X.mg x fl C fI fd) (hfl : f ∈ fl) (hi : X.N[i]? = some n) (hv : Vis X.env.scope n) (hd : (n == ("__debug__" : Str)) = false) (hcd : (n == ("__classdict__" : Str)) = false)
    (hz : Zc cls d oe) (hf : ∃ vs, oe.data = .fields vs) : PSs (X.suite a ((a, oe) :: pn)) [.Return (some (.Tuple [.Constant (.str c) j p1, .Attribute (.Name n p2) f p3] x1 p4)) p5] (liftX X.K C i a cls d (kRet1 c f)) := by
  refine PSs.imp (pss_cons (ps_ret (pe_tup (pa_cons pe_str (pa_cons (pe_xf T.xf (T.no f hfl) hz hf (pe_var (i := i) hi hv hd hcd)) pa_nil)))) pss_nil) fun σ H E h => ?_
  obtain ⟨φ, δ, S, P, dd, fs, vs, e1, e2, e3, rs, rh, hx, hn, rf, ⟨v, hl, q⟩, le⟩ := h
  obtain ⟨u, hu, ru⟩ := rf_look rf hl
  refine ⟨_, e3, rfl, e1, dd, vs, u, e2, hx, hu, by rw [sizeLine_eq]; show 2 ≤ 16777216; decide, fun p hp => ?_⟩
  exact le.rt φ _ _ _ S (Ext.side hp) (rh.side hp) (RDs.mk_tup hp (.cons (.str c) (.cons ru .nil))) q
end
theorem dRaise_eq {C : Addr} {fl : List Str} {PXE : Env → DXQ} {t : DTA} {E : DEnds} {δ : Env} {S : Store} : dRaise C fl PXE t E δ S = t δ S fun xs S1 => xs.length = fl.length ∧ xs.length ≤ 1000 ∧ PXE δ (.ref C) (fl.zip xs).reverse S1 := Eq.trans rfl rfl
theorem dCallX_eq {dsp : DSp} {es' : List D} {PXE : Env → DXQ} {t : DTA} {δ : Env} {S : Store} {Q : DQ} : dCallX dsp es' PXE t δ S Q = t δ S fun ds S1 => dsp (ds ++ es') S1 Q (PXE δ) := Eq.trans rfl rfl
theorem dTry_eq {C : Addr} {i : Nat} {t : (Env → DXQ) → DTS} {k : List (Str × D) → DTS} {P : DEnds} {δ : Env} {S : Store} : dTry C i t k P δ S = t (fun δ' cls fs S' => cls = .ref C ∧ i < δ'.length ∧ k fs (clrE i P) (δ'.set i none) S') P δ S := Eq.trans rfl rfl
end DL

set_option Elab.async false
set_option linter.all false
set_option maxRecDepth 100000
set_option autoImplicit false
namespace DL
open PySem PySem.Spec L2

/-! ## x in a list of data of any depth -/
def dInD (neg : Bool) (x y : D) (S : Store) (Q : DQ) : Prop := ∃ (d : PyData) (ds : List PyData), Py S x d ∧ Py S y (.list ds) ∧ SeqAt.shaped d = true ∧ SeqAt.shaped (.list ds) = true ∧ Q (.bl (if neg then !(ds.any fun z => PyData.eqv z d) else ds.any fun z => PyData.eqv z d)) S
theorem dInD_ok {K : PySem.W.Frag} : Snd2 K (dInD false) (rInD K) := fun φ H S x y v w P Q rh rx ry ⟨d, ds, hx, hy, s1, s2, h⟩ k => ⟨d, ds, hx.dp rh rx, hy.dp rh ry, s1, s2, k φ H _ _ S .refl rh (.bl _) h⟩
theorem dNotInD_ok {K : PySem.W.Frag} : Snd2 K (dInD true) (rNotInD K) := fun φ H S x y v w P Q rh rx ry ⟨d, ds, hx, hy, s1, s2, h⟩ k => ⟨d, ds, hx.dp rh rx, hy.dp rh ry, s1, s2, k φ H _ _ S .refl rh (.bl _) h⟩
section
variable {X : Cx} {B : Base} {a b : Expr} {ta tb : DT} {p pos : Pos} {k : Nat}
theorem hu65 {A : Around} (hr : Room k A) : A.units + 65 < cLine := by
  have := hr.un
  omega
theorem de_inD (hr : Room k X.A) (ha : PE X a (lift X.K B ta)) (hb : PE X b (lift X.K B tb)) (hm : behindInMarks .In b = false := by rfl) : PE X (.Compare a [.In] [b] pos) (lift X.K B (dOp (dInD false) ta tb)) := de_cmp dInD_ok (op_inD (hu65 hr)) ha hb hm
theorem de_notInD (hr : Room k X.A) (ha : PE X a (lift X.K B ta)) (hb : PE X b (lift X.K B tb)) (hm : behindInMarks .NotIn b = false := by rfl) : PE X (.Compare a [.NotIn] [b] pos) (lift X.K B (dOp (dInD true) ta tb)) := de_cmp dNotInD_ok (op_notInD (hu65 hr)) ha hb hm
theorem dt_inD (hr : Room k X.A) (ha : PE X a (lift X.K B ta)) (hb : PE X b (lift X.K B tb)) (hm : behindInMarks .In b = false := by rfl) : PT X (.Compare a [.In] [b] pos) (liftT X.K B (dTest (dOp (dInD false) ta tb))) := dt_cmp dInD_ok (op_inD (hu65 hr)) ha hb hm
theorem dt_notInD (hr : Room k X.A) (ha : PE X a (lift X.K B ta)) (hb : PE X b (lift X.K B tb)) (hm : behindInMarks .NotIn b = false := by rfl) : PT X (.Compare a [.NotIn] [b] pos) (liftT X.K B (dTest (dOp (dInD true) ta tb))) := dt_cmp dNotInD_ok (op_notInD (hu65 hr)) ha hb hm
/-! ## min of a kept list of ints -/
def dMinV : D1
  | .ref n, S, Q => dLst S n fun xs => ∃ ns : List Int, xs = ns.map .int ∧ 0 < ns.length ∧ ∀ m, m ∈ ns → (∀ y, y ∈ ns → m ≤ y) → Q (.int m) S
  | _, _, _ => False
theorem dMinV_r {n : Nat} {S : Store} {Q : DQ} : dMinV (.ref n) S Q = dLst S n fun xs => ∃ ns : List Int, xs = ns.map .int ∧ 0 < ns.length ∧ ∀ m, m ∈ ns → (∀ y, y ∈ ns → m ≤ y) → Q (.int m) S := Eq.trans rfl rfl
theorem dMinV_ok {K : PySem.W.Frag} : SndN K (one dMinV) (rMin K) := snd_one fun φ H S x v P Q rh rx h k => by
  cases x with
  | ref n =>
    cases rx with
    | ref hn =>
      obtain ⟨xs, vs, ⟨ns, rfl, h0, q⟩, hl, r⟩ := dLst_at rh hn (show dLst S n _ from h)
      rw [r.ints_of] at hl
      exact ⟨_, ns, rfl, hl, h0, fun m h1 h2 => k φ H _ _ S .refl rh (.int _) (q m h1 h2)⟩
  | _ => exact (show False from h).elim
theorem de_min (hm : X.mg "min" = none) (ha : PE X a (lift X.K B ta)) (hc : X.calm = true := by rfl) (hg : Gl X "min" := by rfl) (he : starEach [a] X.env = [(false, eval a X.env)] := by rfl) :
    PE X (.Call (.Name "min" p) [a] [] pos) (lift X.K B (dUn dMinV ta)) := de_b1 dMinV_ok (cr_min hc) PyProof.Rows.boot_min hm ha hg (by decide) (by decide) he
end
end DL

set_option Elab.async false
set_option linter.all false
set_option maxRecDepth 100000
set_option autoImplicit false
namespace DL
open PySem PySem.Spec L2

/-! ## try .. except C, without a name; two clauses -/
def dTryO (C : Addr) (t : (Env → DXQ) → DTS) (k : DTS) (P : DEnds) (δ : Env) (S : Store) : Prop := t (fun δ' cls _ S' => cls = .ref C ∧ k P δ' S') P δ S
def dTry2 (C C' : Addr) (t : (Env → DXQ) → DTS) (k k' : DTS) (P : DEnds) (δ : Env) (S : Store) : Prop := t (fun δ' cls _ S' => (cls = .ref C ∧ k P δ' S') ∨ (cls = .ref C' ∧ k' P δ' S')) P δ S
theorem dTryO_eq {C : Addr} {t : (Env → DXQ) → DTS} {k : DTS} {P : DEnds} {δ : Env} {S : Store} : dTryO C t k P δ S = t (fun δ' cls _ S' => cls = .ref C ∧ k P δ' S') P δ S := Eq.trans rfl rfl
theorem dTry2_eq {C C' : Addr} {t : (Env → DXQ) → DTS} {k k' : DTS} {P : DEnds} {δ : Env} {S : Store} : dTry2 C C' t k k' P δ S = t (fun δ' cls _ S' => (cls = .ref C ∧ k P δ' S') ∨ (cls = .ref C' ∧ k' P δ' S')) P δ S := Eq.trans rfl rfl
/-- a class does not catch another one -/
theorem exm_other {K : PySem.W.Frag} {C C' : Addr} (h1 : PySem.W.subIn K (.ref C') (.type "BaseException") = some true) (h2 : PySem.W.isClsIn K C' = true) (h3 : PySem.W.typeIn K (.ref C') = some (.type "type")) (h4 : PySem.W.subIn K (.ref C) (.ref C') = some false) : PySem.W.exmOne K (.ref C) (.ref C') = some false := by
  have h2' : (PySem.W.clsIn K C').isSome = true := h2
  simp [PySem.W.exmOne, PySem.W.kitCls, h1, h2', h3, h4]
section
variable {X : Cx} {B : Base} {x x' : Str} {C C' fI fI' : Addr} {fl fl' : List Str} {fd fd' : FuncData} {body suite suite' : List Stmt} {b₀ b₁ : Stmt} {np np' pos pos' pos2 : Pos} {t : (Env → DXQ) → DTS} {k k' : DTS}
theorem ds_tryOnly (T : ExC X.K X.mg x fl C fI fd)
    (hb : ∀ (B' : Base) (PXE : Env → DXQ) (W : WX) (pn : List (Addr × Obj)) (xe : Value → Shared → Prop), Takes (X.tr pn xe) W → PassesOwn (model X.prog X.w) X.A X.env xe → XWish X.K B' PXE W → PSs (X.tr pn xe) body (liftS X.K B' (t PXE)))
    (hsu : ∀ (B' : Base) (a : Addr) (oe : Obj) (pn : List (Addr × Obj)), PSs (X.suite a ((a, oe) :: pn)) (b₀ :: suite) (liftS X.K B' k))
    (hg : Gl X x := by rfl) (hdb : (x == ("__debug__" : Str)) = false := by decide) (hs : X.stack = X.env :: X.outer := by rfl) (hf : X.env.frame = some X.env.locals := by rfl) :
    PS X (.Try body [.ExceptHandler (some (.Name x np)) none (b₀ :: suite) pos'] [] [] pos) (liftS X.K B (dTryO C t k)) := by
  have R := ps_try_only (X := X) (x := x) (c := .ref C) (np := np) (pos := pos) (pos' := pos') (tb := fun W E σ H => ∃ (B' : Base) (PXE : Env → DXQ), XWish X.K B' PXE W ∧ liftS X.K B' (t PXE) E σ H) (ts := fun _ _ _ E σ H => ∃ B' : Base, liftS X.K B' k E σ H) (Wout := fun _ _ _ _ => False)
    hs hf ⟨hg, hdb, .inl T.gC⟩ takes_none5 (fun W pn xe tk po => ⟨fun pins s σ H D I h => by
      obtain ⟨B', PXE, hE, h⟩ := h
      exact (hb B' PXE W pn xe tk po hE).run pins s σ H D I h⟩) (fun a oe cls d pn _ _ => ⟨fun pins s σ H D I h => by
      obtain ⟨B', h⟩ := h
      exact (hsu B' a oe pn).run pins s σ H D I h⟩)
  refine PS.imp R fun σ H D h => ?_
  obtain ⟨φ, δ, S, P, ex, rs, rh, ht, le⟩ := h
  refine ⟨⟨φ, H⟩, _, fun σ' φ' H' δ' ex' rs' φ2 H2 S2 cls d fs vs ex2 rh2 hd hdn rf hq => ?_, φ, δ, S, P, .refl, rs, rh, ht, le⟩
  obtain ⟨hcls, hk⟩ := hq
  subst hcls
  exact ⟨true, T.ex, fun _ a ha => ⟨⟨φ2, H2⟩, φ2, δ', S2, P, .refl, rs'.ext ex2, rh2, hk, le.ext (ex'.trans ex2)⟩, fun z => nomatch z⟩
theorem ds_try2 (T : ExC X.K X.mg x fl C fI fd) (T' : ExC X.K X.mg x' fl' C' fI' fd') (ne : PySem.W.exmOne X.K (.ref C') (.ref C) = some false)
    (hb : ∀ (B' : Base) (PXE : Env → DXQ) (W : WX) (pn : List (Addr × Obj)) (xe : Value → Shared → Prop), Takes (X.tr pn xe) W → PassesOwn (model X.prog X.w) X.A X.env xe → XWish X.K B' PXE W → PSs (X.tr pn xe) body (liftS X.K B' (t PXE)))
    (hsu : ∀ (B' : Base) (a : Addr) (oe : Obj) (pn : List (Addr × Obj)), PSs (X.suite a ((a, oe) :: pn)) (b₀ :: suite) (liftS X.K B' k)) (hsu' : ∀ (B' : Base) (a : Addr) (oe : Obj) (pn : List (Addr × Obj)), PSs (X.suite a ((a, oe) :: pn)) (b₁ :: suite') (liftS X.K B' k'))
    (hg : Gl X x := by rfl) (hg' : Gl X x' := by rfl) (hdb : (x == ("__debug__" : Str)) = false := by decide) (hdb' : (x' == ("__debug__" : Str)) = false := by decide) (hs : X.stack = X.env :: X.outer := by rfl) (hf : X.env.frame = some X.env.locals := by rfl) :
    PS X (.Try body [.ExceptHandler (some (.Name x np)) none (b₀ :: suite) pos', .ExceptHandler (some (.Name x' np')) none (b₁ :: suite') pos2] [] [] pos) (liftS X.K B (dTry2 C C' t k k')) := by
  have lift' : ∀ (kk : DTS) (st : List Stmt), (∀ (B' : Base) (a : Addr) (oe : Obj) (pn : List (Addr × Obj)), PSs (X.suite a ((a, oe) :: pn)) st (liftS X.K B' kk)) → ∀ (a : Addr) (oe : Obj) (cls : Value) (d : Option Addr) (pn : List (Addr × Obj)), Zc cls d oe → (∃ vs, oe.data = .fields vs) → PSs (X.suite a ((a, oe) :: pn)) st (fun E σ H => ∃ B' : Base, liftS X.K B' kk E σ H) :=
    fun kk st hh a oe cls d pn _ _ => ⟨fun pins s σ H D I h => by
      obtain ⟨B', h⟩ := h
      exact (hh B' a oe pn).run pins s σ H D I h⟩
  have R := ps_try_many (X := X) (pos := pos) (tb := fun W E σ H => ∃ (B' : Base) (PXE : Env → DXQ), XWish X.K B' PXE W ∧ liftS X.K B' (t PXE) E σ H) (Wout := fun _ _ _ _ => False) hs hf takes_none5 (fun W pn xe tk po => ⟨fun pins s σ H D I h => by
      obtain ⟨B', PXE, hE, h⟩ := h
      exact (hb B' PXE W pn xe tk po hE).run pins s σ H D I h⟩)
    (HdsOk.cons (np := np) (pos' := pos') ⟨hg, hdb, .inl T.gC⟩ (lift' k _ hsu) (HdsOk.cons (np := np') (pos' := pos2) ⟨hg', hdb', .inl T'.gC⟩ (lift' k' _ hsu') .nil))
  refine PS.imp R fun σ H D h => ?_
  obtain ⟨φ, δ, S, P, ex, rs, rh, ht, le⟩ := h
  refine ⟨⟨φ, H⟩, _, fun σ' φ' H' δ' ex' rs' φ2 H2 S2 cls d fs vs ex2 rh2 hd hdn rf hq => ?_, φ, δ, S, P, .refl, rs, rh, ht, le⟩
  rcases hq with ⟨hcls, hk⟩ | ⟨hcls, hk⟩
  · subst hcls
    exact ⟨true, T.ex, fun _ a ha => ⟨⟨φ2, H2⟩, φ2, δ', S2, P, .refl, rs'.ext ex2, rh2, hk, le.ext (ex'.trans ex2)⟩, fun z => nomatch z⟩
  · subst hcls
    exact ⟨false, ne, (fun z => nomatch z), fun _ => ⟨true, T'.ex, fun _ a ha => ⟨⟨φ2, H2⟩, φ2, δ', S2, P, .refl, rs'.ext ex2, rh2, hk, le.ext (ex'.trans ex2)⟩, fun z => nomatch z⟩⟩
end
end DL

set_option Elab.async false
set_option linter.all false
set_option maxRecDepth 100000
set_option autoImplicit false
namespace DL
open PySem PySem.Spec L2

/-! ## k in d, d.get(k, x) -/
theorem RK.get {K : PySem.W.Frag} {φ : List Addr} {H : Hp} {j : Key} : ∀ {ds : List (Key × D)} {vs : List (Key × V)}, RK K φ H ds vs → (dval ds j = none ∧ valV vs j = none) ∨ ∃ d v, dval ds j = some d ∧ valV vs j = some v ∧ RD K φ H d v
  | [], _, .nil => .inl ⟨rfl, valV_nil⟩
  | (k, d) :: r, (_, v) :: vs, .cons h t => by
    unfold dval
    by_cases hk : k = j
    · exact .inr ⟨d, v, if_pos hk, valV_pos hk, h⟩
    · rw [if_neg hk, valV_neg hk]
      exact RK.get t
def isK : D → (Key → Prop) → Prop
  | .int i, k => k (.inl i)
  | .str x, k => k (.inr x)
  | _, _ => False
theorem isK_i {i : Int} {k : Key → Prop} : isK (.int i) k = k (.inl i) := Eq.trans rfl rfl
theorem isK_s {x : Str} {k : Key → Prop} : isK (.str x) k = k (.inr x) := Eq.trans rfl rfl
theorem isK_at {K : PySem.W.Frag} {φ : List Addr} {H : Hp} {d : D} {v : V} {k : Key → Prop} (r : RD K φ H d v) (h : isK d k) : ∃ j, v = kV j ∧ k j := by
  cases d with
  | int i => cases r; exact ⟨.inl i, rfl, h⟩
  | str i => cases r; exact ⟨.inr i, rfl, h⟩
  | _ => exact (show False from h).elim
def isRf : D → (Nat → Prop) → Prop
  | .ref n, k => k n
  | _, _ => False
theorem isRf_r {n : Nat} {k : Nat → Prop} : isRf (.ref n) k = k n := Eq.trans rfl rfl
theorem isRf_at {K : PySem.W.Frag} {φ : List Addr} {H : Hp} {d : D} {v : V} {k : Nat → Prop} (r : RD K φ H d v) (h : isRf d k) : ∃ n a, d = .ref n ∧ v = .ref a ∧ φ[n]? = some a ∧ k n := by
  cases d with
  | ref n => cases r with | ref hn => exact ⟨n, _, rfl, rfl, hn, h⟩
  | _ => exact (show False from h).elim
def dDIn (neg : Bool) (ti to : DT) (δ : Env) (S : Store) (Q : DQ) : Prop := ti δ S fun i S1 => to δ S1 fun o S2 => isRf o fun n => isK i fun k => dDic S2 n fun kvs => Q (.bl (if neg then !(dval kvs k).isSome else (dval kvs k).isSome)) S2
def dDGet2 (to ti tx : DT) (δ : Env) (S : Store) (Q : DQ) : Prop := to δ S fun o S1 => isRf o fun n => dDic S1 n fun _ => ti δ S1 fun i S2 => tx δ S2 fun x S3 => isK i fun k => dDic S3 n fun kvs => Q ((dval kvs k).getD x) S3
theorem dDIn_eq {neg : Bool} {ti to : DT} {δ : Env} {S : Store} {Q : DQ} : dDIn neg ti to δ S Q = ti δ S fun i S1 => to δ S1 fun o S2 => isRf o fun n => isK i fun k => dDic S2 n fun kvs => Q (.bl (if neg then !(dval kvs k).isSome else (dval kvs k).isSome)) S2 := Eq.trans rfl rfl
theorem dDGet2_eq {to ti tx : DT} {δ : Env} {S : Store} {Q : DQ} : dDGet2 to ti tx δ S Q = to δ S fun o S1 => isRf o fun n => dDic S1 n fun _ => ti δ S1 fun i S2 => tx δ S2 fun x S3 => isK i fun k => dDic S3 n fun kvs => Q ((dval kvs k).getD x) S3 := Eq.trans rfl rfl
section
variable {X : Cx} {B : Base} {o i e f : Expr} {to ti tx : DT} {pos apos cpos : Pos} {k : Nat}
theorem pc_dInD (hr : Room k X.A) (hi : PE X i (lift X.K B ti)) (ho : PE X o (lift X.K B to)) (neg : Bool) {op : CmpOp} (hop : op = if neg then .NotIn else .In) : PC X op i o (lift X.K B (dDIn neg ti to)) := by
  subst hop
  have body : ∀ σ H Q, lift X.K B (dDIn neg ti to) σ H Q → lift X.K B ti σ H fun y H1 => lift X.K B to σ H1 fun x H2 => ∃ a ov, x = .ref a ∧ DGet H2 a y ov ∧ Q (.bl (if neg then !ov.isSome else ov.isSome)) H2 := fun σ H Q h => by
    obtain ⟨φ, δ, S, P, ex, rs, rh, t, kk⟩ := h
    refine ⟨φ, δ, S, _, ex, rs, rh, t, fun φ1 H1 x v S1 e1 rh1 rx q1 => ⟨φ1, δ, S1, _, ex.trans e1, rs.ext e1, rh1, q1, fun φ2 H2 y w S2 e2 rh2 ry q2 => ?_⟩⟩
    obtain ⟨n, a, rfl, rfl, hn, q2⟩ := isRf_at ry q2
    obtain ⟨j, rfl, q2⟩ := isK_at rx q2
    obtain ⟨kvs, vs, _, q, eh, r⟩ := dDic_at rh2 hn q2
    rcases r.get (j := j) with ⟨h1, h2⟩ | ⟨d, u, h1, h2, ru⟩
    · refine ⟨a, none, rfl, by rw [← h2]; exact DGet.k eh, ?_⟩
      rw [h1] at q
      exact kk φ2 H2 _ _ S2 (e1.trans e2) rh2 (.bl _) q
    · refine ⟨a, some u, rfl, by rw [← h2]; exact DGet.k eh, ?_⟩
      rw [h1] at q
      exact kk φ2 H2 _ _ S2 (e1.trans e2) rh2 (.bl _) q
  cases neg with
  | true => exact ⟨fun pins s σ H Q I h => (pc_dnotin (hu_of hr) hi ho).run pins s σ H Q I (body σ H Q h)⟩
  | false => exact ⟨fun pins s σ H Q I h => (pc_din (hu_of hr) hi ho).run pins s σ H Q I (body σ H Q h)⟩
theorem de_dget2 (hr : Room k X.A) (ho : PE X o (lift X.K B to)) (hi : PE X e (lift X.K B ti)) (hf : PE X f (lift X.K B tx)) (m : M2 X o "get" apos e f cpos) : PE X (.Call (.Attribute o "get" apos) [e, f] [] cpos) (lift X.K B (dDGet2 to ti tx)) :=
  PE.imp (pe_dget2 (hu_of hr) ho hi hf m) fun σ H Q h => by
    obtain ⟨φ, δ, S, P, ex, rs, rh, t, kk⟩ := h
    refine ⟨φ, δ, S, _, ex, rs, rh, t, fun φ1 H1 x v S1 e1 rh1 rx q1 => ?_⟩
    obtain ⟨n, a, rfl, rfl, hn, q1⟩ := isRf_at rx q1
    obtain ⟨_, vs1, _, q1, eh1, _⟩ := dDic_at rh1 hn q1
    refine ⟨a, rfl, .inl ⟨vs1, .inl eh1⟩, φ1, δ, S1, _, ex.trans e1, rs.ext e1, rh1, q1, fun φ2 H2 y w S2 e2 rh2 ry q2 => ⟨φ2, δ, S2, _, (ex.trans e1).trans e2, (rs.ext e1).ext e2, rh2, q2, fun φ3 H3 z u S3 e3 rh3 rz q3 => ?_⟩⟩
    obtain ⟨j, rfl, q3⟩ := isK_at (ry.ext e3) q3
    obtain ⟨kvs, vs, _, q, eh, r⟩ := dDic_at rh3 (e3.pre _ _ (e2.pre _ _ hn)) q3
    rcases r.get (j := j) with ⟨h1, h2⟩ | ⟨d, u2, h1, h2, ru⟩
    · refine ⟨none, by rw [← h2]; exact DGet.k eh, ?_⟩
      rw [h1] at q
      exact kk φ3 H3 _ _ S3 ((e1.trans e2).trans e3) rh3 rz q
    · refine ⟨some u2, by rw [← h2]; exact DGet.k eh, ?_⟩
      rw [h1] at q
      exact kk φ3 H3 _ _ S3 ((e1.trans e2).trans e3) rh3 ru q
theorem de_inK (hr : Room k X.A) (hi : PE X i (lift X.K B ti)) (ho : PE X o (lift X.K B to)) (hm : behindInMarks .In o = false := by rfl) : PE X (.Compare i [.In] [o] pos) (lift X.K B (dDIn false ti to)) := pe_cmp (pc_dInD hr hi ho false rfl) hm
theorem dt_inK (hr : Room k X.A) (hi : PE X i (lift X.K B ti)) (ho : PE X o (lift X.K B to)) (hm : behindInMarks .In o = false := by rfl) : PT X (.Compare i [.In] [o] pos) (liftT X.K B (dTest (dDIn false ti to))) :=
  PT.imp (pt_cmp (pc_dInD hr hi ho false rfl) hm) fun σ H Q h => by
    obtain ⟨φ, δ, S, P, ex, rs, rh, t, kk⟩ := h
    refine ⟨φ, δ, S, _, ex, rs, rh, t, fun φ1 H1 d v S1 e1 rh1 rd q1 => ?_⟩
    cases d with
    | bl b => cases rd; exact ⟨b, rfl, kk φ1 H1 b S1 e1 rh1 q1⟩
    | _ => exact (show False from q1).elim
/-- {} -/
def dDNew (_ : Env) (S : Store) (Q : DQ) : Prop := Q (.ref S.length) (S ++ [.dic []])
theorem dDNew_eq {δ : Env} {S : Store} {Q : DQ} : dDNew δ S Q = Q (.ref S.length) (S ++ [.dic []]) := Eq.trans rfl rfl
theorem de_dnew : PE X (.Dict [] [] pos) (lift X.K B dDNew) := PE.imp pe_dnewK fun σ H Q h => by
  obtain ⟨φ, δ, S, P, ex, rs, rh, t, kk⟩ := h
  intro p hp
  have e1 : Ext X.K φ φ H (upd H p (.dK [])) := Ext.side hp
  have rh1 : RH X.K φ (upd H p (.dK [])) S := rh.side hp
  exact kk (φ ++ [p]) _ (.ref S.length) (.ref p) _ (e1.adopt hp) (rh1.adopt (rh.notin hp) (show RC X.K φ _ (.dic []) p from ⟨[], upd_same, .nil⟩)) (.ref (by rw [← rh.len]; exact List.getElem?_concat_length)) t
end
end DL

set_option Elab.async false
set_option linter.all false
set_option maxRecDepth 100000
set_option autoImplicit false
namespace DL
open PySem PySem.Spec L2

/-! ## max, min of a list of ints, with a default -/
section
variable {prog : Program} {w : World} {A : Around} {E : Value → Shared → Prop} {R : Result → Shared → Prop} {s : Shared} {J : Addr} {fp wr : List Addr} {n : Nat} {P : Nat → Value → Prop} {St : Nat → Heap → Prop} {kw : List (Str × Value)}
/-- the two things that are held: the best one, and what it is looked at by -/
abbrev heldO (xs : Array Value) (c : Nat) : Obj := { cls := .type "list", dict := none, data := .seq xs c, slots := #[] }
theorem mxd_turns (wk : Walks prog w A.in1 J fp wr n P St) (gt : Nat → Nat → Bool) (cmp : CmpOf prog w A.in1 .Gt P gt) (T : Addr) (out : T ∉ fp) :
    ∀ (k j : Nat) (s : Shared) (b : Value) (c : Nat), n - (j + 1) = k → j + 1 ≤ n → St (j + 1) s.heap → P (argBest gt j) b → s.heap.get? T = some (heldO #[b, b] c) →
      (∀ v h2 t2, P (argBest gt (n - 1)) v → (∀ a o, a ∉ wr → a ≠ T → s.heap.get? a = some o → h2.get? a = some o) → R (.ok (.ret v)) { s with heap := h2, toks := t2 }) →
      codeAny (model prog w) A (.builtin "max.loop" ⟨[.ref J, .none, .ref T], kw⟩) R s := by
  have out2 : T ∉ wr := fun z => out (wk.sub _ z)
  have nm : (toString "max" ++ toString ".loop" : String) = "max.loop" := by decide
  intro k
  induction k with
  | zero =>
    intro j s b c ek hj st pb hT fin
    refine codeAny_builtin F.entry_max_loop (by
      rw [Around.under_plainId F.plain_max_loop _]
      show wpAny _ A.in1 (seqItems? (.ref T) >>= _) _ _ s
      refine wpAny_bind (wpAny_seqItems hT rfl ?_)
      show wpAny _ A.in1 (tryCatch (pyNext (.ref J)) _ >>= _) _ _ s
      refine wpAny_bind (wpAny_tryCatch (wk.done s _ _ ((show j + 1 = n by omega) ▸ st) fun h1 t1 k1 => ?_))
      have hT1 := k1 T _ out2 hT
      show wpAny _ A.in1 (updateSeq T (fun _ => #[]) >>= _) _ _ _
      refine wpAny_bind (wpAny_updateSeq hT1 rfl (wpAny_bind (wpAny_letGo (wpAny_pure ?_))))
      exact fin b _ t1 (by rw [← (show j + 1 = n by omega)]; exact pb) fun a o ha hb e => (Heap.get?_update_other _ _ (Ne.symm hb)).trans (k1 a o ha e))
  | succ k ih =>
    intro j s b c ek hj st pb hT fin
    have lt : j + 1 < n := by omega
    refine codeAny_builtin F.entry_max_loop (by
      rw [Around.under_plainId F.plain_max_loop _]
      show wpAny _ A.in1 (seqItems? (.ref T) >>= _) _ _ s
      refine wpAny_bind (wpAny_seqItems hT rfl ?_)
      show wpAny _ A.in1 (tryCatch (pyNext (.ref J)) _ >>= _) _ _ s
      refine wpAny_bind (wpAny_tryCatch (wk.item (j + 1) s _ _ lt st fun v h1 t1 pv st1 k1 => ?_))
      have hT1 := k1 T _ out2 hT
      show wpAny _ A.in1 (tryCatch (holding [v, v] (richCompare .Gt v b >>= _)) _ >>= _) _ _ _
      refine wpAny_bind (wpAny_tryCatch (wpAny_holding (wpAny_bind (cmp (j + 1) (argBest gt j) v b _ _ _ pv pb ?_))))
      refine wpAny_bind (wpAny_holding (wpAny_truthy_bool ?_))
      refine wpAny_bind (wpAny_letGo (wpAny_pure ?_))
      cases eb : gt (j + 1) (argBest gt j) with
      | true =>
        simp only [if_true]
        refine wpAny_bind (wpAny_updateSeq hT1 rfl (wpAny_bind (wpAny_letGo ?_)))
        rw [nm]
        refine wpAny_pure ⟨plainId_quiet F.plain_max_loop _, ih (j + 1) _ v _ (by omega) lt (wk.frame _ _ _ st1 fun a ha o e => ?_) (by simp only [argBest, eb, if_true]; exact pv) (Heap.get?_update_self _ hT1 rfl) fun v2 h2 t2 p2 k2 => ?_⟩
        · exact (Heap.get?_update_other _ _ (fun z : T = a => out (by rw [z]; exact ha))).trans e
        · exact fin v2 h2 t2 p2 fun a o ha hb e => k2 a o ha hb ((Heap.get?_update_other _ _ (Ne.symm hb)).trans (k1 a o ha e))
      | false =>
        simp only [Bool.false_eq_true, if_false]
        refine wpAny_bind (wpAny_letGo ?_)
        rw [nm]
        refine wpAny_pure ⟨plainId_quiet F.plain_max_loop _, ih (j + 1) _ b c (by omega) lt st1 (by simp only [argBest, eb, Bool.false_eq_true, if_false]; exact pb) hT1 fun v2 h2 t2 p2 k2 => ?_⟩
        exact fin v2 h2 t2 p2 fun a o ha hb e => k2 a o ha hb (k1 a o ha e))
theorem mxd_first (wk : Walks prog w A.in1 J fp wr n P St) (gt : Nat → Nat → Bool) (cmp : CmpOf prog w A.in1 .Gt P gt) (T : Addr) (out : T ∉ fp) (h0 : 0 < n) {c : Nat} (st : St 0 s.heap) (hT : s.heap.get? T = some (heldO #[] c))
    (fin : ∀ v h2 t2, P (argBest gt (n - 1)) v → (∀ a o, a ∉ wr → a ≠ T → s.heap.get? a = some o → h2.get? a = some o) → R (.ok (.ret v)) { s with heap := h2, toks := t2 }) :
    codeAny (model prog w) A (.builtin "max.loop" ⟨[.ref J, .none, .ref T], kw⟩) R s := by
  have out2 : T ∉ wr := fun z => out (wk.sub _ z)
  have nm : (toString "max" ++ toString ".loop" : String) = "max.loop" := by decide
  refine codeAny_builtin F.entry_max_loop (by
    rw [Around.under_plainId F.plain_max_loop _]
    show wpAny _ A.in1 (seqItems? (.ref T) >>= _) _ _ s
    refine wpAny_bind (wpAny_seqItems hT rfl ?_)
    show wpAny _ A.in1 (tryCatch (pyNext (.ref J)) _ >>= _) _ _ s
    refine wpAny_bind (wpAny_tryCatch (wk.item 0 s _ _ h0 st fun v h1 t1 pv st1 k1 => ?_))
    have hT1 := k1 T _ out2 hT
    show wpAny _ A.in1 (updateSeq T (fun _ => #[v, v]) >>= _) _ _ _
    refine wpAny_bind (wpAny_updateSeq hT1 rfl ?_)
    rw [nm]
    refine wpAny_pure ⟨plainId_quiet F.plain_max_loop _, mxd_turns wk gt cmp T out _ 0 _ v _ rfl h0 (wk.frame _ _ _ st1 fun a ha o e => ?_) pv (Heap.get?_update_self _ hT1 rfl) fun v2 h2 t2 p2 k2 => ?_⟩
    · exact (Heap.get?_update_other _ _ (fun z : T = a => out (by rw [z]; exact ha))).trans e
    · exact fin v2 h2 t2 p2 fun a o ha hb e => k2 a o ha hb ((Heap.get?_update_other _ _ (Ne.symm hb)).trans (k1 a o ha e)))
/-- of none: the default -/
theorem mxd_none (wk : Walks prog w A.in1 J fp wr n P St) (T : Addr) (out : T ∉ fp) (h0 : n = 0) {c : Nat} {x : Str} {d : Value} (st : St 0 s.heap) (hT : s.heap.get? T = some (heldO #[] c))
    (fin : ∀ h2 t2, (∀ a o, a ∉ wr → a ≠ T → s.heap.get? a = some o → h2.get? a = some o) → R (.ok (.ret d)) { s with heap := h2, toks := t2 }) :
    codeAny (model prog w) A (.builtin "max.loop" ⟨[.ref J, .none, .ref T], [(x, d)]⟩) R s := by
  refine codeAny_builtin F.entry_max_loop (by
    rw [Around.under_plainId F.plain_max_loop _]
    show wpAny _ A.in1 (seqItems? (.ref T) >>= _) _ _ s
    refine wpAny_bind (wpAny_seqItems hT rfl ?_)
    show wpAny _ A.in1 (tryCatch (pyNext (.ref J)) _ >>= _) _ _ s
    refine wpAny_bind (wpAny_tryCatch (wk.done s _ _ (h0 ▸ st) fun h1 t1 k1 => ?_))
    exact wpAny_bind (wpAny_rule (wpAny_pure (fin h1 t1 fun a o ha _ e => k1 a o ha e))))
/-- a built-in function by keywords, that may go on -/
theorem tree_kw {id : String} {b : Builtin} {args : List Value} {Q : Value → Shared → Prop} (hk : builtinKind id = none) (hp : plainId id = true) (hb : entryFor table id = some b) (ha : argsOk id ⟨args, kw⟩)
    (h : wpAny (model prog w) A.in1 (b ⟨args, kw⟩) (fun f s2 => match f with
      | .done z => (match (Except.ok z : Result) with | .ok (.ret v) => Q v s2 | .ok _ => False | .error e => E e s2)
      | .again c2 => c2.quiet = true ∧ codeAny (model prog w) A c2 (fun r s3 => match r with | .ok (.ret v) => Q v s3 | .ok _ => False | .error e => E e s3) s2) E s) : wpAny (model prog w) A (call (.builtin id) args kw) Q E s := by
  refine wpAny_call (codeAny_call_builtin hp hb (by
    simp only [checkBuiltinCall, hk]
    cases sg : Manifest.signature? id with
    | none => exact wpAny_pure h
    | some sig =>
      have e : Bind.checkArgs id sig ⟨args, kw⟩ = pure () := by simpa only [argsOk, sg] using ha
      simp only [e]
      exact wpAny_pure h))
theorem argsMaxD (a d : Value) : argsOk "max" ⟨[a], [(Str.ofString "default", d)]⟩ := by unfold argsOk; kernel_rfl
theorem maxd_list {l : Addr} {xs : Array (Int × Tok)} {d : Value} {Q : Value → Shared → Prop} (hh : A.handled = none) (hl : s.heap.IsList l (intItems xs))
    (none_ : xs.size = 0 → ∀ h2 t2, (∀ a o, s.heap.get? a = some o → h2.get? a = some o) → Q d { s with heap := h2, toks := t2 })
    (some_ : 0 < xs.size → ∀ v h2 t2, (intItems xs)[argBest (fun i j => decide (numAt xs i > numAt xs j)) (xs.size - 1)]? = some v → (∀ a o, s.heap.get? a = some o → h2.get? a = some o) → Q v { s with heap := h2, toks := t2 }) :
    wpAny (model prog w) A (call (.builtin "max") [.ref l] [(Str.ofString "default", d)]) Q E s := by
  have nm : (toString "max" ++ toString ".loop" : String) = "max.loop" := by decide
  refine tree_kw F.kind_max F.plain_max F.entry_max (argsMaxD _ _) ?_
  show wpAny _ A.in1 (Builtin.Builtins.bindParams "max" ["key", "default"] 0 ⟨[], [(Str.ofString "default", d)]⟩ >>= _) _ _ s
  refine wpAny_bind (wpAny_of_eq (show Builtin.Builtins.bindParams "max" ["key", "default"] 0 ⟨[], [(Str.ofString "default", d)]⟩ = pure [none, some d] from by first | rfl | kernel_rfl) ?_)
  refine wpAny_bind (wpAny_pure (wpAny_bind (iter_intList hl fun s2 e2 st2 fp2 ne2 => ?_)))
  subst e2
  refine wpAny_bind (wpAny_newObj_type ?_)
  rw [nm]
  have W := Walks.list (prog := prog) (w := w) (A := A.in1) hh s.heap.objs.size l ne2 (intItems xs)
  have out : (s.heap.push { cls := .type "list_iterator", data := .fields #[.ref l, .int 0 0] }).objs.size ∉ [s.heap.objs.size, l] := fun z => Nat.lt_irrefl _ (fp2 _ z)
  have kept : ∀ {h2 : Heap}, (∀ a o, a ∉ [s.heap.objs.size] → a ≠ (s.heap.push { cls := .type "list_iterator", data := .fields #[.ref l, .int 0 0] }).objs.size →
      ((s.heap.push { cls := .type "list_iterator", data := .fields #[.ref l, .int 0 0] }).push { cls := .type "list", data := .seq #[] }).get? a = some o → h2.get? a = some o) → ∀ a o, s.heap.get? a = some o → h2.get? a = some o := fun {h2} k a o e => by
    have la := Heap.lt_size e
    refine k a o (fun z => ?_) (fun z => ?_) (Heap.get?_push_of_some _ (Heap.get?_push_of_some _ e))
    · rw [List.mem_singleton.mp z] at la; exact Nat.lt_irrefl _ la
    · rw [z, Heap.size_push] at la; exact Nat.lt_irrefl _ (Nat.lt_of_succ_lt la)
  have st3 := W.frame _ _ _ st2 fun a _ o e => Heap.get?_push_of_some (h := s.heap.push { cls := .type "list_iterator", data := .fields #[.ref l, .int 0 0] }) { cls := .type "list", data := .seq #[] } e
  by_cases hz : 0 < xs.size
  · refine wpAny_pure ⟨plainId_quiet F.plain_max_loop _, mxd_first W (fun i j => decide (numAt xs i > numAt xs j)) (CmpOf.ints_gt (numAt xs) (fun _ _ => intItems_at)) _ out (by simpa [intItems] using hz) st3 (Heap.get?_push_size _ rfl) fun v h2 t2 pv k2 => ?_⟩
    exact some_ hz v h2 t2 (by simpa [intItems] using pv) (kept k2)
  · refine wpAny_pure ⟨plainId_quiet F.plain_max_loop _, mxd_none W _ out (by simp only [intItems, Array.size_map]; omega) st3 (Heap.get?_push_size _ rfl) fun h2 t2 k2 => ?_⟩
    exact none_ (by omega) h2 t2 (kept k2)
end
/-- max(xs, default=d) -/
def rMaxDf (K : PySem.W.Frag) : List V → List V → Hp → VK → Prop := fun vs zs H Q => ∃ (a : Addr) (ns : List Int) (d : V), vs = [V.ref a] ∧ zs = [d] ∧ SqL K H a (ns.map V.int) ∧ (ns = [] → Q d H) ∧ (0 < ns.length → ∀ m, m ∈ ns → (∀ y, y ∈ ns → y ≤ m) → Q (.int m) H)
theorem cr_maxDf {X : Cx} (hc : X.calm = true) : CallRK X (.builtin "max") [Str.ofString "default"] (rMaxDf X.K) := by
  intro pins s σ H vs zs us ws Q I r rz h
  obtain ⟨a, ns, d, rfl, rfl, hs, q0, q1⟩ := h
  obtain rfl := Vals.ref1 r
  obtain ⟨w1, rfl, e1⟩ := vals1 rz
  obtain ⟨its, rv, hl, _⟩ := I.list hs
  have hi := rv.ints
  obtain ⟨xs, e⟩ := hi.allInts.items
  have hn : numsOf (intItems xs).toList = ns := by rw [← e]; exact hi.numsOf
  rw [nums_intItems] at hn
  subst hn
  have hl2 := hl.isList
  rw [e] at hl2
  refine maxd_list (I.ok.hd hc) hl2 (fun z h2 t2 k2 => ?_) fun z v h2 t2 hv k2 => ?_
  · exact ⟨d, H, I.kept k2, e1, q0 (List.eq_nil_of_length_eq_zero (by simpa using z))⟩
  · obtain ⟨t, rfl⟩ := intItems_at hv
    obtain ⟨h3, h4⟩ := argBest_gt (numAt xs) (xs.size - 1)
    refine ⟨.int _, H, I.kept k2, ⟨_, rfl⟩, q1 (by simpa using z) _ ?_ fun b hb => ?_⟩
    · rw [numAt_eq]; exact PySem.getD_mem (by rw [List.length_map, Array.length_toList]; omega)
    · obtain ⟨j, hj, rfl⟩ := mem_getD hb
      rw [List.length_map, Array.length_toList] at hj
      rw [← numAt_eq]; exact h4 j (by omega)
/-! ## max of a kept list of ints -/
def dMaxV : D1
  | .ref n, S, Q => dLst S n fun xs => ∃ ns : List Int, xs = ns.map .int ∧ 0 < ns.length ∧ ∀ m, m ∈ ns → (∀ y, y ∈ ns → y ≤ m) → Q (.int m) S
  | _, _, _ => False
theorem dMaxV_r {n : Nat} {S : Store} {Q : DQ} : dMaxV (.ref n) S Q = dLst S n fun xs => ∃ ns : List Int, xs = ns.map .int ∧ 0 < ns.length ∧ ∀ m, m ∈ ns → (∀ y, y ∈ ns → y ≤ m) → Q (.int m) S := Eq.trans rfl rfl
theorem dMaxV_ok {K : PySem.W.Frag} : SndN K (one dMaxV) (rMax K) := snd_one fun φ H S x v P Q rh rx h k => by
  cases x with
  | ref n =>
    cases rx with
    | ref hn =>
      obtain ⟨xs, vs, ⟨ns, rfl, h0, q⟩, hl, r⟩ := dLst_at rh hn (show dLst S n _ from h)
      rw [r.ints_of] at hl
      exact ⟨_, ns, rfl, hl, h0, fun m h1 h2 => k φ H _ _ S .refl rh (.int _) (q m h1 h2)⟩
  | _ => exact (show False from h).elim
theorem de_maxV {X : Cx} {B : Base} {a : Expr} {ta : DT} {p pos : Pos} (hm : X.mg "max" = none) (ha : PE X a (lift X.K B ta)) (hc : X.calm = true := by rfl) (hg : Gl X "max" := by rfl) (he : starEach [a] X.env = [(false, eval a X.env)] := by rfl) :
    PE X (.Call (.Name "max" p) [a] [] pos) (lift X.K B (dUn dMaxV ta)) := de_b1 dMaxV_ok (cr_max hc) PyProof.Rows.boot_max hm ha hg (by decide) (by decide) he
/-- max([..], default=i) -/
def dMaxDf (i : Int) (t : DTA) (δ : Env) (S : Store) (Q : DQ) : Prop := t δ S fun xs S1 => ∃ ns : List Int, xs = ns.map .int ∧ (ns = [] → Q (.int i) S1) ∧ (0 < ns.length → ∀ m, m ∈ ns → (∀ y, y ∈ ns → y ≤ m) → Q (.int m) S1)
theorem dMaxDf_eq {i : Int} {t : DTA} {δ : Env} {S : Store} {Q : DQ} : dMaxDf i t δ S Q = t δ S fun xs S1 => ∃ ns : List Int, xs = ns.map .int ∧ (ns = [] → Q (.int i) S1) ∧ (0 < ns.length → ∀ m, m ∈ ns → (∀ y, y ∈ ns → y ≤ m) → Q (.int m) S1) := Eq.trans rfl rfl
theorem de_maxDf {X : Cx} {B : Base} {a : Expr} {t : DTA} {i : Int} {j : Nat} {p pos cp kp : Pos} (hm : X.mg "max" = none) (ha : PE X a (liftL X.K B t)) (hc : X.calm = true := by rfl) (hg : Gl X "max" := by rfl)
    (he : starEach [a] X.env = [(false, eval a X.env)] := by rfl) : PE X (.Call (.Name "max" p) [a] [⟨some (Str.ofString "default"), .Constant (.int i) j cp, kp⟩] pos) (lift X.K B (dMaxDf i t)) :=
  PE.imp (pe_callBK (ks := [Str.ofString "default"]) (cr_maxDf hc) hg hm PyProof.Rows.boot_max (pa_cons ha pa_nil (by rw [he]; rfl)) (pk_cons pe_int pk_nil) (by decide) (by decide) (by rw [he]; rfl) (by rw [he]; rfl)) fun σ H Q h => by
    obtain ⟨φ, δ, S, P, ex, rs, rh, ht, k⟩ := h
    refine ⟨φ, δ, S, _, ex, rs, rh, ht, fun φ1 H1 xs vs S1 q e1 hq nq hn rh1 rx q1 => ?_⟩
    obtain ⟨ns, rfl, q0, q1⟩ := q1
    rw [rx.ints_of] at hq
    exact ⟨q, ns, .int i, rfl, rfl, .inl (.inl hq), fun z => k φ1 H1 _ _ S1 e1 rh1 (.int _) (q0 z), fun z m h1 h2 => k φ1 H1 _ _ S1 e1 rh1 (.int _) (q1 z m h1 h2)⟩
end DL

set_option Elab.async false
set_option linter.all false
set_option maxRecDepth 100000
set_option autoImplicit false
namespace DL
open PySem PySem.Spec L2 L2H

/-! ## an error caught by its name: asked for its classes, its fields, handed to a def -/
theorem RF.ext {K : PySem.W.Frag} {φ φ' : List Addr} {H H' : Hp} (e : Ext K φ φ' H H') : ∀ {a : List (Str × D)} {b : List (Str × V)}, RF K φ H a b → RF K φ' H' a b
  | _, _, .nil => .nil
  | _, _, .cons h t => .cons (h.ext e) (RF.ext e t)
/-- what a class must say, so that its errors can be looked at -/
structure ErrC (K : PySem.W.Frag) (C : Addr) : Prop where
  xf : XfC K C
  cl : PySem.W.isClsIn K C = true
  ha : PySem.W.findIn K (.ref C) "__class__" = some (some (.builtin "object.__class__"))
  hn : PySem.W.specialIn K (.builtin "object.__class__") "__get__" = some (some (.builtin "getset_descriptor.__get__"))
  ht : PySem.W.takesIn K (.builtin "object.__class__") = some true
  hm : PySem.W.mroIn K C (.type "object") = some true
/-- a pin is an error of the class at C, with the dict at dd -/
structure PinE (C dd : Addr) (p : Addr × Obj) : Prop where
  z : Zc (.ref C) (some dd) p.2
  f : ∃ vs, p.2.data = .fields vs
theorem kit_of_sub {K : PySem.W.Frag} {C D : Addr} {b : Bool} (h1 : PySem.W.isClsIn K C = true) (h2 : PySem.W.typeIn K (.ref C) = some (.type "type")) (h3 : PySem.W.subIn K (.ref D) (.ref C) = some b) (h4 : PySem.W.subIn K (.ref D) (.ref D) = some true) : PySem.W.kitOne K (.ref D) (.ref C) = some b := by
  have h1' : (PySem.W.clsIn K C).isSome = true := h1
  have e : PySem.W.kitCls K (.ref D) (.ref C) = some b := by
    show (if ((PySem.W.clsIn K C).isSome && PySem.W.typeIn K (.ref C) == some (.type "type")) = true then PySem.W.subIn K (.ref D) (.ref C) else none) = some b
    rw [if_pos (by rw [h1', h2]; rfl), h3]
  unfold PySem.W.kitOne
  by_cases q : ((Value.ref D) == (Value.ref C)) = true
  · rw [if_pos q]
    have e2 : D = C := Value.ref.inj (beq_iff_eq.mp q)
    subst e2
    exact h4.symm.trans h3
  · rw [if_neg q]
    exact e
theorem kit_type {K : PySem.W.Frag} {D : Addr} {T : String} {b : Bool} (hm : PySem.W.kitMeta T = true) (h : PySem.W.subIn K (.ref D) (.type T) = some b) : PySem.W.kitOne K (.ref D) (.type T) = some b := by
  unfold PySem.W.kitOne
  rw [if_neg (by intro z; cases (beq_iff_eq.mp z))]
  show (if PySem.W.kitMeta T = true then PySem.W.subIn K (.ref D) (.type T) else none) = some b
  rw [if_pos hm, h]
theorem exm_of {K : PySem.W.Frag} {C D : Addr} {b : Bool} (h1 : PySem.W.subIn K (.ref C) (.type "BaseException") = some true) (h2 : PySem.W.isClsIn K C = true) (h3 : PySem.W.typeIn K (.ref C) = some (.type "type")) (h4 : PySem.W.subIn K (.ref D) (.ref C) = some b) : PySem.W.exmOne K (.ref D) (.ref C) = some b := by
  have h2' : (PySem.W.clsIn K C).isSome = true := h2
  simp [PySem.W.exmOne, PySem.W.kitCls, h1, h2', h3, h4]
theorem roomH_suite {k : Nat} {A : Around} {h : Option Value} (r : Room k A) : RoomH k (A.mark h) := ⟨r.dp, r.un⟩
section
variable {X : Cx} {B : Base} {p : Addr × Obj} {C dd : Addr} {vs : List (Str × V)}
/-- as the library asks it -/
theorem inst_at {pins : List (Addr × Obj)} {s : Shared} {σ : L2.St} {H : Hp} (I : Inv X pins σ H s) (hp : p ∈ X.pn) (E : PinE C dd p) (hd : H dd = some (.xd vs)) : ∃ (od : Obj) (mA : Str → Option Value), PySem.W.InstAt s.heap p.1 p.2 C (some od) ∧ (∀ f : Str, PySem.W.lookIn f od = some (mA f)) ∧ ∀ f : Str, RelO (vs.lookup f) (mA f) := by
  obtain ⟨ha, _⟩ := I.pin p (List.mem_append_left _ hp)
  obtain ⟨us, hu⟩ := E.f
  obtain ⟨mA, hns, hr⟩ := (show ObjOk X.prog X.w H s.heap dd (.xd vs) from I.hok dd _ hd)
  obtain ⟨od, ho, hl⟩ := lookIn_ns hns
  exact ⟨od, mA, ⟨ha, E.z.1, by unfold PySem.W.notCls; rw [hu] <;> rfl, by rw [E.z.2]; exact ho⟩, hl, hr⟩
def dIsE (a dd : Addr) (vs : List (Str × V)) (b : Bool) (t : DT) (δ : Env) (S : Store) (Q : DQ) : Prop := t δ S fun d S1 => d = .obj a dd vs ∧ Q (.bl b) S1
theorem dIsE_eq {a dd : Addr} {vs : List (Str × V)} {b : Bool} {t : DT} {δ : Env} {S : Store} {Q : DQ} : dIsE a dd vs b t δ S Q = t δ S fun d S1 => d = .obj a dd vs ∧ Q (.bl b) S1 := Eq.trans rfl rfl
theorem call_isP {b : Bool} {c : V} {cv : Value} (hp : p ∈ X.pn) (E : PinE C dd p) (T : ErrC X.K C) (hcv : ∀ u, RelV c u → u = cv) (hk : PySem.W.kitOne X.K (.ref C) cv = some b) :
    CallR X (.builtin "isinstance") (fun xs H Q => xs = [.ref p.1, c] ∧ H dd = some (.xd vs) ∧ Q (.bl b) H) := by
  intro pins s σ H xs us Q I r h
  obtain ⟨rfl, hd, q⟩ := h
  obtain ⟨u1, u2, rfl, r1, r2⟩ := vals2 r
  cases (show u1 = Value.ref p.1 from r1)
  have e2 := hcv _ r2
  subst e2
  obtain ⟨od, mA, J, _, _⟩ := inst_at I hp E hd
  exact PySem.W.kia_one (PySem.W.kitx_exc T.cl T.xf.ga T.xf.gg T.xf.exC T.ha T.hn T.ht T.hm) I.kIn J hk (fun z => nomatch z) fun tk => ⟨.bl b, H, I.tok tk, rfl, q⟩
theorem de_isE {a' : Addr} {oe : Obj} {b : Bool} {c : V} {cv : Value} {a ce : Expr} {ta : DT} {q pos : Pos} (hp : (a', oe) ∈ X.pn) (E : PinE C dd (a', oe)) (T : ErrC X.K C) (hk : PySem.W.kitOne X.K (.ref C) cv = some b) (hm : X.mg "isinstance" = none)
    (ha : PE X a (lift X.K B ta)) (hc : PE X ce (tC c)) (hcv : ∀ u, RelV c u → u = cv) (hg : Gl X "isinstance" := by rfl) (he : starEach [a, ce] X.env = (false, eval a X.env) :: starEach [ce] X.env := by rfl)
    (he2 : starEach [ce] X.env = [(false, eval ce X.env)] := by rfl) (hpl : (backTo pos (starEach [ce] X.env)).any (·.1) = false := by rfl) :
    PE X (.Call (.Name "isinstance" q) [a, ce] [] pos) (lift X.K B (dIsE a' dd vs b ta)) :=
  PE.imp (pe_callB (call_isP (vs := vs) hp E T hcv hk) hg hm PyProof.Rows.boot_isinstance (pa_cons ha (pa_cons hc pa_nil he2) he) (by decide) (by decide) he hpl) fun σ H Q h => by
    obtain ⟨φ, δ, S, P, ex, rs, rh, ht, kk⟩ := h
    refine ⟨φ, δ, S, _, ex, rs, rh, ht, fun φ1 H1 d v S1 e1 rh1 rd q1 => ?_⟩
    obtain ⟨rfl, q1⟩ := q1
    cases rd with
    | obj hd _ => exact ⟨rfl, hd, kk φ1 H1 _ _ S1 e1 rh1 (.bl _) q1⟩
/-- e.f -/
def dXf (a dd : Addr) (vs : List (Str × V)) (fs : List (Str × D)) (f : Str) (t : DT) (δ : Env) (S : Store) (Q : DQ) : Prop := t δ S fun d S1 => d = .obj a dd vs ∧ ∃ y, fs.lookup f = some y ∧ Q y S1
theorem dXf_eq {a dd : Addr} {vs : List (Str × V)} {fs : List (Str × D)} {f : Str} {t : DT} {δ : Env} {S : Store} {Q : DQ} : dXf a dd vs fs f t δ S Q = t δ S fun d S1 => d = .obj a dd vs ∧ ∃ y, fs.lookup f = some y ∧ Q y S1 := Eq.trans rfl rfl
theorem de_xf {a' : Addr} {oe : Obj} {fs : List (Str × D)} {e : Expr} {ta : DT} {pos : Pos} {n : Str} (hp : (a', oe) ∈ X.pn) (E : PinE C dd (a', oe)) (T : ErrC X.K C) (hno : PySem.W.findIn X.K (.ref C) n = some none) (hrf : RF X.K B.φ B.H fs vs)
    (ha : PE X e (lift X.K B ta)) (hb : attributeBase e n X.env (eval e X.env) = eval e X.env := by rfl) : PE X (.Attribute e n pos) (lift X.K B (dXf a' dd vs fs n ta)) := by
  refine ⟨fun pins s σ H Q I h => ?_⟩
  obtain ⟨φ, δ, S, P, ex, rs, rh, ht, kk⟩ := h
  have R := ha.run pins s σ H (fun x H1 => ∃ (φ1 : List Addr) (S1 : Store) (y : D), Ext X.K φ φ1 H H1 ∧ RH X.K φ1 H1 S1 ∧ x = .ref a' ∧ H1 dd = some (.xd vs) ∧ fs.lookup n = some y ∧ P y S1) I
    ⟨φ, δ, S, _, ex, rs, rh, ht, fun φ1 H1 d v S1 e1 rh1 rd q1 => by
      obtain ⟨rfl, y, hy, q1⟩ := q1
      cases rd with
      | obj hd _ => exact ⟨φ1, S1, y, e1, rh1, rfl, hd, hy, q1⟩⟩
  refine attr_of hb (thn R fun u s1 hu => ?_)
  obtain ⟨x, H1, I1, rx, φ1, S1, y, e1, rh1, rfl, hd, hy, q1⟩ := hu
  obtain rfl : u = Value.ref a' := rx
  obtain ⟨od, mA, J, hl, hr⟩ := inst_at I1 hp E hd
  obtain ⟨v, hv, ry⟩ := rf_look (hrf.ext (ex.trans e1)) hy
  obtain ⟨w, hw, rw_⟩ := RelO.some_of (v := v) (o := mA n) (by rw [← hv]; exact hr n)
  exact HandSPX.exc_get I1.kIn J T.xf.ga T.xf.gg T.xf.exC (PySem.W.findObj_own T.xf.hdC hno rfl (by rw [hl, hw])) (handed_of rw_) ⟨v, H1, I1.tok _, rw_, kk φ1 H1 y v S1 e1 rh1 ry q1⟩
end
/-! ### a def that is handed the error -/
structure DFnE (P : Program) (w : World) (K : PySem.W.Frag) (mg : Str → Option Value) (base : Heap) (C k : Nat) (f : Addr) (fd : FuncData) (ps : List Str) (dsp : Addr → Addr → List (Str × V) → List (Str × D) → DSp) : Prop where
  len : ∀ a dd vs fs ds S Q E, dsp a dd vs fs ds S Q E → ds.length = ps.length
  run : ∀ (A : Around) (outer : List PySem.Env) (s : Shared) (H : Hp) (args : Args) (us : List Value) (vs : List V) (φ : List Addr) (S : Store) (ds : List D) (PQ : DQ) (p : Addr × Obj) (dd : Addr) (ws : List (Str × V)) (fs : List (Str × D)),
    RoomH k A → PinOk outer H s p → PinE C dd p → RF K φ H fs ws → Env0 P w K mg base A outer s H → BindsTo s fd args (ps.zip us) → Vals vs us → RH K φ H S → RDs K φ H ds vs → dsp p.1 dd ws fs ds S PQ noX →
      codeAny (model P w) A (.call (.ref f) args) (CR CX0 outer P w H s (QOk K φ H PQ) E0) s
theorem DFnE.mono {P : Program} {w : World} {K : PySem.W.Frag} {mg : Str → Option Value} {base : Heap} {C j k : Nat} {f : Addr} {fd : FuncData} {ps : List Str} {dsp : Addr → Addr → List (Str × V) → List (Str × D) → DSp} (F : DFnE P w K mg base C j f fd ps dsp) (h : j ≤ k) : DFnE P w K mg base C k f fd ps dsp :=
  ⟨F.len, fun A outer s H args us vs φ S ds PQ p dd ws fs hr => F.run A outer s H args us vs φ S ds PQ p dd ws fs (hr.mono h)⟩
section
variable {P : Program} {w : World} {K : PySem.W.Frag} {mg : Str → Option Value} {base : Heap}
theorem okE {C : Addr} {x qual : Str} {st : Stmt} {f : Addr} {fd : FuncData} {N ps : List Str} {k : Nat} {dsp : Addr → Addr → List (Str × V) → List (Str × D) → DSp} (F : Fun K x qual st f fd) (Sc : FnScope N ps (defScope st)) (len : ∀ a dd vs fs ds S Q E, dsp a dd vs fs ds S Q E → ds.length = ps.length)
    (hbody : ∀ (cdv : Value) (A : Around) (outer : List PySem.Env) (s : Shared) (H : Hp) (B : Base) (p : Addr × Obj) (dd : Addr) (ws : List (Str × V)) (fs : List (Str × D)), RoomH k (A.deeper (PyProof.Rows.envOfC qual (defScope st) s.heap.objs.size f cdv)) → PinE C dd p → RF K B.φ B.H fs ws →
      ∃ t, PSs (cxH CX0 P w K mg base N qual (defScope st) f cdv A outer s H E0 p).nox (defBody st) (liftS K B t) ∧ ∀ ds S PQ, dsp p.1 dd ws fs ds S PQ noX → t { nx := fun _ S' => PQ .non S', rt := PQ } (dstart N ds) S) :
    DFnE P w K mg base C (k + 1) f fd ps dsp := by
  obtain ⟨oc, od, kV, doc, pm, an, cdv, ct, osl, rfl, lk, hcd⟩ := F.ex
  refine ⟨len, fun A outer s H args us vs φ S ds PQ p dd ws fs hr hpin E hrf e0 hb r rh rd hsp => ?_⟩
  obtain ⟨t, ht, hq⟩ := hbody cdv A outer s H ⟨φ, H⟩ p dd ws fs (hr.deeper _) E hrf
  have hd := hq ds S PQ hsp
  have hlen : vs.length = ps.length := by
    have h1 := len _ _ _ _ _ _ _ _ hsp
    have h2 := rd.length
    omega
  have keep : ∀ b o, base.get? b = some o → s.heap.get? b = some o := fun b o e => (e0.bs b o e).1
  have kin := e0.mod.kin.keeps keep
  have lim := e0.mod.nolimit.keeps keep
  have kinds : ∀ y ∈ ps.zip us, (defScope st).names.lookup y.1 = some .local ∨ ((defScope st).names.lookup y.1 = some .cell ∧ ((cellsFrom (s.heap.objs.size + 1) (defScope st).names []).lookup y.1).isSome = true) := by
    rintro ⟨n, v⟩ hy
    exact (Sc.par n (List.of_mem_zip hy).1).imp id fun q => ⟨q, PySem.W.cellsFrom_some _ _ _ (.inl q)⟩
  refine codeAny_call_function hr.depth (kin _ _ lk) rfl Sc.co Sc.gen rfl (PySem.W.codeRec_of kin hcd) (hb _ _ _ _ (wpAny_newFunctionEnv_cells Sc.kind kinds fun env he s1 x => ?_))
  subst he
  refine ⟨lim.keeps x.toInCall.keep, codeAny_func ?_⟩
  have I := inv_startH (CX := CX0) (P := P) (w := w) (K := K) (mg := mg) (base := base) (f := f) (cd := cdv) (qual := qual) (outer := outer) (E := E0) Sc hpin e0 hlen r x
  have goal : liftS K ⟨φ, H⟩ t { nx := fun _ H' => QOk K φ H PQ .non H', rt := QOk K φ H PQ } (L2.start N vs) H :=
    ⟨φ, dstart N ds, S, _, .refl, RS.start rd, rh, hd, fun φ' H' σ δ S' e' rs' rh' q => ⟨φ', .non, S', e', rh', .non, q⟩, fun φ' H' d v S' e' rh' rd' q => ⟨φ', d, S', e', rh', rd', q⟩,
      fun _ _ _ _ _ _ _ _ q => q.elim, fun _ _ _ _ _ _ _ _ q => q.elim⟩
  refine wpAny_mono (ht.nox.run [] s1 (L2.start N vs) H _ I goal) (fun fl s' hs => ?_) fun _ _ h => h
  match fl, hs with
  | .ret u, ⟨v, σ', H', J, rv, q⟩ => exact ⟨v, H', J.os, J.bare, J.base, J.hok, rv, q⟩
  | .next, ⟨σ', H', J, q⟩ => exact ⟨.non, H', J.os, J.bare, J.base, J.hok, rfl, q⟩
  | .brk, ⟨_, _, _, q⟩ => exact q.elim
  | .cont, ⟨_, _, _, q⟩ => exact q.elim
end
section
variable {X : Cx} {B : Base} {p : Addr × Obj} {C dd : Addr} {vs : List (Str × V)} {fs : List (Str × D)}
def dCallE (a dd : Addr) (vs : List (Str × V)) (fs : List (Str × D)) (dsp : Addr → Addr → List (Str × V) → List (Str × D) → DSp) (t : DTA) (δ : Env) (S : Store) (Q : DQ) : Prop := t δ S fun ds S1 => dsp a dd vs fs ds S1 Q noX
theorem dCallE_eq {a dd : Addr} {vs : List (Str × V)} {fs : List (Str × D)} {dsp : Addr → Addr → List (Str × V) → List (Str × D) → DSp} {t : DTA} {δ : Env} {S : Store} {Q : DQ} : dCallE a dd vs fs dsp t δ S Q = t δ S fun ds S1 => dsp a dd vs fs ds S1 Q noX := Eq.trans rfl rfl
theorem de_callE {a' : Addr} {oe : Obj} {k : Nat} {f : Addr} {fd : FuncData} {ps : List Str} {dsp : Addr → Addr → List (Str × V) → List (Str × D) → DSp} {x : Str} {q pos : Pos} {e : Expr} {es : List Expr} {t : DTA} (F : DFnE X.prog X.w X.K X.mg X.base C k f fd ps dsp) (hr : RoomH k X.A) (hp : (a', oe) ∈ X.pn) (E : PinE C dd (a', oe)) (hrf : RF X.K B.φ B.H fs vs)
    (hm : X.mg x = some (.ref f)) (hk : PySem.W.keepIn X.K (.ref f) = true) (hb : Binds X.K fd ps []) (ha : PA X (e :: es) (liftA X.K B t)) (hg : Gl X x := by rfl) (hdb : (x == ("__debug__" : Str)) = false := by decide)
    (he : starEach (e :: es) X.env = (false, eval e X.env) :: starEach es X.env := by rfl) (hpl : (backTo pos (starEach es X.env)).any (·.1) = false := by rfl) : PE X (.Call (.Name x q) (e :: es) [] pos) (lift X.K B (dCallE a' dd vs fs dsp t)) := by
  constructor
  intro pins s σ H Q I h
  obtain ⟨φ, δ, S, P, ex, rs, rh, ht, kk⟩ := h
  refine wpAny_Call_Name_kw (ld_glob I hg hm ?_ hdb)
  have hA := ha.run pos pins s σ H (fun us H1 => ∃ φ1 ds S1, Ext X.K φ φ1 H H1 ∧ RH X.K φ1 H1 S1 ∧ RDs X.K φ1 H1 ds us ∧ dsp a' dd vs fs ds S1 P noX) I
    ⟨φ, δ, S, _, ex, rs, rh, ht, fun φ1 H1 ds us S1 e1 rh1 rd1 q1 => ⟨φ1, ds, S1, e1, rh1, rd1, q1⟩⟩
  refine PySem.W.callWith_K (h₀ := X.base) I.ok.mod.kin hk (thn hA fun us s1 hus => ⟨?_, ?_⟩) he hpl
  · obtain ⟨_, _, I1, _⟩ := hus
    exact I1.kIn
  obtain ⟨ws, H1, I1, r, φ1, ds, S1, e1, rh1, rd1, q1⟩ := hus
  have hl : us.length = ps.length := by
    have h1 := F.len _ _ _ _ _ _ _ _ q1
    have h2 := rd1.length
    have h3 := r.length
    omega
  have b := hb s1 us I1.kIn (by rw [List.append_nil]; exact hl)
  rw [List.append_nil] at b
  have P1 := I1.pin (a', oe) (List.mem_append_left _ hp)
  have hpin : PinOk X.stack H1 s1 (a', oe) := ⟨P1.1, P1.2.1, fun hm => (List.mem_cons.mp (I1.stkSub a' hm)).elim P1.2.2.1 P1.2.2.2.1, P1.2.2.2.2⟩
  refine wpAny_call (codeAny_mono (F.run X.A X.stack s1 H1 ⟨us, []⟩ us ws φ1 S1 ds P (a', oe) dd vs fs hr hpin E (hrf.ext (ex.trans e1)) I1.env0 b r rh1 rd1 q1) ?_)
  intro rr s' hq
  match rr, hq with
  | .error e, hq => exact hq.elim
  | .ok (.ret u), hq =>
    obtain ⟨v, H2, I2, ru, φ2, d, S2, e2, rh2, rd2, q2⟩ := I1.after hq
    exact ⟨v, H2, I2, ru, kk φ2 H2 d v S2 (e1.trans e2) rh2 rd2 q2⟩
theorem dt_eqH {a b : Expr} {ta tb : DT} {pos : Pos} {k : Nat} (hr : RoomH k X.A) (ha : PE X a (lift X.K B ta)) (hb : PE X b (lift X.K B tb)) : PT X (.Compare a [.Eq] [b] pos) (liftT X.K B (dTest (dOp (dEq false) ta tb))) := dt_cmp dEq_ok (op_eqV (by have := hr.un; omega)) ha hb (nomark _)
end
/-! ### try .. except C as n, the error of the class at D -/
def dTryE (D_ : Addr) (i : Nat) (t : (Env → DXQ) → DTS) (k : Addr → Addr → List (Str × V) → List (Str × D) → DTS) (P : DEnds) (δ : Env) (S : Store) : Prop :=
  t (fun δ' cls fs S' => cls = .ref D_ ∧ i < δ'.length ∧ ∀ a dd vs, k a dd vs fs (clrE i P) (δ'.set i (some (.obj a dd vs))) S') P δ S
theorem dTryE_eq {D_ : Addr} {i : Nat} {t : (Env → DXQ) → DTS} {k : Addr → Addr → List (Str × V) → List (Str × D) → DTS} {P : DEnds} {δ : Env} {S : Store} : dTryE D_ i t k P δ S = t (fun δ' cls fs S' => cls = .ref D_ ∧ i < δ'.length ∧ ∀ a dd vs, k a dd vs fs (clrE i P) (δ'.set i (some (.obj a dd vs))) S') P δ S := Eq.trans rfl rfl
theorem clrE_nx {i : Nat} {P : DEnds} {δ : Env} {S : Store} : (clrE i P).nx δ S = P.nx (δ.set i none) S := Eq.trans rfl rfl
theorem clrE_rt {i : Nat} {P : DEnds} {d : D} {S : Store} : (clrE i P).rt d S = P.rt d S := Eq.trans rfl rfl
theorem RS.has {K : PySem.W.Frag} {φ : List Addr} {H : Hp} {σ : L2.St} {δ : Env} (h : RS K φ H σ δ) (i : Nat) {d : D} {v : V} (r : RD K φ H d v) : RS K φ H (σ.set i (some v)) (δ.set i (some d)) := h.set r i
section
variable {X : Cx} {B : Base} {x n : Str} {C E_ : Addr} {i : Nat} {body suite : List Stmt} {b₀ : Stmt} {np pos pos' : Pos} {t : (Env → DXQ) → DTS} {k : Addr → Addr → List (Str × V) → List (Str × D) → DTS}
theorem ds_tryE (gC : X.mg x = some (.ref C)) (ex : PySem.W.exmOne X.K (.ref E_) (.ref C) = some true) (hN : X.N.Nodup) (hi : X.N[i]? = some n) (hln : X.env.kindOf n = some .local)
    (hb : ∀ (B' : Base) (PXE : Env → DXQ) (W : WX) (pn : List (Addr × Obj)) (xe : Value → Shared → Prop), Takes (X.tr pn xe) W → PassesOwn (model X.prog X.w) X.A X.env xe → XWish X.K B' PXE W → PSs (X.tr pn xe) body (liftS X.K B' (t PXE)))
    (hsu : ∀ (a : Addr) (oe : Obj) (dd : Addr) (vs : List (Str × V)) (fs : List (Str × D)) (pn : List (Addr × Obj)) (B' : Base), PinE E_ dd (a, oe) → RF (X.suite a ((a, oe) :: pn)).K B'.φ B'.H fs vs → PSs (X.suite a ((a, oe) :: pn)) (b₀ :: suite) (liftS X.K B' (k a dd vs fs)))
    (hg : Gl X x := by rfl) (hdb : (x == ("__debug__" : Str)) = false := by decide) (hs : X.stack = X.env :: X.outer := by rfl) (hf : X.env.frame = some X.env.locals := by rfl) :
    PS X (.Try body [.ExceptHandler (some (.Name x np)) (some n) (b₀ :: suite) pos'] [] [] pos) (liftS X.K B (dTryE E_ i t k)) := by
  have R := ps_try_as (X := X) (x := x) (c := .ref C) (i := i) (np := np) (pos := pos) (pos' := pos') (tb := fun W E σ H => ∃ (B' : Base) (PXE : Env → DXQ), XWish X.K B' PXE W ∧ liftS X.K B' (t PXE) E σ H)
    (ts := fun a cls d E σ H => ∃ (B' : Base) (dd : Addr) (vs : List (Str × V)) (fs : List (Str × D)), cls = .ref E_ ∧ d = some dd ∧ RF X.K B'.φ B'.H fs vs ∧ liftS X.K B' (k a dd vs fs) E σ H) (Wout := fun _ _ _ _ => False)
    hs hf hN hi hln ⟨hg, hdb, .inl gC⟩ takes_none5 (fun W pn xe tk po => ⟨fun pins s σ H D I h => by
      obtain ⟨B', PXE, hE, h⟩ := h
      exact (hb B' PXE W pn xe tk po hE).run pins s σ H D I h⟩) (fun a oe cls d pn hz hf => ⟨fun pins s σ H D I h => by
      obtain ⟨B', dd, vs, fs, rfl, rfl, hrf, h⟩ := h
      exact (hsu a oe dd vs fs pn B' ⟨hz, hf⟩ hrf).run pins s σ H D I h⟩)
  refine PS.imp R fun σ H D h => ?_
  obtain ⟨φ, δ, S, P, e0, rs, rh, ht, le⟩ := h
  refine ⟨⟨φ, H⟩, _, fun σ' φ' H' δ' ex' rs' φ2 H2 S2 cls d fs vs ex2 rh2 hd hdn rf hq => ?_, φ, δ, S, P, .refl, rs, rh, ht, le⟩
  obtain ⟨hcls, hi', hk⟩ := hq
  subst hcls
  refine ⟨true, ex, fun _ a ha => ?_, fun z => nomatch z⟩
  exact ⟨⟨φ2, H2⟩, d, vs, fs, rfl, rfl, rf, φ2, _, S2, _, .refl, (rs'.ext ex2).set (.obj hd hdn) i, rh2, hk a d vs, (le.ext (ex'.trans ex2)).clr i⟩
end
end DL

set_option Elab.async false
set_option linter.all false
set_option maxRecDepth 100000
set_option autoImplicit false
namespace DL
open PySem PySem.Spec L2 L2H
section
variable {X : Cx} {B : Base}
theorem dt_neH {a b : Expr} {ta tb : DT} {pos : Pos} {k : Nat} (hr : RoomH k X.A) (ha : PE X a (lift X.K B ta)) (hb : PE X b (lift X.K B tb)) : PT X (.Compare a [.NotEq] [b] pos) (liftT X.K B (dTest (dOp (dEq true) ta tb))) := dt_cmp dNe_ok (op_neV (by have := hr.un; omega)) ha hb (nomark _)
/-- x, y, z = e, f, g -/
def is3 : List D → (D → D → D → Prop) → Prop
  | [d, f, g], k => k d f g
  | _, _ => False
theorem is3_c {d f g : D} {k : D → D → D → Prop} : is3 [d, f, g] k = k d f g := Eq.trans rfl rfl
def dPar3 (i j l : Nat) (t : DTA) (E : DEnds) (δ : Env) (S : Store) : Prop := t δ S fun ds S1 => is3 ds fun d f g => E.nx (((δ.set i (some d)).set j (some f)).set l (some g)) S1
theorem dPar3_eq {i j l : Nat} {t : DTA} {E : DEnds} {δ : Env} {S : Store} : dPar3 i j l t E δ S = t δ S fun ds S1 => is3 ds fun d f g => E.nx (((δ.set i (some d)).set j (some f)).set l (some g)) S1 := Eq.trans rfl rfl
theorem ds_par3 {i j l : Nat} {x y z : Str} {a b c : Expr} {t : DTA} {px py pz pt pos : Pos} {kt k2 pt2} (hN : X.N.Nodup) (ha : PA X [a, b, c] (liftA X.K B t)) (hi : X.N[i]? = some x := by rfl) (hj : X.N[j]? = some y := by rfl) (hl : X.N[l]? = some z := by rfl) (hij : i ≠ j := by decide) (hil : i ≠ l := by decide) (hjl : j ≠ l := by decide)
    (hx : X.env.scope.names.lookup x = some .local := by rfl) (hy : X.env.scope.names.lookup y = some .local := by rfl) (hz : X.env.scope.names.lookup z = some .local := by rfl)
    (hw : swappedStores [.Tuple [.Name x px, .Name y py, .Name z pz] kt pt] (.Tuple [a, b, c] k2 pt2) X.env = pure (some [x, y, z]) := by rfl) (hc : X.calm = true := by rfl)
    (hs : swapsWithSole [.Tuple [.Name x px, .Name y py, .Name z pz] kt pt] (.Tuple [a, b, c] k2 pt2) pos.line X.env = pure false := by rfl) :
    PS X (.Assign [.Tuple [.Name x px, .Name y py, .Name z pz] kt pt] (.Tuple [a, b, c] k2 pt2) pos) (liftS X.K B (dPar3 i j l t)) := PS.imp (ps_par3 hc hN hi hj hl hij hil hjl hx hy hz ha hw hs) fun σ H E h => by
  obtain ⟨φ, δ, S, P, e, rs, rh, t, le⟩ := h
  refine ⟨φ, δ, S, _, e, rs, rh, t, fun φ1 H1 ds vs S1 e1 rh1 rd q1 => ?_⟩
  match ds, q1 with
  | [d, f, g], q1 =>
    cases rd with
    | cons r1 r2 =>
      cases r2 with
      | cons r2 r3 =>
        cases r3 with
        | cons r3 r4 => cases r4; exact ⟨_, _, _, rfl, le.nx φ1 H1 _ _ S1 e1 ((((rs.ext e1).set r1 i).set r2 j).set r3 l) rh1 q1⟩
  | [], q1 => exact q1.elim
  | [_], q1 => exact q1.elim
  | [_, _], q1 => exact q1.elim
  | _ :: _ :: _ :: _ :: _, q1 => exact q1.elim
end
end DL

set_option Elab.async false
set_option linter.all false
set_option maxRecDepth 100000
set_option autoImplicit false
namespace DL
open PySem PySem.Spec L2

/-! ## max, min of a list of ints, with a default -/
section
variable {prog : Program} {w : World} {A : Around} {E : Value → Shared → Prop} {R : Result → Shared → Prop} {s : Shared} {J : Addr} {fp wr : List Addr} {n : Nat} {P : Nat → Value → Prop} {St : Nat → Heap → Prop} {kw : List (Str × Value)}
theorem mnd_turns (wk : Walks prog w A.in1 J fp wr n P St) (gt : Nat → Nat → Bool) (cmp : CmpOf prog w A.in1 .Lt P gt) (T : Addr) (out : T ∉ fp) :
    ∀ (k j : Nat) (s : Shared) (b : Value) (c : Nat), n - (j + 1) = k → j + 1 ≤ n → St (j + 1) s.heap → P (argBest gt j) b → s.heap.get? T = some (heldO #[b, b] c) →
      (∀ v h2 t2, P (argBest gt (n - 1)) v → (∀ a o, a ∉ wr → a ≠ T → s.heap.get? a = some o → h2.get? a = some o) → R (.ok (.ret v)) { s with heap := h2, toks := t2 }) →
      codeAny (model prog w) A (.builtin "min.loop" ⟨[.ref J, .none, .ref T], kw⟩) R s := by
  have out2 : T ∉ wr := fun z => out (wk.sub _ z)
  have nm : (toString "min" ++ toString ".loop" : String) = "min.loop" := by decide
  intro k
  induction k with
  | zero =>
    intro j s b c ek hj st pb hT fin
    refine codeAny_builtin F.entry_min_loop (by
      rw [Around.under_plainId F.plain_min_loop _]
      show wpAny _ A.in1 (seqItems? (.ref T) >>= _) _ _ s
      refine wpAny_bind (wpAny_seqItems hT rfl ?_)
      show wpAny _ A.in1 (tryCatch (pyNext (.ref J)) _ >>= _) _ _ s
      refine wpAny_bind (wpAny_tryCatch (wk.done s _ _ ((show j + 1 = n by omega) ▸ st) fun h1 t1 k1 => ?_))
      have hT1 := k1 T _ out2 hT
      show wpAny _ A.in1 (updateSeq T (fun _ => #[]) >>= _) _ _ _
      refine wpAny_bind (wpAny_updateSeq hT1 rfl (wpAny_bind (wpAny_letGo (wpAny_pure ?_))))
      exact fin b _ t1 (by rw [← (show j + 1 = n by omega)]; exact pb) fun a o ha hb e => (Heap.get?_update_other _ _ (Ne.symm hb)).trans (k1 a o ha e))
  | succ k ih =>
    intro j s b c ek hj st pb hT fin
    have lt : j + 1 < n := by omega
    refine codeAny_builtin F.entry_min_loop (by
      rw [Around.under_plainId F.plain_min_loop _]
      show wpAny _ A.in1 (seqItems? (.ref T) >>= _) _ _ s
      refine wpAny_bind (wpAny_seqItems hT rfl ?_)
      show wpAny _ A.in1 (tryCatch (pyNext (.ref J)) _ >>= _) _ _ s
      refine wpAny_bind (wpAny_tryCatch (wk.item (j + 1) s _ _ lt st fun v h1 t1 pv st1 k1 => ?_))
      have hT1 := k1 T _ out2 hT
      show wpAny _ A.in1 (tryCatch (holding [v, v] (richCompare .Lt v b >>= _)) _ >>= _) _ _ _
      refine wpAny_bind (wpAny_tryCatch (wpAny_holding (wpAny_bind (cmp (j + 1) (argBest gt j) v b _ _ _ pv pb ?_))))
      refine wpAny_bind (wpAny_holding (wpAny_truthy_bool ?_))
      refine wpAny_bind (wpAny_letGo (wpAny_pure ?_))
      cases eb : gt (j + 1) (argBest gt j) with
      | true =>
        simp only [if_true]
        refine wpAny_bind (wpAny_updateSeq hT1 rfl (wpAny_bind (wpAny_letGo ?_)))
        rw [nm]
        refine wpAny_pure ⟨plainId_quiet F.plain_min_loop _, ih (j + 1) _ v _ (by omega) lt (wk.frame _ _ _ st1 fun a ha o e => ?_) (by simp only [argBest, eb, if_true]; exact pv) (Heap.get?_update_self _ hT1 rfl) fun v2 h2 t2 p2 k2 => ?_⟩
        · exact (Heap.get?_update_other _ _ (fun z : T = a => out (by rw [z]; exact ha))).trans e
        · exact fin v2 h2 t2 p2 fun a o ha hb e => k2 a o ha hb ((Heap.get?_update_other _ _ (Ne.symm hb)).trans (k1 a o ha e))
      | false =>
        simp only [Bool.false_eq_true, if_false]
        refine wpAny_bind (wpAny_letGo ?_)
        rw [nm]
        refine wpAny_pure ⟨plainId_quiet F.plain_min_loop _, ih (j + 1) _ b c (by omega) lt st1 (by simp only [argBest, eb, Bool.false_eq_true, if_false]; exact pb) hT1 fun v2 h2 t2 p2 k2 => ?_⟩
        exact fin v2 h2 t2 p2 fun a o ha hb e => k2 a o ha hb (k1 a o ha e))
theorem mnd_first (wk : Walks prog w A.in1 J fp wr n P St) (gt : Nat → Nat → Bool) (cmp : CmpOf prog w A.in1 .Lt P gt) (T : Addr) (out : T ∉ fp) (h0 : 0 < n) {c : Nat} (st : St 0 s.heap) (hT : s.heap.get? T = some (heldO #[] c))
    (fin : ∀ v h2 t2, P (argBest gt (n - 1)) v → (∀ a o, a ∉ wr → a ≠ T → s.heap.get? a = some o → h2.get? a = some o) → R (.ok (.ret v)) { s with heap := h2, toks := t2 }) :
    codeAny (model prog w) A (.builtin "min.loop" ⟨[.ref J, .none, .ref T], kw⟩) R s := by
  have out2 : T ∉ wr := fun z => out (wk.sub _ z)
  have nm : (toString "min" ++ toString ".loop" : String) = "min.loop" := by decide
  refine codeAny_builtin F.entry_min_loop (by
    rw [Around.under_plainId F.plain_min_loop _]
    show wpAny _ A.in1 (seqItems? (.ref T) >>= _) _ _ s
    refine wpAny_bind (wpAny_seqItems hT rfl ?_)
    show wpAny _ A.in1 (tryCatch (pyNext (.ref J)) _ >>= _) _ _ s
    refine wpAny_bind (wpAny_tryCatch (wk.item 0 s _ _ h0 st fun v h1 t1 pv st1 k1 => ?_))
    have hT1 := k1 T _ out2 hT
    show wpAny _ A.in1 (updateSeq T (fun _ => #[v, v]) >>= _) _ _ _
    refine wpAny_bind (wpAny_updateSeq hT1 rfl ?_)
    rw [nm]
    refine wpAny_pure ⟨plainId_quiet F.plain_min_loop _, mnd_turns wk gt cmp T out _ 0 _ v _ rfl h0 (wk.frame _ _ _ st1 fun a ha o e => ?_) pv (Heap.get?_update_self _ hT1 rfl) fun v2 h2 t2 p2 k2 => ?_⟩
    · exact (Heap.get?_update_other _ _ (fun z : T = a => out (by rw [z]; exact ha))).trans e
    · exact fin v2 h2 t2 p2 fun a o ha hb e => k2 a o ha hb ((Heap.get?_update_other _ _ (Ne.symm hb)).trans (k1 a o ha e)))
/-- of none: the default -/
theorem mnd_none (wk : Walks prog w A.in1 J fp wr n P St) (T : Addr) (out : T ∉ fp) (h0 : n = 0) {c : Nat} {x : Str} {d : Value} (st : St 0 s.heap) (hT : s.heap.get? T = some (heldO #[] c))
    (fin : ∀ h2 t2, (∀ a o, a ∉ wr → a ≠ T → s.heap.get? a = some o → h2.get? a = some o) → R (.ok (.ret d)) { s with heap := h2, toks := t2 }) :
    codeAny (model prog w) A (.builtin "min.loop" ⟨[.ref J, .none, .ref T], [(x, d)]⟩) R s := by
  refine codeAny_builtin F.entry_min_loop (by
    rw [Around.under_plainId F.plain_min_loop _]
    show wpAny _ A.in1 (seqItems? (.ref T) >>= _) _ _ s
    refine wpAny_bind (wpAny_seqItems hT rfl ?_)
    show wpAny _ A.in1 (tryCatch (pyNext (.ref J)) _ >>= _) _ _ s
    refine wpAny_bind (wpAny_tryCatch (wk.done s _ _ (h0 ▸ st) fun h1 t1 k1 => ?_))
    exact wpAny_bind (wpAny_rule (wpAny_pure (fin h1 t1 fun a o ha _ e => k1 a o ha e))))
/-- a built-in function by keywords, that may go on -/
theorem tree_kwM {id : String} {b : Builtin} {args : List Value} {Q : Value → Shared → Prop} (hk : builtinKind id = none) (hp : plainId id = true) (hb : entryFor table id = some b) (ha : argsOk id ⟨args, kw⟩)
    (h : wpAny (model prog w) A.in1 (b ⟨args, kw⟩) (fun f s2 => match f with
      | .done z => (match (Except.ok z : Result) with | .ok (.ret v) => Q v s2 | .ok _ => False | .error e => E e s2)
      | .again c2 => c2.quiet = true ∧ codeAny (model prog w) A c2 (fun r s3 => match r with | .ok (.ret v) => Q v s3 | .ok _ => False | .error e => E e s3) s2) E s) : wpAny (model prog w) A (call (.builtin id) args kw) Q E s := by
  refine wpAny_call (codeAny_call_builtin hp hb (by
    simp only [checkBuiltinCall, hk]
    cases sg : Manifest.signature? id with
    | none => exact wpAny_pure h
    | some sig =>
      have e : Bind.checkArgs id sig ⟨args, kw⟩ = pure () := by simpa only [argsOk, sg] using ha
      simp only [e]
      exact wpAny_pure h))
theorem argsMinD (a d : Value) : argsOk "min" ⟨[a], [(Str.ofString "default", d)]⟩ := by unfold argsOk; kernel_rfl
theorem mind_list {l : Addr} {xs : Array (Int × Tok)} {d : Value} {Q : Value → Shared → Prop} (hh : A.handled = none) (hl : s.heap.IsList l (intItems xs))
    (none_ : xs.size = 0 → ∀ h2 t2, (∀ a o, s.heap.get? a = some o → h2.get? a = some o) → Q d { s with heap := h2, toks := t2 })
    (some_ : 0 < xs.size → ∀ v h2 t2, (intItems xs)[argBest (fun i j => decide (numAt xs i < numAt xs j)) (xs.size - 1)]? = some v → (∀ a o, s.heap.get? a = some o → h2.get? a = some o) → Q v { s with heap := h2, toks := t2 }) :
    wpAny (model prog w) A (call (.builtin "min") [.ref l] [(Str.ofString "default", d)]) Q E s := by
  have nm : (toString "min" ++ toString ".loop" : String) = "min.loop" := by decide
  refine tree_kwM F.kind_min F.plain_min F.entry_min (argsMinD _ _) ?_
  show wpAny _ A.in1 (Builtin.Builtins.bindParams "min" ["key", "default"] 0 ⟨[], [(Str.ofString "default", d)]⟩ >>= _) _ _ s
  refine wpAny_bind (wpAny_of_eq (show Builtin.Builtins.bindParams "min" ["key", "default"] 0 ⟨[], [(Str.ofString "default", d)]⟩ = pure [none, some d] from by first | rfl | kernel_rfl) ?_)
  refine wpAny_bind (wpAny_pure (wpAny_bind (iter_intList hl fun s2 e2 st2 fp2 ne2 => ?_)))
  subst e2
  refine wpAny_bind (wpAny_newObj_type ?_)
  rw [nm]
  have W := Walks.list (prog := prog) (w := w) (A := A.in1) hh s.heap.objs.size l ne2 (intItems xs)
  have out : (s.heap.push { cls := .type "list_iterator", data := .fields #[.ref l, .int 0 0] }).objs.size ∉ [s.heap.objs.size, l] := fun z => Nat.lt_irrefl _ (fp2 _ z)
  have kept : ∀ {h2 : Heap}, (∀ a o, a ∉ [s.heap.objs.size] → a ≠ (s.heap.push { cls := .type "list_iterator", data := .fields #[.ref l, .int 0 0] }).objs.size →
      ((s.heap.push { cls := .type "list_iterator", data := .fields #[.ref l, .int 0 0] }).push { cls := .type "list", data := .seq #[] }).get? a = some o → h2.get? a = some o) → ∀ a o, s.heap.get? a = some o → h2.get? a = some o := fun {h2} k a o e => by
    have la := Heap.lt_size e
    refine k a o (fun z => ?_) (fun z => ?_) (Heap.get?_push_of_some _ (Heap.get?_push_of_some _ e))
    · rw [List.mem_singleton.mp z] at la; exact Nat.lt_irrefl _ la
    · rw [z, Heap.size_push] at la; exact Nat.lt_irrefl _ (Nat.lt_of_succ_lt la)
  have st3 := W.frame _ _ _ st2 fun a _ o e => Heap.get?_push_of_some (h := s.heap.push { cls := .type "list_iterator", data := .fields #[.ref l, .int 0 0] }) { cls := .type "list", data := .seq #[] } e
  by_cases hz : 0 < xs.size
  · refine wpAny_pure ⟨plainId_quiet F.plain_min_loop _, mnd_first W (fun i j => decide (numAt xs i < numAt xs j)) (CmpOf.ints_lt (numAt xs) (fun _ _ => intItems_at)) _ out (by simpa [intItems] using hz) st3 (Heap.get?_push_size _ rfl) fun v h2 t2 pv k2 => ?_⟩
    exact some_ hz v h2 t2 (by simpa [intItems] using pv) (kept k2)
  · refine wpAny_pure ⟨plainId_quiet F.plain_min_loop _, mnd_none W _ out (by simp only [intItems, Array.size_map]; omega) st3 (Heap.get?_push_size _ rfl) fun h2 t2 k2 => ?_⟩
    exact none_ (by omega) h2 t2 (kept k2)
end
/-- max(xs, default=d) -/
def rMinDf (K : PySem.W.Frag) : List V → List V → Hp → VK → Prop := fun vs zs H Q => ∃ (a : Addr) (ns : List Int) (d : V), vs = [V.ref a] ∧ zs = [d] ∧ SqL K H a (ns.map V.int) ∧ (ns = [] → Q d H) ∧ (0 < ns.length → ∀ m, m ∈ ns → (∀ y, y ∈ ns → m ≤ y) → Q (.int m) H)
theorem cr_minDf {X : Cx} (hc : X.calm = true) : CallRK X (.builtin "min") [Str.ofString "default"] (rMinDf X.K) := by
  intro pins s σ H vs zs us ws Q I r rz h
  obtain ⟨a, ns, d, rfl, rfl, hs, q0, q1⟩ := h
  obtain rfl := Vals.ref1 r
  obtain ⟨w1, rfl, e1⟩ := vals1 rz
  obtain ⟨its, rv, hl, _⟩ := I.list hs
  have hi := rv.ints
  obtain ⟨xs, e⟩ := hi.allInts.items
  have hn : numsOf (intItems xs).toList = ns := by rw [← e]; exact hi.numsOf
  rw [nums_intItems] at hn
  subst hn
  have hl2 := hl.isList
  rw [e] at hl2
  refine mind_list (I.ok.hd hc) hl2 (fun z h2 t2 k2 => ?_) fun z v h2 t2 hv k2 => ?_
  · exact ⟨d, H, I.kept k2, e1, q0 (List.eq_nil_of_length_eq_zero (by simpa using z))⟩
  · obtain ⟨t, rfl⟩ := intItems_at hv
    obtain ⟨h3, h4⟩ := argBest_lt (numAt xs) (xs.size - 1)
    refine ⟨.int _, H, I.kept k2, ⟨_, rfl⟩, q1 (by simpa using z) _ ?_ fun b hb => ?_⟩
    · rw [numAt_eq]; exact PySem.getD_mem (by rw [List.length_map, Array.length_toList]; omega)
    · obtain ⟨j, hj, rfl⟩ := mem_getD hb
      rw [List.length_map, Array.length_toList] at hj
      rw [← numAt_eq]; exact h4 j (by omega)
/-- max([..], default=i) -/
def dMinDf (i : Int) (t : DTA) (δ : Env) (S : Store) (Q : DQ) : Prop := t δ S fun xs S1 => ∃ ns : List Int, xs = ns.map .int ∧ (ns = [] → Q (.int i) S1) ∧ (0 < ns.length → ∀ m, m ∈ ns → (∀ y, y ∈ ns → m ≤ y) → Q (.int m) S1)
theorem dMinDf_eq {i : Int} {t : DTA} {δ : Env} {S : Store} {Q : DQ} : dMinDf i t δ S Q = t δ S fun xs S1 => ∃ ns : List Int, xs = ns.map .int ∧ (ns = [] → Q (.int i) S1) ∧ (0 < ns.length → ∀ m, m ∈ ns → (∀ y, y ∈ ns → m ≤ y) → Q (.int m) S1) := Eq.trans rfl rfl
theorem de_minDf {X : Cx} {B : Base} {a : Expr} {t : DTA} {i : Int} {j : Nat} {p pos cp kp : Pos} (hm : X.mg "min" = none) (ha : PE X a (liftL X.K B t)) (hc : X.calm = true := by rfl) (hg : Gl X "min" := by rfl)
    (he : starEach [a] X.env = [(false, eval a X.env)] := by rfl) : PE X (.Call (.Name "min" p) [a] [⟨some (Str.ofString "default"), .Constant (.int i) j cp, kp⟩] pos) (lift X.K B (dMinDf i t)) :=
  PE.imp (pe_callBK (ks := [Str.ofString "default"]) (cr_minDf hc) hg hm PyProof.Rows.boot_min (pa_cons ha pa_nil (by rw [he]; rfl)) (pk_cons pe_int pk_nil) (by decide) (by decide) (by rw [he]; rfl) (by rw [he]; rfl)) fun σ H Q h => by
    obtain ⟨φ, δ, S, P, ex, rs, rh, ht, k⟩ := h
    refine ⟨φ, δ, S, _, ex, rs, rh, ht, fun φ1 H1 xs vs S1 q e1 hq nq hn rh1 rx q1 => ?_⟩
    obtain ⟨ns, rfl, q0, q1⟩ := q1
    rw [rx.ints_of] at hq
    exact ⟨q, ns, .int i, rfl, rfl, .inl (.inl hq), fun z => k φ1 H1 _ _ S1 e1 rh1 (.int _) (q0 z), fun z m h1 h2 => k φ1 H1 _ _ S1 e1 rh1 (.int _) (q1 z m h1 h2)⟩
end DL

set_option Elab.async false
set_option linter.all false
set_option maxRecDepth 100000
set_option autoImplicit false
namespace DL
open PySem PySem.Spec L2 L2H
/-! ### try .. except C as n, the error of one of two classes -/
def dTryE2 (D1 D2 : Addr) (i : Nat) (t : (Env → DXQ) → DTS) (k1 k2 : Addr → Addr → List (Str × V) → List (Str × D) → DTS) (P : DEnds) (δ : Env) (S : Store) : Prop :=
  t (fun δ' cls fs S' => i < δ'.length ∧ ((cls = .ref D1 ∧ ∀ a dd vs, k1 a dd vs fs (clrE i P) (δ'.set i (some (.obj a dd vs))) S') ∨ (cls = .ref D2 ∧ ∀ a dd vs, k2 a dd vs fs (clrE i P) (δ'.set i (some (.obj a dd vs))) S'))) P δ S
theorem dTryE2_eq {D1 D2 : Addr} {i : Nat} {t : (Env → DXQ) → DTS} {k1 k2 : Addr → Addr → List (Str × V) → List (Str × D) → DTS} {P : DEnds} {δ : Env} {S : Store} : dTryE2 D1 D2 i t k1 k2 P δ S = t (fun δ' cls fs S' => i < δ'.length ∧ ((cls = .ref D1 ∧ ∀ a dd vs, k1 a dd vs fs (clrE i P) (δ'.set i (some (.obj a dd vs))) S') ∨ (cls = .ref D2 ∧ ∀ a dd vs, k2 a dd vs fs (clrE i P) (δ'.set i (some (.obj a dd vs))) S'))) P δ S := Eq.trans rfl rfl
section
variable {X : Cx} {B : Base} {x n : Str} {C D1 D2 : Addr} {i : Nat} {body suite : List Stmt} {b₀ : Stmt} {np pos pos' : Pos} {t : (Env → DXQ) → DTS} {k1 k2 : Addr → Addr → List (Str × V) → List (Str × D) → DTS}
theorem ds_tryE2 (gC : X.mg x = some (.ref C)) (ex1 : PySem.W.exmOne X.K (.ref D1) (.ref C) = some true) (ex2 : PySem.W.exmOne X.K (.ref D2) (.ref C) = some true) (hN : X.N.Nodup) (hi : X.N[i]? = some n) (hln : X.env.kindOf n = some .local)
    (hb : ∀ (B' : Base) (PXE : Env → DXQ) (W : WX) (pn : List (Addr × Obj)) (xe : Value → Shared → Prop), Takes (X.tr pn xe) W → PassesOwn (model X.prog X.w) X.A X.env xe → XWish X.K B' PXE W → PSs (X.tr pn xe) body (liftS X.K B' (t PXE)))
    (hs1 : ∀ (a : Addr) (oe : Obj) (dd : Addr) (vs : List (Str × V)) (fs : List (Str × D)) (pn : List (Addr × Obj)) (B' : Base), PinE D1 dd (a, oe) → RF (X.suite a ((a, oe) :: pn)).K B'.φ B'.H fs vs → PSs (X.suite a ((a, oe) :: pn)) (b₀ :: suite) (liftS X.K B' (k1 a dd vs fs)))
    (hs2 : ∀ (a : Addr) (oe : Obj) (dd : Addr) (vs : List (Str × V)) (fs : List (Str × D)) (pn : List (Addr × Obj)) (B' : Base), PinE D2 dd (a, oe) → RF (X.suite a ((a, oe) :: pn)).K B'.φ B'.H fs vs → PSs (X.suite a ((a, oe) :: pn)) (b₀ :: suite) (liftS X.K B' (k2 a dd vs fs)))
    (hg : Gl X x := by rfl) (hdb : (x == ("__debug__" : Str)) = false := by decide) (hs : X.stack = X.env :: X.outer := by rfl) (hf : X.env.frame = some X.env.locals := by rfl) :
    PS X (.Try body [.ExceptHandler (some (.Name x np)) (some n) (b₀ :: suite) pos'] [] [] pos) (liftS X.K B (dTryE2 D1 D2 i t k1 k2)) := by
  have R := ps_try_as (X := X) (x := x) (c := .ref C) (i := i) (np := np) (pos := pos) (pos' := pos') (tb := fun W E σ H => ∃ (B' : Base) (PXE : Env → DXQ), XWish X.K B' PXE W ∧ liftS X.K B' (t PXE) E σ H)
    (ts := fun a cls d E σ H => ∃ (B' : Base) (dd : Addr) (vs : List (Str × V)) (fs : List (Str × D)), d = some dd ∧ RF X.K B'.φ B'.H fs vs ∧ ((cls = .ref D1 ∧ liftS X.K B' (k1 a dd vs fs) E σ H) ∨ (cls = .ref D2 ∧ liftS X.K B' (k2 a dd vs fs) E σ H))) (Wout := fun _ _ _ _ => False)
    hs hf hN hi hln ⟨hg, hdb, .inl gC⟩ takes_none5 (fun W pn xe tk po => ⟨fun pins s σ H D I h => by
      obtain ⟨B', PXE, hE, h⟩ := h
      exact (hb B' PXE W pn xe tk po hE).run pins s σ H D I h⟩) (fun a oe cls d pn hz hf => ⟨fun pins s σ H D I h => by
      obtain ⟨B', dd, vs, fs, rfl, hrf, ⟨rfl, h⟩ | ⟨rfl, h⟩⟩ := h
      · exact (hs1 a oe dd vs fs pn B' ⟨hz, hf⟩ hrf).run pins s σ H D I h
      · exact (hs2 a oe dd vs fs pn B' ⟨hz, hf⟩ hrf).run pins s σ H D I h⟩)
  refine PS.imp R fun σ H D h => ?_
  obtain ⟨φ, δ, S, P, e0, rs, rh, ht, le⟩ := h
  refine ⟨⟨φ, H⟩, _, fun σ' φ' H' δ' ex' rs' φ2 H2 S2 cls d fs vs ex2' rh2 hd hdn rf hq => ?_, φ, δ, S, P, .refl, rs, rh, ht, le⟩
  obtain ⟨hi', hk⟩ := hq
  rcases hk with ⟨rfl, hk⟩ | ⟨rfl, hk⟩
  · refine ⟨true, ex1, fun _ a ha => ?_, fun z => nomatch z⟩
    exact ⟨⟨φ2, H2⟩, d, vs, fs, rfl, rf, .inl ⟨rfl, φ2, _, S2, _, .refl, (rs'.ext ex2').set (.obj hd hdn) i, rh2, hk a d vs, (le.ext (ex'.trans ex2')).clr i⟩⟩
  · refine ⟨true, ex2, fun _ a ha => ?_, fun z => nomatch z⟩
    exact ⟨⟨φ2, H2⟩, d, vs, fs, rfl, rf, .inr ⟨rfl, φ2, _, S2, _, .refl, (rs'.ext ex2').set (.obj hd hdn) i, rh2, hk a d vs, (le.ext (ex'.trans ex2')).clr i⟩⟩
end
/-! ### isinstance(e, (A, B)) of a caught error -/
section
variable {X : Cx} {B : Base} {p : Addr × Obj} {C dd : Addr} {vs : List (Str × V)}
theorem kit_any2 {K : PySem.W.Frag} {t v1 v2 : Value} {b1 b2 : Bool} (h1 : PySem.W.kitOne K t v1 = some b1) (h2 : PySem.W.kitOne K t v2 = some b2) : PySem.W.kitAny K t [v1, v2] = some (b1 || b2) := by
  unfold PySem.W.kitAny
  rw [h1]
  cases b1 with
  | true => rfl
  | false =>
    show PySem.W.kitAny K t [v2] = _
    unfold PySem.W.kitAny
    rw [h2]
    cases b2 <;> rfl
theorem call_isPT {b1 b2 : Bool} {c1 c2 : V} {v1 v2 : Value} (hp : p ∈ X.pn) (E : PinE C dd p) (T : ErrC X.K C) (hv1 : ∀ u, RelV c1 u → u = v1) (hv2 : ∀ u, RelV c2 u → u = v2) (hk1 : PySem.W.kitOne X.K (.ref C) v1 = some b1) (hk2 : PySem.W.kitOne X.K (.ref C) v2 = some b2) :
    CallR X (.builtin "isinstance") (fun xs H Q => ∃ tp, xs = [.ref p.1, .ref tp] ∧ H dd = some (.xd vs) ∧ SqT X.K H tp [c1, c2] ∧ Q (.bl (b1 || b2)) H) := by
  intro pins s σ H xs us Q I r h
  obtain ⟨tp, rfl, hd, ht, q⟩ := h
  obtain ⟨u1, u2, rfl, r1, r2⟩ := vals2 r
  cases (show u1 = Value.ref p.1 from r1)
  cases (show u2 = Value.ref tp from r2)
  obtain ⟨od, mA, J, _, _⟩ := inst_at I hp E hd
  obtain ⟨its, ri, pl, _⟩ := I.tuple ht
  obtain ⟨w1, w2, rfl, q1, q2⟩ := vals2 ri
  have e1 := hv1 _ q1
  have e2 := hv2 _ q2
  subst e1 e2
  obtain ⟨⟨cls, d0, dt, sl⟩, ho, hc, n, hdt⟩ := pl
  simp only at hc hdt
  subst hc
  subst hdt
  exact PySem.W.kia_tup (PySem.W.kitx_exc T.cl T.xf.ga T.xf.gg T.xf.exC T.ha T.hn T.ht T.hm) I.kIn J ho (kit_any2 hk1 hk2) (fun z => nomatch z) fun tk => ⟨.bl (b1 || b2), H, I.tok tk, rfl, q⟩
theorem de_isET {a' : Addr} {oe : Obj} {b1 b2 : Bool} {c1 c2 : V} {v1 v2 : Value} {a e1 e2 : Expr} {ta : DT} {k : Nat} {q pos tpos : Pos} (hp : (a', oe) ∈ X.pn) (E : PinE C dd (a', oe)) (T : ErrC X.K C) (hk1 : PySem.W.kitOne X.K (.ref C) v1 = some b1) (hk2 : PySem.W.kitOne X.K (.ref C) v2 = some b2) (hm : X.mg "isinstance" = none)
    (ha : PE X a (lift X.K B ta)) (h1 : PE X e1 (tC c1)) (h2 : PE X e2 (tC c2)) (hv1 : ∀ u, RelV c1 u → u = v1) (hv2 : ∀ u, RelV c2 u → u = v2) (hg : Gl X "isinstance" := by rfl)
    (he : starEach [a, .Tuple [e1, e2] k tpos] X.env = (false, eval a X.env) :: starEach [.Tuple [e1, e2] k tpos] X.env := by rfl) (he2 : starEach [.Tuple [e1, e2] k tpos] X.env = [(false, eval (.Tuple [e1, e2] k tpos) X.env)] := by rfl)
    (ht1 : starEach [e1, e2] X.env = (false, eval e1 X.env) :: starEach [e2] X.env := by rfl) (ht2 : starEach [e2] X.env = [(false, eval e2 X.env)] := by rfl)
    (hpl : (backTo pos (starEach [.Tuple [e1, e2] k tpos] X.env)).any (·.1) = false := by rfl) :
    PE X (.Call (.Name "isinstance" q) [a, .Tuple [e1, e2] k tpos] [] pos) (lift X.K B (dIsE a' dd vs (b1 || b2) ta)) :=
  PE.imp (pe_callB (call_isPT (vs := vs) hp E T hv1 hv2 hk1 hk2) hg hm PyProof.Rows.boot_isinstance (pa_cons ha (pa_cons (pe_tup (pa_cons h1 (pa_cons h2 pa_nil ht2) ht1)) pa_nil he2) he) (by decide) (by decide) he hpl) fun σ H Q h => by
    obtain ⟨φ, δ, S, P, ex, rs, rh, ht, kk⟩ := h
    refine ⟨φ, δ, S, _, ex, rs, rh, ht, fun φ1 H1 d v S1 ee rh1 rd q1 => ?_⟩
    obtain ⟨rfl, q1⟩ := q1
    cases rd with
    | obj hd _ =>
      refine ⟨by show 2 ≤ sizeLine; rw [sizeLine_eq]; omega, fun t hf => ?_⟩
      have ne : dd ≠ t := fun z => by rw [z, hf] at hd; cases hd
      exact ⟨t, rfl, by rw [← hd]; exact upd_ne ne, .inl (.inl upd_same), kk φ1 _ _ _ S1 (ee.trans (Ext.side hf)) (rh1.side hf) (.bl _) q1⟩
end
end DL

set_option Elab.async false
set_option linter.all false
set_option maxRecDepth 100000
set_option autoImplicit false
namespace DL
open PySem PySem.Spec L2 PyProof.Rows

/-! ## x is True, x is not True -/
def dIsB (neg : Bool) : D2
  | .bl a, .bl b, S, Q => Q (.bl (if neg then !decide (a = b) else decide (a = b))) S
  | _, _, _, _ => False
theorem dIsB_b {neg a b : Bool} {S : Store} {Q : DQ} : dIsB neg (.bl a) (.bl b) S Q = Q (.bl (if neg then !decide (a = b) else decide (a = b))) S := Eq.trans rfl rfl
theorem dIsB_t {a : Bool} {S : Store} {Q : DQ} : dIsB false (.bl a) (.bl true) S Q = Q (.bl a) S := by rw [dIsB_b]; cases a <;> rfl
theorem dNotB_t {a : Bool} {S : Store} {Q : DQ} : dIsB true (.bl a) (.bl true) S Q = Q (.bl (!a)) S := by rw [dIsB_b]; cases a <;> rfl
theorem dIsB_f {a : Bool} {S : Store} {Q : DQ} : dIsB false (.bl a) (.bl false) S Q = Q (.bl (!a)) S := by rw [dIsB_b]; cases a <;> rfl
theorem dNotB_f {a : Bool} {S : Store} {Q : DQ} : dIsB true (.bl a) (.bl false) S Q = Q (.bl a) S := by rw [dIsB_b]; cases a <;> rfl
theorem dIsB_ok {K : PySem.W.Frag} : Snd2 K (dIsB false) (fun x y H Q => ∃ a b, x = .bl a ∧ y = .bl b ∧ Q (.bl (decide (a = b))) H) := by
  intro φ H S x y v w P Q rh rx ry h k
  unfold dIsB at h
  split at h <;> first | exact h.elim | skip
  cases rx; cases ry
  exact ⟨_, _, rfl, rfl, k φ H _ _ S .refl rh (.bl _) h⟩
theorem dNotB_ok {K : PySem.W.Frag} : Snd2 K (dIsB true) (fun x y H Q => ∃ a b, x = .bl a ∧ y = .bl b ∧ Q (.bl (!decide (a = b))) H) := by
  intro φ H S x y v w P Q rh rx ry h k
  unfold dIsB at h
  split at h <;> first | exact h.elim | skip
  cases rx; cases ry
  exact ⟨_, _, rfl, rfl, k φ H _ _ S .refl rh (.bl _) h⟩
section
variable {X : Cx} {B : Base} {a b o e : Expr} {ta tb to te : DT} {pos apos cpos : Pos}
theorem de_isB (ha : PE X a (lift X.K B ta)) (hb : PE X b (lift X.K B tb)) : PE X (.Compare a [.Is] [b] pos) (lift X.K B (dOp (dIsB false) ta tb)) := de_cmp dIsB_ok op_is_bl ha hb (nomark _)
theorem de_notB (ha : PE X a (lift X.K B ta)) (hb : PE X b (lift X.K B tb)) : PE X (.Compare a [.IsNot] [b] pos) (lift X.K B (dOp (dIsB true) ta tb)) := de_cmp dNotB_ok op_isnot_bl ha hb (nomark _)
theorem dt_isB (ha : PE X a (lift X.K B ta)) (hb : PE X b (lift X.K B tb)) : PT X (.Compare a [.Is] [b] pos) (liftT X.K B (dTest (dOp (dIsB false) ta tb))) := dt_cmp dIsB_ok op_is_bl ha hb (nomark _)
theorem dt_notB (ha : PE X a (lift X.K B ta)) (hb : PE X b (lift X.K B tb)) : PT X (.Compare a [.IsNot] [b] pos) (liftT X.K B (dTest (dOp (dIsB true) ta tb))) := dt_cmp dNotB_ok op_isnot_bl ha hb (nomark _)

/-! ## s.ljust(n) -/
def isStr : D → (Str → Prop) → Prop
  | .str x, k => k x
  | _, _ => False
theorem isStr_s {x : Str} {k : Str → Prop} : isStr (.str x) k = k x := Eq.trans rfl rfl
theorem isStr_at {K : PySem.W.Frag} {φ : List Addr} {H : Hp} {d : D} {v : V} {k : Str → Prop} (r : RD K φ H d v) (h : isStr d k) : ∃ x, d = .str x ∧ v = .str x ∧ k x := by
  cases d with
  | str x => cases r; exact ⟨x, rfl, rfl, h⟩
  | _ => exact (show False from h).elim
def dLjust (to te : DT) (δ : Env) (S : Store) (Q : DQ) : Prop := to δ S fun x S1 => isStr x fun z => te δ S1 fun y S2 => isI y fun i => PadOk i = true ∧ Q (.str (Txt.ljust z i)) S2
theorem dLjust_eq {δ : Env} {S : Store} {Q : DQ} : dLjust to te δ S Q = to δ S fun x S1 => isStr x fun z => te δ S1 fun y S2 => isI y fun i => PadOk i = true ∧ Q (.str (Txt.ljust z i)) S2 := Eq.trans rfl rfl
theorem de_ljust (ho : PE X o (lift X.K B to)) (he : PE X e (lift X.K B te)) (hbase : attributeBase o "ljust" X.env (eval o X.env) = eval o X.env := by rfl)
    (hfew : ((backTo cpos (starEach [e] X.env)).all (fun x => !x.1) && (backToKw cpos (keywordEach [] X.env)).all (fun x => x.1.isSome)
      && decide ([e].length + ([] : List Keyword).length + (if ([] : List Keyword).isEmpty then 0 else 1) < 30)) = true := by rfl)
    (hline : (apos.endLine == cpos.line) = true := by rfl) (hs : starEach [e] X.env = [(false, eval e X.env)] := by rfl) :
    PE X (.Call (.Attribute o "ljust" apos) [e] [] cpos) (lift X.K B (dLjust to te)) :=
  PE.imp (pe_bm PySem.F.plainAttrs_str PySem.F.slot_str_ljust PySem.F.type_str_ljust mt_ljust ho (pa_cons he pa_nil (by rw [hs]; rfl)) hbase hfew hline (by rw [hs]; rfl) (by rfl)) fun σ H Q h => by
    obtain ⟨φ, δ, S, P, ex, rs, rh, ht, k⟩ := h
    refine ⟨φ, δ, S, _, ex, rs, rh, ht, fun φ1 H1 x v S1 e1 rh1 rx q1 => ?_⟩
    obtain ⟨z, rfl, rfl, q1⟩ := isStr_at rx q1
    refine ⟨rfl, φ1, δ, S1, _, ex.trans e1, rs.ext e1, rh1, q1, fun φ2 H2 y w S2 e2 rh2 ry q2 => ?_⟩
    obtain ⟨i, rfl, q2⟩ := isI_at q2
    cases ry
    exact ⟨z, i, rfl, rfl, q2.1, k φ2 H2 _ _ S2 (e1.trans e2) rh2 (.str _) q2.2⟩
end
end DL

set_option Elab.async false
set_option linter.all false
set_option maxRecDepth 100000
set_option autoImplicit false
set_option maxHeartbeats 4000000
namespace Law61
open PySem PySem.Spec L2 DL L2H
section
def topS (i : Nat) : Stmt := PySem.Challenge.pw_leftspaces_k61_no_lay_in_so_many.main.body.getD i (.Pass ⟨0, 0, 0, 0⟩)
abbrev s_law_feed : Stmt := topS 42
theorem sc_law_feed : FnScope ["_law_script"] ["_law_script"] (defScope s_law_feed) := ⟨rfl, rfl, rfl, by decide +kernel, rfl, by decide +kernel, by decide +kernel⟩
abbrev s_law_draw : Stmt := topS 43
theorem sc_law_draw : FnScope ["_law_feed_here", "_law_many", "_law_found", "_law_at", "_law_cell", "_law_mixed"] ["_law_feed_here", "_law_many"] (defScope s_law_draw) := ⟨rfl, rfl, rfl, by decide +kernel, rfl, by decide +kernel, by decide +kernel⟩
abbrev s_law_same : Stmt := topS 44
theorem sc_law_same : FnScope ["_law_found", "_law_due"] ["_law_found", "_law_due"] (defScope s_law_same) := ⟨rfl, rfl, rfl, by decide +kernel, rfl, by decide +kernel, by decide +kernel⟩
abbrev s_law_words : Stmt := topS 45
theorem sc_law_words : FnScope ["_law_feed_here", "_law_many", "_law_top", "_law_found", "_law_k", "_law_size_here"] ["_law_feed_here", "_law_many"] (defScope s_law_words) := ⟨rfl, rfl, rfl, by decide +kernel, rfl, by decide +kernel, by decide +kernel⟩
abbrev s_law_size : Stmt := topS 46
theorem sc_law_size : FnScope ["_law_feed_here", "_law_some"] ["_law_feed_here"] (defScope s_law_size) := ⟨rfl, rfl, rfl, by decide +kernel, rfl, by decide +kernel, by decide +kernel⟩
abbrev s_law_end : Stmt := topS 47
theorem sc_law_end : FnScope ["_law_words_here", "_law_first", "_law_space_here", "_law_size_here", "_law_k"] ["_law_words_here", "_law_first", "_law_space_here"] (defScope s_law_end) := ⟨rfl, rfl, rfl, by decide +kernel, rfl, by decide +kernel, by decide +kernel⟩
abbrev s_law_space : Stmt := topS 48
theorem sc_law_space : FnScope ["_law_section", "_law_i", "_law_width"] ["_law_section", "_law_i", "_law_width"] (defScope s_law_space) := ⟨rfl, rfl, rfl, by decide +kernel, rfl, by decide +kernel, by decide +kernel⟩
abbrev s_law_lay : Stmt := topS 49
theorem sc_law_lay : FnScope ["_law_feed_here", "_law_section", "_law_width", "_law_found", "_law_count", "_law_far"] ["_law_feed_here", "_law_section", "_law_width"] (defScope s_law_lay) := ⟨rfl, rfl, rfl, by decide +kernel, rfl, by decide +kernel, by decide +kernel⟩
abbrev s_law_sized : Stmt := topS 50
theorem sc_law_sized : FnScope ["_law_section", "_law_size_here"] ["_law_section", "_law_size_here"] (defScope s_law_sized) := ⟨rfl, rfl, rfl, by decide +kernel, rfl, by decide +kernel, by decide +kernel⟩
abbrev s_law_bent : Stmt := topS 51
theorem sc_law_bent : FnScope ["_law_section", "_law_width", "_law_found", "_law_count"] ["_law_section", "_law_width"] (defScope s_law_bent) := ⟨rfl, rfl, rfl, by decide +kernel, rfl, by decide +kernel, by decide +kernel⟩
abbrev s_resized : Stmt := topS 16
theorem sc_resized : FnScope ["section", "high", "wide"] ["section", "high", "wide"] (defScope s_resized) := ⟨rfl, rfl, rfl, by decide +kernel, rfl, by decide +kernel, by decide +kernel⟩
abbrev s_begins : Stmt := topS 6
theorem sc_begins : FnScope ["section", "i", "high", "wide"] ["section", "i"] (defScope s_begins) := ⟨rfl, rfl, rfl, by decide +kernel, rfl, by decide +kernel, by decide +kernel⟩
abbrev s_room : Stmt := topS 7
theorem sc_room : FnScope ["section", "i", "width"] ["section", "i", "width"] (defScope s_room) := ⟨rfl, rfl, rfl, by decide +kernel, rfl, by decide +kernel, by decide +kernel⟩
abbrev s_refuse_longer : Stmt := topS 11
theorem sc_refuse_longer : FnScope ["words", "width", "number", "word"] ["words", "width"] (defScope s_refuse_longer) := ⟨rfl, rfl, rfl, by decide +kernel, rfl, by decide +kernel, by decide +kernel⟩
abbrev s_fill_line : Stmt := topS 12
theorem sc_fill_line : FnScope ["words", "first", "signs", "left", "many"] ["words", "first", "signs"] (defScope s_fill_line) := ⟨rfl, rfl, rfl, by decide +kernel, rfl, by decide +kernel, by decide +kernel⟩
abbrev s_bent : Stmt := topS 10
theorem sc_bent : FnScope ["section", "width", "high", "words", "lay", "many"] ["section", "width"] (defScope s_bent) := ⟨rfl, rfl, rfl, by decide +kernel, rfl, by decide +kernel, by decide +kernel⟩
abbrev s_most_lines : Stmt := topS 17
theorem sc_most_lines : FnScope ["other", "lay", "width", "most", "needed"] ["other", "lay", "width", "most"] (defScope s_most_lines) := ⟨rfl, rfl, rfl, by decide +kernel, rfl, by decide +kernel, by decide +kernel⟩
abbrev s_first_word : Stmt := topS 14
theorem sc_first_word : FnScope ["lay", "i"] ["lay", "i"] (defScope s_first_word) := ⟨rfl, rfl, rfl, by decide +kernel, rfl, by decide +kernel, by decide +kernel⟩
abbrev s_line_step : Stmt := topS 18
theorem sc_line_step : FnScope ["lay", "i"] ["lay", "i"] (defScope s_line_step) := ⟨rfl, rfl, rfl, by decide +kernel, rfl, by decide +kernel, by decide +kernel⟩
abbrev s_is_void : Stmt := topS 19
theorem sc_is_void : FnScope ["step"] ["step"] (defScope s_is_void) := ⟨rfl, rfl, rfl, by decide +kernel, rfl, by decide +kernel, by decide +kernel⟩
abbrev s_is_kept : Stmt := topS 20
theorem sc_is_kept : FnScope ["section", "lay", "other", "i", "step", "elder"] ["section", "lay", "other", "i", "step"] (defScope s_is_kept) := ⟨rfl, rfl, rfl, by decide +kernel, rfl, by decide +kernel, by decide +kernel⟩
abbrev s_priced_steps : Stmt := topS 21
theorem sc_priced_steps : FnScope ["section", "lay", "other", "i", "width", "most", "words", "signs", "told", "first", "farthest", "last", "cost"] ["section", "lay", "other", "i", "width", "most"] (defScope s_priced_steps) := ⟨rfl, rfl, rfl, by decide +kernel, rfl, by decide +kernel, by decide +kernel⟩
abbrev s_prices_ahead : Stmt := topS 26
theorem sc_prices_ahead : FnScope ["steps", "behind", "told", "first", "last", "cost", "price"] ["steps", "behind"] (defScope s_prices_ahead) := ⟨rfl, rfl, rfl, by decide +kernel, rfl, by decide +kernel, by decide +kernel⟩
abbrev s_least_prices : Stmt := topS 25
theorem sc_least_prices : FnScope ["lines", "many", "prices", "steps"] ["lines", "many"] (defScope s_least_prices) := ⟨rfl, rfl, rfl, by decide +kernel, rfl, by decide +kernel, by decide +kernel⟩
abbrev s_cheapest_lay : Stmt := topS 27
theorem sc_cheapest_lay : FnScope ["lines", "prices", "high", "counts", "count", "i", "steps", "first", "last", "cost"] ["lines", "prices", "high"] (defScope s_cheapest_lay) := ⟨rfl, rfl, rfl, by decide +kernel, rfl, by decide +kernel, by decide +kernel⟩
abbrev s_fewest_anew : Stmt := topS 24
theorem sc_fewest_anew : FnScope ["section", "lay", "high", "wide", "width", "most", "other", "lines", "prices", "newer", "i"] ["section", "lay", "high", "wide", "width", "most"] (defScope s_fewest_anew) := ⟨rfl, rfl, rfl, by decide +kernel, rfl, by decide +kernel, by decide +kernel⟩
abbrev s_law_word : Stmt := topS 52
theorem sc_law_word : FnScope ["_law_e"] ["_law_e"] (defScope s_law_word) := ⟨rfl, rfl, rfl, by decide +kernel, rfl, by decide +kernel, by decide +kernel⟩
abbrev s_law_told : Stmt := topS 53
theorem sc_law_told : FnScope ["_law_section", "_law_lay_here", "_law_size_here", "_law_width", "_law_most", "_law_e"] ["_law_section", "_law_lay_here", "_law_size_here", "_law_width", "_law_most"] (defScope s_law_told) := ⟨rfl, rfl, rfl, by decide +kernel, rfl, by decide +kernel, by decide +kernel⟩
abbrev s_anew_lines : Stmt := topS 23
theorem sc_anew_lines : FnScope ["section", "lay", "high", "wide", "newer", "other", "lines", "i"] ["section", "lay", "high", "wide", "newer"] (defScope s_anew_lines) := ⟨rfl, rfl, rfl, by decide +kernel, rfl, by decide +kernel, by decide +kernel⟩
abbrev s_is_number : Stmt := topS 29
theorem sc_is_number : FnScope ["thing"] ["thing"] (defScope s_is_number) := ⟨rfl, rfl, rfl, by decide +kernel, rfl, by decide +kernel, by decide +kernel⟩
abbrev s_are_numbers : Stmt := topS 30
theorem sc_are_numbers : FnScope ["thing", "number"] ["thing"] (defScope s_are_numbers) := ⟨rfl, rfl, rfl, by decide +kernel, rfl, by decide +kernel, by decide +kernel⟩
abbrev s_line_fits : Stmt := topS 8
theorem sc_line_fits : FnScope ["section", "i", "words", "width"] ["section", "i", "words", "width"] (defScope s_line_fits) := ⟨rfl, rfl, rfl, by decide +kernel, rfl, by decide +kernel, by decide +kernel⟩
abbrev s_check_line : Stmt := topS 33
theorem sc_check_line : FnScope ["section", "i", "ahead", "many", "width", "words"] ["section", "i", "ahead", "many", "width"] (defScope s_check_line) := ⟨rfl, rfl, rfl, by decide +kernel, rfl, by decide +kernel, by decide +kernel⟩
abbrev s_check_end : Stmt := topS 34
theorem sc_check_end : FnScope ["section", "lay", "high", "words", "lines"] ["section", "lay"] (defScope s_check_end) := ⟨rfl, rfl, rfl, by decide +kernel, rfl, by decide +kernel, by decide +kernel⟩
abbrev s_lets_lay : Stmt := topS 32
theorem sc_lets_lay : FnScope ["section", "thing", "width", "ahead", "i", "many"] ["section", "thing", "width"] (defScope s_lets_lay) := ⟨rfl, rfl, rfl, by decide +kernel, rfl, by decide +kernel, by decide +kernel⟩
abbrev s_is_lay : Stmt := topS 35
theorem sc_is_lay : FnScope ["section", "thing", "width"] ["section", "thing", "width"] (defScope s_is_lay) := ⟨rfl, rfl, rfl, by decide +kernel, rfl, by decide +kernel, by decide +kernel⟩
abbrev s_is_anew_shape : Stmt := topS 38
theorem sc_is_anew_shape : FnScope ["thing", "number", "newer", "prices"] ["thing"] (defScope s_is_anew_shape) := ⟨rfl, rfl, rfl, by decide +kernel, rfl, by decide +kernel, by decide +kernel⟩
abbrev s_check_rows : Stmt := topS 39
theorem sc_check_rows : FnScope ["prices", "rows", "counts", "k", "row"] ["prices", "rows", "counts"] (defScope s_check_rows) := ⟨rfl, rfl, rfl, by decide +kernel, rfl, by decide +kernel, by decide +kernel⟩
abbrev s_check_prices : Stmt := topS 40
theorem sc_check_prices : FnScope ["prices", "i", "steps", "first", "last", "cost"] ["prices", "i", "steps"] (defScope s_check_prices) := ⟨rfl, rfl, rfl, by decide +kernel, rfl, by decide +kernel, by decide +kernel⟩
abbrev s_lets_anew : Stmt := topS 37
theorem sc_lets_anew : FnScope ["section", "lay", "high", "wide", "thing", "width", "most", "other", "number", "newer", "prices", "i"] ["section", "lay", "high", "wide", "thing", "width", "most"] (defScope s_lets_anew) := ⟨rfl, rfl, rfl, by decide +kernel, rfl, by decide +kernel, by decide +kernel⟩
abbrev s_law_looked : Stmt := topS 54
theorem sc_law_looked : FnScope ["_law_section", "_law_lay_here", "_law_size_here", "_law_thing", "_law_width", "_law_most", "_law_e"] ["_law_section", "_law_lay_here", "_law_size_here", "_law_thing", "_law_width", "_law_most"] (defScope s_law_looked) := ⟨rfl, rfl, rfl, by decide +kernel, rfl, by decide +kernel, by decide +kernel⟩
abbrev s_law : Stmt := topS 55
theorem sc_law : FnScope ["_law_script", "_law_feed_here", "_law_lap", "_law_section", "_law_lay_here", "_law_width", "_law_size_here", "_law_long", "_law_many", "_law_most", "_law_due", "_law_thing", "_law_told_here", "_law_k"] ["_law_script"] (defScope s_law) := ⟨rfl, rfl, rfl, by decide +kernel, rfl, by decide +kernel, by decide +kernel⟩
def bodyS (s : Stmt) (j : Nat) : Stmt := match s with | .ClassDef _ _ _ b _ _ _ _ _ _ _ => b.getD j (.Pass ⟨0, 0, 0, 0⟩) | s => s
abbrev si_NoLay : Stmt := bodyS (topS 4) 0
theorem sci_NoLay : FnScope ["self", "word"] ["self", "word"] (defScope si_NoLay) := ⟨rfl, rfl, rfl, by decide +kernel, rfl, by decide +kernel, by decide +kernel⟩

abbrev si_NoPaper : Stmt := bodyS (topS 3) 0
theorem sci_NoPaper : FnScope ["self", "word", "at"] ["self", "word", "at"] (defScope si_NoPaper) := ⟨rfl, rfl, rfl, by decide +kernel, rfl, by decide +kernel, by decide +kernel⟩
/-- what the top has left -/
structure Facts (K : PySem.W.Frag) (mg : Str → Option Value) where
  f_law_feed : Addr
  fd_law_feed : FuncData
  F_law_feed : Fun K "_law_feed" "_law_feed" s_law_feed f_law_feed fd_law_feed
  g_law_feed : mg "_law_feed" = some (.ref f_law_feed)
  b_law_feed : Binds K fd_law_feed ["_law_script"] []
  f_law_draw : Addr
  fd_law_draw : FuncData
  F_law_draw : Fun K "_law_draw" "_law_draw" s_law_draw f_law_draw fd_law_draw
  g_law_draw : mg "_law_draw" = some (.ref f_law_draw)
  b_law_draw : Binds K fd_law_draw ["_law_feed_here", "_law_many"] []
  f_law_same : Addr
  fd_law_same : FuncData
  F_law_same : Fun K "_law_same" "_law_same" s_law_same f_law_same fd_law_same
  g_law_same : mg "_law_same" = some (.ref f_law_same)
  b_law_same : Binds K fd_law_same ["_law_found", "_law_due"] []
  f_law_words : Addr
  fd_law_words : FuncData
  F_law_words : Fun K "_law_words" "_law_words" s_law_words f_law_words fd_law_words
  g_law_words : mg "_law_words" = some (.ref f_law_words)
  b_law_words : Binds K fd_law_words ["_law_feed_here", "_law_many"] []
  f_law_size : Addr
  fd_law_size : FuncData
  F_law_size : Fun K "_law_size" "_law_size" s_law_size f_law_size fd_law_size
  g_law_size : mg "_law_size" = some (.ref f_law_size)
  b_law_size : Binds K fd_law_size ["_law_feed_here"] []
  f_law_end : Addr
  fd_law_end : FuncData
  F_law_end : Fun K "_law_end" "_law_end" s_law_end f_law_end fd_law_end
  g_law_end : mg "_law_end" = some (.ref f_law_end)
  b_law_end : Binds K fd_law_end ["_law_words_here", "_law_first", "_law_space_here"] []
  f_law_space : Addr
  fd_law_space : FuncData
  F_law_space : Fun K "_law_space" "_law_space" s_law_space f_law_space fd_law_space
  g_law_space : mg "_law_space" = some (.ref f_law_space)
  b_law_space : Binds K fd_law_space ["_law_section", "_law_i", "_law_width"] []
  f_law_lay : Addr
  fd_law_lay : FuncData
  F_law_lay : Fun K "_law_lay" "_law_lay" s_law_lay f_law_lay fd_law_lay
  g_law_lay : mg "_law_lay" = some (.ref f_law_lay)
  b_law_lay : Binds K fd_law_lay ["_law_feed_here", "_law_section", "_law_width"] []
  f_law_sized : Addr
  fd_law_sized : FuncData
  F_law_sized : Fun K "_law_sized" "_law_sized" s_law_sized f_law_sized fd_law_sized
  g_law_sized : mg "_law_sized" = some (.ref f_law_sized)
  b_law_sized : Binds K fd_law_sized ["_law_section", "_law_size_here"] []
  f_law_bent : Addr
  fd_law_bent : FuncData
  F_law_bent : Fun K "_law_bent" "_law_bent" s_law_bent f_law_bent fd_law_bent
  g_law_bent : mg "_law_bent" = some (.ref f_law_bent)
  b_law_bent : Binds K fd_law_bent ["_law_section", "_law_width"] []
  f_resized : Addr
  fd_resized : FuncData
  F_resized : Fun K "resized" "resized" s_resized f_resized fd_resized
  g_resized : mg "resized" = some (.ref f_resized)
  b_resized : Binds K fd_resized ["section", "high", "wide"] []
  f_begins : Addr
  fd_begins : FuncData
  F_begins : Fun K "begins" "begins" s_begins f_begins fd_begins
  g_begins : mg "begins" = some (.ref f_begins)
  b_begins : Binds K fd_begins ["section", "i"] []
  f_room : Addr
  fd_room : FuncData
  F_room : FunD K "room" "room" (defArgs s_room) (defBody s_room) (defScope s_room) [.int 30] [] f_room fd_room
  e1_room : ∃ xs, Vals [.int 30] xs ∧ Binds K fd_room ["section", "i", "width"] xs
  g_room : mg "room" = some (.ref f_room)
  b_room : Binds K fd_room ["section", "i", "width"] []
  f_refuse_longer : Addr
  fd_refuse_longer : FuncData
  F_refuse_longer : Fun K "refuse_longer" "refuse_longer" s_refuse_longer f_refuse_longer fd_refuse_longer
  g_refuse_longer : mg "refuse_longer" = some (.ref f_refuse_longer)
  b_refuse_longer : Binds K fd_refuse_longer ["words", "width"] []
  f_fill_line : Addr
  fd_fill_line : FuncData
  F_fill_line : Fun K "fill_line" "fill_line" s_fill_line f_fill_line fd_fill_line
  g_fill_line : mg "fill_line" = some (.ref f_fill_line)
  b_fill_line : Binds K fd_fill_line ["words", "first", "signs"] []
  f_bent : Addr
  fd_bent : FuncData
  F_bent : FunD K "bent" "bent" (defArgs s_bent) (defBody s_bent) (defScope s_bent) [.int 30] [] f_bent fd_bent
  e1_bent : ∃ xs, Vals [.int 30] xs ∧ Binds K fd_bent ["section", "width"] xs
  g_bent : mg "bent" = some (.ref f_bent)
  b_bent : Binds K fd_bent ["section", "width"] []
  f_most_lines : Addr
  fd_most_lines : FuncData
  F_most_lines : Fun K "most_lines" "most_lines" s_most_lines f_most_lines fd_most_lines
  g_most_lines : mg "most_lines" = some (.ref f_most_lines)
  b_most_lines : Binds K fd_most_lines ["other", "lay", "width", "most"] []
  f_first_word : Addr
  fd_first_word : FuncData
  F_first_word : Fun K "first_word" "first_word" s_first_word f_first_word fd_first_word
  g_first_word : mg "first_word" = some (.ref f_first_word)
  b_first_word : Binds K fd_first_word ["lay", "i"] []
  f_line_step : Addr
  fd_line_step : FuncData
  F_line_step : Fun K "line_step" "line_step" s_line_step f_line_step fd_line_step
  g_line_step : mg "line_step" = some (.ref f_line_step)
  b_line_step : Binds K fd_line_step ["lay", "i"] []
  f_is_void : Addr
  fd_is_void : FuncData
  F_is_void : Fun K "is_void" "is_void" s_is_void f_is_void fd_is_void
  g_is_void : mg "is_void" = some (.ref f_is_void)
  b_is_void : Binds K fd_is_void ["step"] []
  f_is_kept : Addr
  fd_is_kept : FuncData
  F_is_kept : Fun K "is_kept" "is_kept" s_is_kept f_is_kept fd_is_kept
  g_is_kept : mg "is_kept" = some (.ref f_is_kept)
  b_is_kept : Binds K fd_is_kept ["section", "lay", "other", "i", "step"] []
  f_priced_steps : Addr
  fd_priced_steps : FuncData
  F_priced_steps : Fun K "priced_steps" "priced_steps" s_priced_steps f_priced_steps fd_priced_steps
  g_priced_steps : mg "priced_steps" = some (.ref f_priced_steps)
  b_priced_steps : Binds K fd_priced_steps ["section", "lay", "other", "i", "width", "most"] []
  f_prices_ahead : Addr
  fd_prices_ahead : FuncData
  F_prices_ahead : Fun K "prices_ahead" "prices_ahead" s_prices_ahead f_prices_ahead fd_prices_ahead
  g_prices_ahead : mg "prices_ahead" = some (.ref f_prices_ahead)
  b_prices_ahead : Binds K fd_prices_ahead ["steps", "behind"] []
  f_least_prices : Addr
  fd_least_prices : FuncData
  F_least_prices : Fun K "least_prices" "least_prices" s_least_prices f_least_prices fd_least_prices
  g_least_prices : mg "least_prices" = some (.ref f_least_prices)
  b_least_prices : Binds K fd_least_prices ["lines", "many"] []
  f_cheapest_lay : Addr
  fd_cheapest_lay : FuncData
  F_cheapest_lay : Fun K "cheapest_lay" "cheapest_lay" s_cheapest_lay f_cheapest_lay fd_cheapest_lay
  g_cheapest_lay : mg "cheapest_lay" = some (.ref f_cheapest_lay)
  b_cheapest_lay : Binds K fd_cheapest_lay ["lines", "prices", "high"] []
  f_fewest_anew : Addr
  fd_fewest_anew : FuncData
  F_fewest_anew : FunD K "fewest_anew" "fewest_anew" (defArgs s_fewest_anew) (defBody s_fewest_anew) (defScope s_fewest_anew) [.int 30, .non] [] f_fewest_anew fd_fewest_anew
  e1_fewest_anew : ∃ xs, Vals [.non] xs ∧ Binds K fd_fewest_anew ["section", "lay", "high", "wide", "width", "most"] xs
  e2_fewest_anew : ∃ xs, Vals [.int 30, .non] xs ∧ Binds K fd_fewest_anew ["section", "lay", "high", "wide", "width", "most"] xs
  g_fewest_anew : mg "fewest_anew" = some (.ref f_fewest_anew)
  b_fewest_anew : Binds K fd_fewest_anew ["section", "lay", "high", "wide", "width", "most"] []
  f_law_word : Addr
  fd_law_word : FuncData
  F_law_word : Fun K "_law_word" "_law_word" s_law_word f_law_word fd_law_word
  g_law_word : mg "_law_word" = some (.ref f_law_word)
  b_law_word : Binds K fd_law_word ["_law_e"] []
  f_law_told : Addr
  fd_law_told : FuncData
  F_law_told : Fun K "_law_told" "_law_told" s_law_told f_law_told fd_law_told
  g_law_told : mg "_law_told" = some (.ref f_law_told)
  b_law_told : Binds K fd_law_told ["_law_section", "_law_lay_here", "_law_size_here", "_law_width", "_law_most"] []
  f_anew_lines : Addr
  fd_anew_lines : FuncData
  F_anew_lines : Fun K "anew_lines" "anew_lines" s_anew_lines f_anew_lines fd_anew_lines
  g_anew_lines : mg "anew_lines" = some (.ref f_anew_lines)
  b_anew_lines : Binds K fd_anew_lines ["section", "lay", "high", "wide", "newer"] []
  f_is_number : Addr
  fd_is_number : FuncData
  F_is_number : Fun K "is_number" "is_number" s_is_number f_is_number fd_is_number
  g_is_number : mg "is_number" = some (.ref f_is_number)
  b_is_number : Binds K fd_is_number ["thing"] []
  f_are_numbers : Addr
  fd_are_numbers : FuncData
  F_are_numbers : Fun K "are_numbers" "are_numbers" s_are_numbers f_are_numbers fd_are_numbers
  g_are_numbers : mg "are_numbers" = some (.ref f_are_numbers)
  b_are_numbers : Binds K fd_are_numbers ["thing"] []
  f_line_fits : Addr
  fd_line_fits : FuncData
  F_line_fits : FunD K "line_fits" "line_fits" (defArgs s_line_fits) (defBody s_line_fits) (defScope s_line_fits) [.int 30] [] f_line_fits fd_line_fits
  e1_line_fits : ∃ xs, Vals [.int 30] xs ∧ Binds K fd_line_fits ["section", "i", "words", "width"] xs
  g_line_fits : mg "line_fits" = some (.ref f_line_fits)
  b_line_fits : Binds K fd_line_fits ["section", "i", "words", "width"] []
  f_check_line : Addr
  fd_check_line : FuncData
  F_check_line : Fun K "check_line" "check_line" s_check_line f_check_line fd_check_line
  g_check_line : mg "check_line" = some (.ref f_check_line)
  b_check_line : Binds K fd_check_line ["section", "i", "ahead", "many", "width"] []
  f_check_end : Addr
  fd_check_end : FuncData
  F_check_end : Fun K "check_end" "check_end" s_check_end f_check_end fd_check_end
  g_check_end : mg "check_end" = some (.ref f_check_end)
  b_check_end : Binds K fd_check_end ["section", "lay"] []
  f_lets_lay : Addr
  fd_lets_lay : FuncData
  F_lets_lay : FunD K "lets_lay" "lets_lay" (defArgs s_lets_lay) (defBody s_lets_lay) (defScope s_lets_lay) [.int 30] [] f_lets_lay fd_lets_lay
  e1_lets_lay : ∃ xs, Vals [.int 30] xs ∧ Binds K fd_lets_lay ["section", "thing", "width"] xs
  g_lets_lay : mg "lets_lay" = some (.ref f_lets_lay)
  b_lets_lay : Binds K fd_lets_lay ["section", "thing", "width"] []
  f_is_lay : Addr
  fd_is_lay : FuncData
  F_is_lay : Fun K "is_lay" "is_lay" s_is_lay f_is_lay fd_is_lay
  g_is_lay : mg "is_lay" = some (.ref f_is_lay)
  b_is_lay : Binds K fd_is_lay ["section", "thing", "width"] []
  f_is_anew_shape : Addr
  fd_is_anew_shape : FuncData
  F_is_anew_shape : Fun K "is_anew_shape" "is_anew_shape" s_is_anew_shape f_is_anew_shape fd_is_anew_shape
  g_is_anew_shape : mg "is_anew_shape" = some (.ref f_is_anew_shape)
  b_is_anew_shape : Binds K fd_is_anew_shape ["thing"] []
  f_check_rows : Addr
  fd_check_rows : FuncData
  F_check_rows : Fun K "check_rows" "check_rows" s_check_rows f_check_rows fd_check_rows
  g_check_rows : mg "check_rows" = some (.ref f_check_rows)
  b_check_rows : Binds K fd_check_rows ["prices", "rows", "counts"] []
  f_check_prices : Addr
  fd_check_prices : FuncData
  F_check_prices : Fun K "check_prices" "check_prices" s_check_prices f_check_prices fd_check_prices
  g_check_prices : mg "check_prices" = some (.ref f_check_prices)
  b_check_prices : Binds K fd_check_prices ["prices", "i", "steps"] []
  f_lets_anew : Addr
  fd_lets_anew : FuncData
  F_lets_anew : FunD K "lets_anew" "lets_anew" (defArgs s_lets_anew) (defBody s_lets_anew) (defScope s_lets_anew) [.int 30, .non] [] f_lets_anew fd_lets_anew
  e1_lets_anew : ∃ xs, Vals [.non] xs ∧ Binds K fd_lets_anew ["section", "lay", "high", "wide", "thing", "width", "most"] xs
  e2_lets_anew : ∃ xs, Vals [.int 30, .non] xs ∧ Binds K fd_lets_anew ["section", "lay", "high", "wide", "thing", "width", "most"] xs
  g_lets_anew : mg "lets_anew" = some (.ref f_lets_anew)
  b_lets_anew : Binds K fd_lets_anew ["section", "lay", "high", "wide", "thing", "width", "most"] []
  f_law_looked : Addr
  fd_law_looked : FuncData
  F_law_looked : Fun K "_law_looked" "_law_looked" s_law_looked f_law_looked fd_law_looked
  g_law_looked : mg "_law_looked" = some (.ref f_law_looked)
  b_law_looked : Binds K fd_law_looked ["_law_section", "_law_lay_here", "_law_size_here", "_law_thing", "_law_width", "_law_most"] []
  f_law : Addr
  fd_law : FuncData
  F_law : Fun K "law" "law" s_law f_law fd_law
  g_law : mg "law" = some (.ref f_law)
  b_law : Binds K fd_law ["_law_script"] []
  m_ValueError : mg "ValueError" = none
  m_all : mg "all" = none
  m_bool : mg "bool" = none
  m_enumerate : mg "enumerate" = none
  m_int : mg "int" = none
  m_isinstance : mg "isinstance" = none
  m_len : mg "len" = none
  m_max : mg "max" = none
  m_min : mg "min" = none
  m_range : mg "range" = none
  m_repr : mg "repr" = none
  m_reversed : mg "reversed" = none
  m_tuple : mg "tuple" = none
  C_NoLay : Addr
  fI_NoLay : Addr
  fdI_NoLay : FuncData
  X_NoLay : ExC K mg "NoLay" ["word"] C_NoLay fI_NoLay fdI_NoLay
  C_NoPaper : Addr
  fI_NoPaper : Addr
  fdI_NoPaper : FuncData
  X_NoPaper : ExC K mg "NoPaper" ["word", "at"] C_NoPaper fI_NoPaper fdI_NoPaper
  C_LackError : Addr
  gC_LackError : mg "LackError" = some (.ref C_LackError)
  C_LeftError : Addr
  gC_LeftError : mg "LeftError" = some (.ref C_LeftError)
  E_NoLay : ErrC K C_NoLay
  k_NoLay : PySem.W.kitOne K (.ref C_NoLay) (.ref C_NoLay) = some true
  k_NoPaper : PySem.W.kitOne K (.ref C_NoLay) (.ref C_NoPaper) = some false
  k_LackError : PySem.W.kitOne K (.ref C_NoLay) (.ref C_LackError) = some false
  k_ValueError : PySem.W.kitOne K (.ref C_NoLay) (.type "ValueError") = some true
  x_LeftError : PySem.W.exmOne K (.ref C_NoLay) (.ref C_LeftError) = some true
  E_NoPaper : ErrC K C_NoPaper
  k_NoPaper_NoLay : PySem.W.kitOne K (.ref C_NoPaper) (.ref C_NoLay) = some false
  k_NoPaper_NoPaper : PySem.W.kitOne K (.ref C_NoPaper) (.ref C_NoPaper) = some true
  k_NoPaper_LackError : PySem.W.kitOne K (.ref C_NoPaper) (.ref C_LackError) = some false
  k_NoPaper_ValueError : PySem.W.kitOne K (.ref C_NoPaper) (.type "ValueError") = some true
  x_NoPaper_LeftError : PySem.W.exmOne K (.ref C_NoPaper) (.ref C_LeftError) = some true
variable {P : Program} {w : World} {K : PySem.W.Frag} {mg : Str → Option Value} {base : Heap}
/-! ### running a reading: one word for it -/
theorem dGet_nil {i : Nat} {k : D → Prop} : dGet [] i k = False := by cases i <;> rfl
theorem dGet_zero {o : Option D} {r : DL.Env} {k : D → Prop} : dGet (o :: r) 0 k = optD o k := Eq.trans rfl rfl
theorem dGet_succ {o : Option D} {r : DL.Env} {n : Nat} {k : D → Prop} : dGet (o :: r) (n + 1) k = dGet r n k := Eq.trans rfl rfl
theorem dstart_mk {N : List Str} {ds : List D} : dstart N ds = ds.map some ++ List.replicate (N.length - ds.length) none := Eq.trans rfl rfl
theorem optD_some {d : D} {k : D → Prop} : optD (some d) k = k d := Eq.trans rfl rfl
theorem optE_some {d : DL.Env} {k : DL.Env → Prop} : optE (some d) k = k d := Eq.trans rfl rfl
theorem isB_bl {b : Bool} {k : Bool → Prop} : isB (.bl b) k = k b := Eq.trans rfl rfl
theorem isS_str {b : Str} {k : Str → Prop} : isS (.str b) k = k b := Eq.trans rfl rfl
theorem bIf_t {x y : Prop} : bIf true x y = x := Eq.trans rfl rfl
theorem bIf_f {x y : Prop} : bIf false x y = y := Eq.trans rfl rfl
theorem bIf_T {d : Decidable True} {x y : Prop} : bIf (@decide True d) x y = x := by rw [decide_eq_true trivial]; rfl
theorem bIf_dec {c : Prop} [Decidable c] {x y : Prop} (h1 : c → x) (h2 : ¬ c → y) : bIf (decide c) x y := by
  by_cases h : c
  · rw [decide_eq_true h]; exact h1 h
  · rw [decide_eq_false h]; exact h2 h
theorem bIf_not {b : Bool} {x y : Prop} : bIf (!b) x y = bIf b y x := by cases b <;> rfl
theorem bIf_both {b : Bool} {x y : Prop} (h1 : b = true → x) (h2 : b = false → y) : bIf b x y := by
  cases b
  · exact h2 rfl
  · exact h1 rfl
theorem dLst_of {S : Store} {n : Nat} {xs : List D} {k : List D → Prop} (h : S[n]? = some (.lst xs)) : dLst S n k = k xs := by unfold dLst; rw [h]
theorem dMut_of {S : Store} {n : Nat} {xs : List D} {k : List D → Prop} (h : S[n]? = some (.lst xs)) : dMut S n k = k xs := by unfold dMut; rw [h]
theorem dDic_of {S : Store} {n : Nat} {xs : List (Key × D)} {k : List (Key × D) → Prop} (h : S[n]? = some (.dic xs)) : dDic S n k = k xs := by unfold dDic; rw [h]
theorem get_new {S : Store} {c : Cell} : (S ++ [c])[S.length]? = some c := List.getElem?_concat_length
theorem set_new {S : Store} {c c' : Cell} : (S ++ [c]).set S.length c' = S ++ [c'] := by
  rw [List.set_append_right _ _ (Nat.le_refl _), Nat.sub_self]
  rfl
theorem cmul_l {i j : Int} (h1 : -18446744073709551616 < i) (h2 : i < 18446744073709551616) : CMul i j := .inl ⟨by simpa using h1, by simpa using h2⟩
theorem cmul_r {i j : Int} (h1 : -18446744073709551616 < j) (h2 : j < 18446744073709551616) : CMul i j := .inr ⟨by simpa using h1, by simpa using h2⟩
theorem cpow_of {i j : Int} (h0 : 0 ≤ j) (h1 : j ≤ 1000000) (h2 : -18446744073709551616 < i) (h3 : i < 18446744073709551616) : CPow i j := ⟨h0, h1, by
  have : (2 : Nat) ^ 64 = 18446744073709551616 := by decide
  omega⟩
theorem cdiv_of {i j : Int} (h1 : 1 ≤ j) (h2 : j < 1073741824) : CDivN i j := ⟨by omega, by omega⟩
theorem sq_le {k m : Int} (h0 : 0 ≤ k) (h1 : k ≤ m) : 0 ≤ k * k ∧ k * k ≤ m * m := ⟨Int.mul_nonneg h0 h0, Int.mul_le_mul h1 h1 h0 (by omega)⟩
theorem optD_in {xs : List D} {i : Int} {k : D → Prop} (h0 : 0 ≤ i) (h1 : i < xs.length) (h : ∀ d ∈ xs, k d) : optD (atI xs i) k := by
  have hj : i.toNat < xs.length := by omega
  have e : i = ((i.toNat : Nat) : Int) := by omega
  have := atI_nat (xs := xs) (j := i.toNat) (v := xs[i.toNat]) (List.getElem?_eq_getElem hj)
  rw [← e] at this
  rw [this]
  exact h _ (List.getElem_mem hj)
theorem dIx_in {x : Str} {i : Int} {S : Store} {Q : DQ} (hl : x.length ≤ sizeLine) (h0 : 0 ≤ i) (h1 : i < x.length) (h : ∀ c ∈ x.cps.toList, Q (.str ⟨#[c]⟩) S) : dIx (.str x) (.int i) S Q := by
  rw [dIx_s]
  have hj : i.toNat < x.cps.toList.length := by have : x.cps.toList.length = x.length := rfl; omega
  have e : i = ((i.toNat : Nat) : Int) := by omega
  have := atI_nat (xs := x.cps.toList) (j := i.toNat) (v := x.cps.toList[i.toNat]) (List.getElem?_eq_getElem hj)
  rw [← e] at this
  rw [this]
  exact ⟨hl, h _ (List.getElem_mem hj)⟩
theorem joinL_nil : ∀ l : List (List Nat), TL.joinL [] l = l.flatten
  | [] => rfl
  | [p] => by simp [TL.joinL]
  | p :: q :: r => by rw [TL.joinL, List.flatten_cons, joinL_nil (q :: r), List.nil_append]
/-- signs joined without a mark -/
theorem join_signs (ys : List Str) : (Txt.join "" ys).cps.toList = (ys.map (·.cps.toList)).flatten := by
  rw [TL.join_eq]
  have h := TL.tl_join "" ys
  have e : TL.tl ("" : Str) = [] := by decide +kernel
  rw [e, joinL_nil] at h
  exact h
theorem app_get {S T : Store} {n : Nat} : (S ++ T)[S.length + n]? = T[n]? := by rw [List.getElem?_append_right (by omega), Nat.add_sub_cancel_left]
theorem dLst_app {S T : Store} {n : Nat} {k : List D → Prop} : dLst (S ++ T) (S.length + n) k = dLst T n k := by unfold dLst; rw [app_get]
theorem dLst_app0 {S T : Store} {k : List D → Prop} : dLst (S ++ T) S.length k = dLst T 0 k := dLst_app (n := 0)
theorem dLst_zero {xs : List D} {T : Store} {k : List D → Prop} : dLst (Cell.lst xs :: T) 0 k = k xs := Eq.trans rfl rfl
theorem dLst_succ {c : Cell} {T : Store} {n : Nat} {k : List D → Prop} : dLst (c :: T) (n + 1) k = dLst T n k := Eq.trans rfl rfl
theorem dMut_app {S T : Store} {n : Nat} {k : List D → Prop} : dMut (S ++ T) (S.length + n) k = dMut T n k := by unfold dMut; rw [app_get]
theorem dMut_app0 {S T : Store} {k : List D → Prop} : dMut (S ++ T) S.length k = dMut T 0 k := dMut_app (n := 0)
theorem dMut_zero {xs : List D} {T : Store} {k : List D → Prop} : dMut (Cell.lst xs :: T) 0 k = k xs := Eq.trans rfl rfl
theorem dMut_succ {c : Cell} {T : Store} {n : Nat} {k : List D → Prop} : dMut (c :: T) (n + 1) k = dMut T n k := Eq.trans rfl rfl
theorem set_app {S T : Store} {n : Nat} {c : Cell} : (S ++ T).set (S.length + n) c = S ++ T.set n c := by rw [List.set_append_right _ _ (by omega), Nat.add_sub_cancel_left]
theorem set_app0 {S T : Store} {c : Cell} : (S ++ T).set S.length c = S ++ T.set 0 c := set_app (n := 0)
local macro_rules | `(tactic| walk_at "dl") => `(tactic| simp -implicitDefEqProofs only [dSeq_E, dSet_E, dOp_E, dUn_E, dCB_E, dCall_E, dCallD_E, dVar_E, dC_E, dGet_zero, dGet_succ, optD_some, optE_some, isB_bl, isS_str, isI_i, isR_r, isP_mk, isD1_mk, optN_some, optK_some, optKs_some, bIf_t, bIf_f, bIf_not, bIf_T, dNil_E, dCons_E, dTup_E, dLen_E, dKeep_E,
  dAdd_i, dAdd_s, dAdd_t, dAdd_l, dSub_i, dMul_i, dMul_l, dNeg_i, dI_i, dIx_t, dIx_l, dIxL_eq, dNoPart_E, dPart_eq, dCut_t, dCut_s, dCut_l, dCut_f, dSl_E, dSlL_E, dTest_E, dTruth_E, dTru_b, dTru_i, dTru_n, dTru_t, dTru_l, dAndT_E, dOrT_E, dNotT_E, dAnd_E, dOr_E, dNot_E, dIf_E, dChain_E, dLt_i, dLe_i, dGt_i, dGe_i, dLe_s, dLt_s, dIsN_n, dIsN_i, dIsN_s, dIsN_t, dIsN_r, dIn_s, dNotIn_s, dInA_s, dNotInA_s, dInA_l, dNotInA_l, iRev_eq, dTupRev_eq, iEnumL_eq, isL_l, dIndex_eq, dEq_i, dEq_s, dNe_i, dNe_s,
  dNext_E, dBreak_E, dCont_E, dDrop_E, dRet_E, dRetN_E, dIfS_E, dAsg_E, dBind_nm, dBind_tp, dSets_nil, dSets_cons, dPar_eq, dPar3_eq, is3_c, dAug_eq, dSetIx_eq, keyD_i, keyD_s, dDGet_eq, dDPut_eq, dLenV_s, dLenV_t, dLenV_l, dLenV_f, dLenL_E, dTupV_t, dTupV_l, dTupL_E, dMk_E, dItems_t, dItems_l, dItems_f, dTwo_i, one_mk, dToInt_i, dToInt_b, dToStr_i, dJoinL_E, dJoinV_eq, jOf_t, jOf_l,
  dIsi_n, dIsi_b, dIsi_i, dIsi_s, dIsi_t, DL.kInt, DL.kBool, DL.kStr, DL.kTup, DL.kLst, DL.kDic, dAppend_eq, dExtendL_eq, iEnumD_eq, isT1_mk, dAugIx_E, dMulT_i, dMulS_i, dSorted_E, isT2_mk, iZip2_eq, isZ_t, isZ_l, dRevV_t, dRevV_l, dLRg_E, dMaxT_t, dPopAt_eq, dUpper_s, dPairs_nil, dPairs_cons, dDisp_eq, keysD_nil, iOf, iValD_t, iValD_s, iValD_l, iR1_eq, iR2_eq, dForI_E, dLc_E, dIsNil_E, dYes_E, iFresh_E, dIsB_t, dNotB_t, dIsB_f, dNotB_f, dLjust_eq, isStr_s, dwipe_nil, dwipe_cons,
  List.set_cons_zero, List.set_cons_succ, List.getElem?_cons_zero, List.getElem?_cons_succ, List.map_cons, List.map_nil, dstart_mk, List.replicate_succ, List.replicate_zero, List.cons_append, List.nil_append, List.append_nil, List.length_cons, List.length_nil, Nat.reduceSub, Nat.reduceAdd, Nat.zero_add])
/-! ### the feed: what a law draws with -/
structure Feed where
  ns : List Int
  spot : Int
  rest : Int
  calls : Int
def Feed.S (τ : Feed) : Store := [.lst (τ.ns.map .int), .lst [.ref 0, .int τ.spot, .int τ.rest, .int τ.calls]]
/-- at most n draws so far -/
structure Feed.Ok (τ : Feed) (n : Int) : Prop where
  len : τ.ns.length ≤ 63
  spot0 : 0 ≤ τ.spot
  spot1 : τ.spot ≤ τ.calls
  calls0 : 0 ≤ τ.calls
  calls1 : τ.calls ≤ n
theorem Feed.Ok.mono {τ : Feed} {n m : Int} (h : τ.Ok n) (hm : n ≤ m) : τ.Ok m := ⟨h.len, h.spot0, h.spot1, h.calls0, Int.le_trans h.calls1 hm⟩
theorem feed_lst {τ : Feed} {S : Store} {k : List D → Prop} : dLst (τ.S ++ S) 1 k = k [.ref 0, .int τ.spot, .int τ.rest, .int τ.calls] := Eq.trans rfl rfl
theorem feed_mut {τ : Feed} {S : Store} {k : List D → Prop} : dMut (τ.S ++ S) 1 k = k [.ref 0, .int τ.spot, .int τ.rest, .int τ.calls] := Eq.trans rfl rfl
theorem feed_ns {τ : Feed} {S : Store} {k : List D → Prop} : dLst (τ.S ++ S) 0 k = k (τ.ns.map .int) := Eq.trans rfl rfl
theorem feed_set {τ : Feed} {S : Store} {a b c : Int} : (τ.S ++ S).set 1 (.lst [.ref 0, .int a, .int b, .int c]) = Feed.S ⟨τ.ns, a, b, c⟩ ++ S := Eq.trans rfl rfl
theorem at_0 {a b c d : D} : atI [a, b, c, d] 0 = some a := Eq.trans rfl rfl
theorem at_1 {a b c d : D} : atI [a, b, c, d] 1 = some b := Eq.trans rfl rfl
theorem at_2 {a b c d : D} : atI [a, b, c, d] 2 = some c := Eq.trans rfl rfl
theorem at_3 {a b c d : D} : atI [a, b, c, d] 3 = some d := Eq.trans rfl rfl
theorem ix_1 : ixN 4 1 = some 1 := Eq.trans rfl rfl
theorem ix_2 : ixN 4 2 = some 2 := Eq.trans rfl rfl
theorem ix_3 : ixN 4 3 = some 3 := Eq.trans rfl rfl
theorem feed_len {τ : Feed} : τ.S.length = 2 := Eq.trans rfl rfl
theorem feed_app {τ : Feed} {S T : Store} : τ.S ++ S ++ T = τ.S ++ (S ++ T) := List.append_assoc ..
theorem feed_get {τ : Feed} {S : Store} {n : Nat} : (τ.S ++ S)[2 + n]? = S[n]? := by
  rw [List.getElem?_append_right (by show 2 ≤ 2 + n; omega)]
  show S[2 + n - 2]? = _
  rw [Nat.add_sub_cancel_left]
theorem dLst_feed {τ : Feed} {X : Store} {m : Nat} {k : List D → Prop} : dLst (τ.S ++ X) (2 + m) k = dLst X m k := by unfold dLst; rw [feed_get]
theorem dMut_feed {τ : Feed} {X : Store} {m : Nat} {k : List D → Prop} : dMut (τ.S ++ X) (2 + m) k = dMut X m k := by unfold dMut; rw [feed_get]
theorem set_feed {τ : Feed} {X : Store} {m : Nat} {c : Cell} : (τ.S ++ X).set (2 + m) c = τ.S ++ X.set m c := by
  rw [List.set_append_right _ _ (by show 2 ≤ 2 + m; omega)]
  show τ.S ++ X.set (2 + m - 2) c = _
  rw [Nat.add_sub_cancel_left]
theorem dLst_feed0 {τ : Feed} {X : Store} {k : List D → Prop} : dLst (τ.S ++ X) 2 k = dLst X 0 k := dLst_feed (m := 0)
theorem dMut_feed0 {τ : Feed} {X : Store} {k : List D → Prop} : dMut (τ.S ++ X) 2 k = dMut X 0 k := dMut_feed (m := 0)
theorem set_feed0 {τ : Feed} {X : Store} {c : Cell} : (τ.S ++ X).set 2 c = τ.S ++ X.set 0 c := set_feed (m := 0)
theorem dLst_feed3 {τ : Feed} {S0 X : Store} {m : Nat} {k : List D → Prop} : dLst (τ.S ++ (S0 ++ X)) (2 + S0.length + m) k = dLst X m k := by rw [Nat.add_assoc, dLst_feed, dLst_app]
theorem dMut_feed3 {τ : Feed} {S0 X : Store} {m : Nat} {k : List D → Prop} : dMut (τ.S ++ (S0 ++ X)) (2 + S0.length + m) k = dMut X m k := by rw [Nat.add_assoc, dMut_feed, dMut_app]
theorem dLst_app3 {S T X : Store} {m : Nat} {k : List D → Prop} : dLst (S ++ (T ++ X)) (S.length + T.length + m) k = dLst X m k := by rw [Nat.add_assoc, dLst_app, dLst_app]
theorem dMut_app3 {S T X : Store} {m : Nat} {k : List D → Prop} : dMut (S ++ (T ++ X)) (S.length + T.length + m) k = dMut X m k := by rw [Nat.add_assoc, dMut_app, dMut_app]
local macro_rules | `(tactic| walk_at "feed") => `(tactic| simp -implicitDefEqProofs only [feed_app, feed_len, dLst_feed3, dMut_feed3, dLst_app3, dMut_app3, dLst_feed, dMut_feed, set_feed, dLst_feed0, dMut_feed0, set_feed0, List.append_assoc, List.cons_append, List.nil_append, List.append_nil, List.length_append, List.length_cons, List.length_nil, Nat.reduceAdd, Nat.zero_add, Nat.add_zero, dLst_app, dLst_app0, dLst_zero, dLst_succ, dMut_app, dMut_app0, dMut_zero, dMut_succ, set_app, set_app0, List.set_cons_zero, List.set_cons_succ,
  feed_lst, feed_mut, feed_ns, feed_set, at_0, at_1, at_2, at_3, ix_1, ix_2, ix_3, true_and, optD_some, optN_some, ne_eq, not_false_eq_true, and_self])
local macro_rules | `(tactic| walk_at "go") => `(tactic| repeat (first | walk_at "dl" | walk_at "feed"))
/-- the feed of a script -/
def spFeed : DSp := fun ds S Q _ => ∃ ns : List Int, ds = [.fz (ns.map D.int)] ∧ S = [] ∧ ns.length ≤ 63 ∧ ∀ τ : Feed, τ.Ok 0 → Q (.ref 1) (τ.S ++ [])
theorem spFeed_len {ds : List D} {S : Store} {Q : DQ} {E : DXQ} (h : spFeed ds S Q E) : ds.length = 1 := by
  obtain ⟨_, rfl, _⟩ := h; rfl
theorem ok_law_feed (T : Facts K mg) : DFn P w K mg base CX0 1 T.f_law_feed T.fd_law_feed ["_law_script"] spFeed := by
  refine okD T.F_law_feed sc_law_feed (by rintro ds S Q E h; exact spFeed_len h) (fun cdv A outer s H E B PX hr hgd => ⟨_, (dss_one (ds_ret (de_keep (dl_lst (da_cons (de_slice (de_var 0) do_none (do_some de_int)) (da_cons de_int (da_cons de_int (da_cons de_int da_nil)))))))), ?_⟩)
  intro ds S PQ h
  obtain ⟨ns, rfl, rfl, hl, q⟩ := h
  walk_at "go"
  have e : cutD (ns.map D.int) none (some 63) = ns.map D.int := cutD_whole ⟨rfl, by rw [List.length_map]; show min 63 ns.length = ns.length; omega⟩
  rw [e]
  exact ⟨by rw [sizeLine_eq]; omega, q ⟨ns, 0, 0, 0⟩ ⟨hl, Int.le_refl 0, Int.le_refl 0, Int.le_refl 0, Int.le_refl 0⟩⟩
/-- a draw: some number below many -/
def spDraw : DSp := fun ds S Q _ => ∃ (τ : Feed) (S0 : Store) (many n : Int), ds = [.ref 1, .int many] ∧ S = τ.S ++ S0 ∧ τ.Ok n ∧ n < 10000000 ∧ 1 ≤ many ∧ many < 1000000000 ∧
  ∀ (τ' : Feed) (r : Int), τ'.Ok (n + 1) → 0 ≤ r → r < many → Q (.int r) (τ'.S ++ S0)
theorem spDraw_len {ds : List D} {S : Store} {Q : DQ} {E : DXQ} (h : spDraw ds S Q E) : ds.length = 2 := by
  obtain ⟨_, _, _, _, rfl, _⟩ := h; rfl
theorem ok_law_draw (T : Facts K mg) : DFn P w K mg base CX0 1 T.f_law_draw T.fd_law_draw ["_law_feed_here", "_law_many"] spDraw := by
  refine okD T.F_law_draw sc_law_draw (by rintro ds S Q E h; exact spDraw_len h) (fun cdv A outer s H E B PX hr hgd => ⟨_, (dss_cons (ds_setIx (de_add (de_ix (de_var 0) de_int) de_int) (de_var 0) de_int)
  (dss_cons (ds_if (dt_gt (de_ix (de_var 0) de_int) de_int) (dss_cons (ds_set (i := 2) (de_mod (de_ix (de_var 0) de_int) (de_var 1)) sc_law_draw.nd)
  (dss_cons (ds_setIx (de_fdiv (de_ix (de_var 0) de_int) (de_var 1)) (de_var 0) de_int)
  (dss_one (ds_ret (de_var 2))))) dss_nil)
  (dss_cons (ds_set (i := 3) (de_ix (de_var 0) de_int) sc_law_draw.nd)
  (dss_cons (ds_setIx (de_add (de_var 3) de_int) (de_var 0) de_int)
  (dss_cons (ds_set (i := 4) (de_if (dt_gt (de_len T.m_len (de_ix (de_var 0) de_int)) de_int) (de_ix (de_ix (de_var 0) de_int) (de_mod (de_var 3) (de_len T.m_len (de_ix (de_var 0) de_int)))) de_int) sc_law_draw.nd)
  (dss_cons (ds_if (PW.pt (dw_and (dt_ge (de_var 4) (de_pow de_int de_int)) (dw_and1 (dt_lt (de_var 3) (de_len T.m_len (de_ix (de_var 0) de_int)))))) (dss_cons (ds_setIx (de_fdiv (de_var 4) (de_var 1)) (de_var 0) de_int)
  (dss_one (ds_ret (de_mod (de_var 4) (de_var 1))))) dss_nil)
  (dss_cons (ds_set (i := 5) (de_mod (de_pow (de_add (de_add (de_mod (de_var 4) de_int) (de_mul de_int (de_ix (de_var 0) de_int))) de_int) de_int) de_int) sc_law_draw.nd)
  (dss_one (ds_ret (de_mod (de_fdiv (de_mod (de_pow (de_add (de_var 5) (de_mul (de_mul de_int (de_ix (de_var 0) de_int)) (de_ix (de_var 0) de_int))) de_int) de_int) de_int) (de_var 1))))))))))), ?_⟩)
  intro ds S PQ h
  obtain ⟨τ, S0, many, n, rfl, rfl, ok, hn, hm1, hm2, q⟩ := h
  walk_at "go"
  obtain ⟨hl, hs0, hs1, hc0, hc1⟩ := ok
  have step : ∀ (spot rest : Int) (r : Int), 0 ≤ spot → spot ≤ τ.calls + 1 → 0 ≤ r → r < many → PQ (.int r) (Feed.S ⟨τ.ns, spot, rest, τ.calls + 1⟩ ++ S0) := fun spot rest r h1 h2 h3 h4 =>
    q ⟨τ.ns, spot, rest, τ.calls + 1⟩ r ⟨hl, h1, h2, by show (0 : Int) ≤ τ.calls + 1; omega, by show τ.calls + 1 ≤ n + 1; omega⟩ h3 h4
  have nz : ¬ many = 0 := by omega
  have dv : ∀ i, CDivN i many := fun i => cdiv_of hm1 (by omega)
  have fm : ∀ i : Int, 0 ≤ i.fmod many ∧ i.fmod many < many := fun i => ⟨Int.fmod_nonneg_of_pos i (by omega), Int.fmod_lt_of_pos i (by omega)⟩
  have f1 : ∀ c : Int, 0 ≤ c.fmod 2147483629 ∧ c.fmod 2147483629 < 2147483629 := fun c => ⟨Int.fmod_nonneg_of_pos c (by decide), Int.fmod_lt_of_pos c (by decide)⟩
  have f2 : ∀ c : Int, 0 ≤ c.fmod 2147483647 ∧ c.fmod 2147483647 < 2147483647 := fun c => ⟨Int.fmod_nonneg_of_pos c (by decide), Int.fmod_lt_of_pos c (by decide)⟩
  have sq := sq_le (k := τ.calls + 1) (m := 10000000) (by omega) (by omega)
  have e2 : 91801 * (τ.calls + 1) * (τ.calls + 1) = 91801 * ((τ.calls + 1) * (τ.calls + 1)) := Int.mul_assoc _ _ _
  have p1 : ∀ c : Int, CPow (c.fmod 2147483629 + 60013 * (τ.calls + 1) + 23) 5 := fun c => by
    have := f1 c
    exact cpow_of (by decide) (by decide) (by omega) (by omega)
  have p2 : ∀ c : Int, CPow (c.fmod 2147483647 + 91801 * (τ.calls + 1) * (τ.calls + 1)) 5 := fun c => by
    have := f2 c
    rw [e2]
    exact cpow_of (by decide) (by decide) (by omega) (by omega)
  have m1 : CMul 60013 (τ.calls + 1) := cmul_l (by decide) (by decide)
  have m2 : CMul 91801 (τ.calls + 1) := cmul_l (by decide) (by decide)
  have m3 : CMul (91801 * (τ.calls + 1)) (τ.calls + 1) := cmul_r (by omega) (by omega)
  have d64 : ∀ i, CDivN i 64 := fun i => cdiv_of (by decide) (by decide)
  have c18 : CPow 10 18 := cpow_of (by decide) (by decide) (by decide) (by decide)
  have n1 : ¬ (2147483629 : Int) = 0 := by decide
  have n2 : ¬ (2147483647 : Int) = 0 := by decide
  have n3 : ¬ (2147483587 : Int) = 0 := by decide
  refine bIf_dec (fun h => ⟨nz, dv _, step _ _ _ hs0 (by omega) (fm _).1 (fm _).2⟩) fun _ => bIf_dec (fun h => ?_) fun _ => ?_
  · rw [List.length_map] at h
    have hlt := Int.fmod_lt_of_pos τ.spot h
    have hge := Int.fmod_nonneg_of_pos τ.spot h
    refine ⟨by rw [List.length_map]; omega, optD_in (by rw [List.length_map]; exact hge) (by rw [List.length_map]; exact hlt) fun d hd => ?_⟩
    obtain ⟨c, _, rfl⟩ := List.mem_map.mp hd
    walk_at "go"
    refine ⟨c18, bIf_dec (fun _ => bIf_dec (fun _ => ⟨dv _, nz, step _ _ _ (by omega) (by omega) (fm _).1 (fm _).2⟩) fun _ => ?_) fun _ => ?_⟩
    · exact ⟨n1, m1, p1 _, n2, m2, m3, p2 _, n3, d64 _, nz, step _ _ _ (by omega) (by omega) (fm _).1 (fm _).2⟩
    · exact ⟨n1, m1, p1 _, n2, m2, m3, p2 _, n3, d64 _, nz, step _ _ _ (by omega) (by omega) (fm _).1 (fm _).2⟩
  · refine ⟨c18, bIf_dec (fun _ => bIf_dec (fun _ => ⟨dv _, nz, step _ _ _ (by omega) (by omega) (fm _).1 (fm _).2⟩) fun _ => ?_) fun _ => ?_⟩
    · exact ⟨n1, m1, p1 _, n2, m2, m3, p2 _, n3, d64 _, nz, step _ _ _ (by omega) (by omega) (fm _).1 (fm _).2⟩
    · exact ⟨n1, m1, p1 _, n2, m2, m3, p2 _, n3, d64 _, nz, step _ _ _ (by omega) (by omega) (fm _).1 (fm _).2⟩
def spSame : DSp := fun ds S Q _ => ∃ (x y : D) (p q : PyData), ds = [x, y] ∧ Py S x p ∧ Py S y q ∧ Fit p ∧ Fit q ∧ Q (.bl (decide (p.shown = q.shown))) S
theorem spSame_len {ds : List D} {S : Store} {Q : DQ} {E : DXQ} (h : spSame ds S Q E) : ds.length = 2 := by
  obtain ⟨_, _, _, _, rfl, _⟩ := h; rfl
theorem ok_law_same (T : Facts K mg) : DFn P w K mg base CX0 1 T.f_law_same T.fd_law_same ["_law_found", "_law_due"] spSame := by
  refine okD T.F_law_same sc_law_same (by rintro ds S Q E h; exact spSame_len h) (fun cdv A outer s H E B PX hr hgd => ⟨_, (dss_one (ds_ret (de_eq hr (de_repr hr hgd T.m_repr (de_var 0)) (de_repr hr hgd T.m_repr (de_var 1))))), ?_⟩)
  intro ds S PQ h
  obtain ⟨x, y, p, p', rfl, h1, h2, f1, f2, q⟩ := h
  walk_at "go"
  refine ⟨p, h1, f1, ?_⟩
  walk_at "go"
  refine ⟨p', h2, f2, ?_⟩
  walk_at "go"
  exact q
def Wd (w : Str) : Prop := 1 ≤ w.length ∧ w.length ≤ 8 ∧ ∀ c ∈ w.cps.toList, 97 ≤ c ∧ c ≤ 122
theorem Wd.cp {w : Str} (h : Wd w) : Cp w := fun c hc => by have := (h.2.2 c hc).2; omega
/-- turns: rows of a least, rising from 1, and colours -/
structure Turns where
  rows : List (Int × List Str)
def rowD (r : Int × List Str) : D := .tup [.int r.1, .tup (r.2.map .str)]
structure TurnsOk (rs : List (Int × List Str)) : Prop where
  some_ : 1 ≤ rs.length
  four : rs.length ≤ 4
  first : ∀ r, rs[0]? = some r → r.1 = 1
  rise : rs.Pairwise fun r q => r.1 < q.1
  small : ∀ r ∈ rs, 1 ≤ r.1 ∧ r.1 ≤ 2000000000
  ring : ∀ r ∈ rs, 1 ≤ r.2.length ∧ r.2.length ≤ 6 ∧ ∀ x ∈ r.2, Wd x
/-- as drawn -/
def Low (rs : List (Int × List Str)) : Prop := ∀ r ∈ rs, r.1 ≤ 4000001
def spTurns : DSp := fun ds S Q _ => ∃ (τ : Feed) (S0 : Store) (n : Int), ds = [.ref 1] ∧ S = τ.S ++ S0 ∧ τ.Ok n ∧ n < 9000000 ∧
  ∀ (τ' : Feed) (T : Store) (rs : List (Int × List Str)), τ'.Ok (n + 100) → TurnsOk rs → Low rs → Q (.tup (rs.map rowD)) (τ'.S ++ (S0 ++ T))
theorem spTurns_len {ds : List D} {S : Store} {Q : DQ} {E : DXQ} (h : spTurns ds S Q E) : ds.length = 1 := by
  obtain ⟨_, _, _, rfl, _⟩ := h; rfl
/-! ### sections as drawn -/
structure SecOk (high wide : Int) (ws : List Str) : Prop where
  high1 : 1 ≤ high
  high9 : high ≤ 9
  wide1 : 1 ≤ wide
  wide20 : wide ≤ 20
  some_ : 1 ≤ ws.length
  forty : ws.length ≤ 40
  wd : ∀ x ∈ ws, Wd x
def secD (name : Str) (high wide : Int) (ws : List Str) : D := .tup [.str name, .int high, .int wide, .tup (ws.map .str)]
theorem lin_of {n : Nat} (h : n ≤ 260000) : n ≤ sizeLine := by rw [sizeLine_eq]; omega
theorem sec_0 {name : Str} {high wide : Int} {ws : List Str} : atI [D.str name, .int high, .int wide, .tup (ws.map .str)] 0 = some (.str name) := Eq.trans rfl rfl
theorem sec_1 {name : Str} {high wide : Int} {ws : List Str} : atI [D.str name, .int high, .int wide, .tup (ws.map .str)] 1 = some (.int high) := Eq.trans rfl rfl
theorem sec_2 {name : Str} {high wide : Int} {ws : List Str} : atI [D.str name, .int high, .int wide, .tup (ws.map .str)] 2 = some (.int wide) := Eq.trans rfl rfl
theorem sec_3 {name : Str} {high wide : Int} {ws : List Str} : atI [D.str name, .int high, .int wide, .tup (ws.map .str)] 3 = some (.tup (ws.map .str)) := Eq.trans rfl rfl
local macro_rules | `(tactic| walk_at "sec") => `(tactic| simp -implicitDefEqProofs only [secD, sec_0, sec_1, sec_2, sec_3, optD_some])
local macro_rules | `(tactic| walk_at "go") => `(tactic| repeat (first | walk_at "dl" | walk_at "feed" | walk_at "sec"))
local macro_rules | `(tactic| walk_at "exc") => `(tactic| simp -implicitDefEqProofs only [dRaise_eq, dCallX_eq, dMaxV_r, dMaxDf_eq, dMinDf_eq, dTryO_eq, dTry2_eq, dDIn_eq, dDGet2_eq, isK_i, isK_s, isRf_r, dDNew_eq, dIsE_eq, dXf_eq, dCallE_eq, dTryE_eq, dTryE2_eq, clrE_nx, clrE_rt, true_and, List.zip_cons_cons, List.zip_nil_left, List.zip_nil_right, List.reverse_cons, List.reverse_nil])
local macro_rules | `(tactic| walk_at "go") => `(tactic| repeat (first | walk_at "dl" | walk_at "feed" | walk_at "sec" | walk_at "exc"))
/-! ### the word of a refusal -/
def spWordL : Addr → Addr → List (Str × V) → List (Str × D) → DSp := fun a dd vs fs ds S Q _ => ∃ d : D, ds = [.obj a dd vs] ∧ fs = [(Str.ofString "word", d)] ∧ Q (.tup [.str (Str.ofString "lay"), d]) S
theorem spWordL_len {a dd : Addr} {vs : List (Str × V)} {fs : List (Str × D)} {ds : List D} {S : Store} {Q : DQ} {E : DXQ} (h : spWordL a dd vs fs ds S Q E) : ds.length = 1 := by
  obtain ⟨_, rfl, _, _⟩ := h; rfl
theorem ok_law_word (T : Facts K mg) : DFnE P w K mg base T.C_NoLay 1 T.f_law_word T.fd_law_word ["_law_e"] spWordL := by
  refine okE T.F_law_word sc_law_word (by intro a dd vs fs ds S Q E h; exact spWordL_len h) (fun cdv A outer s H B p dd ws fs hr hE hrf => ⟨_, (dss_cons (ds_if (PW.pt (dw_and (dt_val (de_isE (a' := p.1) (oe := p.2) (vs := ws) (List.mem_singleton.mpr rfl) hE T.E_NoLay T.k_NoLay T.m_isinstance (de_var 0) (pe_glob (v := .ref T.C_NoLay) (by rfl) T.X_NoLay.gC rfl) (fun _ h => h))) (dw_and (dt_val (de_isE (a' := p.1) (oe := p.2) (vs := ws) (List.mem_singleton.mpr rfl) hE T.E_NoLay T.k_ValueError T.m_isinstance (de_var 0) (pe_bltn (v := .ty "ValueError") (by rfl) T.m_ValueError (by rfl) rfl) (fun _ h => h))) (dw_and1 (dt_not (dt_val (de_isET (a' := p.1) (oe := p.2) (vs := ws) (List.mem_singleton.mpr rfl) hE T.E_NoLay T.k_NoPaper T.k_LackError T.m_isinstance (de_var 0) (pe_glob (v := .ref T.C_NoPaper) (by rfl) T.X_NoPaper.gC rfl) (pe_glob (v := .ref T.C_LackError) (by rfl) T.gC_LackError rfl) (fun _ h => h) (fun _ h => h)))))))) (dss_one (ds_ret (de_tup (da_cons de_str (da_cons (de_xf (a' := p.1) (oe := p.2) (List.mem_singleton.mpr rfl) hE T.E_NoLay (T.X_NoLay.no "word" (by decide)) hrf (de_var 0)) da_nil))))) dss_nil)
  (dss_one (ds_ret (de_if (PW.pt (dw_and (dt_val (de_isE (a' := p.1) (oe := p.2) (vs := ws) (List.mem_singleton.mpr rfl) hE T.E_NoLay T.k_NoPaper T.m_isinstance (de_var 0) (pe_glob (v := .ref T.C_NoPaper) (by rfl) T.X_NoPaper.gC rfl) (fun _ h => h))) (dw_and1 (dt_not (dt_val (de_isE (a' := p.1) (oe := p.2) (vs := ws) (List.mem_singleton.mpr rfl) hE T.E_NoLay T.k_LackError T.m_isinstance (de_var 0) (pe_glob (v := .ref T.C_LackError) (by rfl) T.gC_LackError rfl) (fun _ h => h))))))) (de_tup (da_cons de_str da_nil)) (de_tup (da_cons de_str da_nil)))))), ?_⟩)
  intro ds S PQ h
  obtain ⟨d, rfl, rfl, q⟩ := h
  walk_at "go"
  rw [Bool.or_self]
  walk_at "go"
  exact ⟨d, rfl, lin_of (by decide), q⟩
def spWordP : Addr → Addr → List (Str × V) → List (Str × D) → DSp := fun a dd vs _ ds S Q _ => ds = [.obj a dd vs] ∧ Q (.tup [.str (Str.ofString "paper")]) S
theorem spWordP_len {a dd : Addr} {vs : List (Str × V)} {fs : List (Str × D)} {ds : List D} {S : Store} {Q : DQ} {E : DXQ} (h : spWordP a dd vs fs ds S Q E) : ds.length = 1 := by
  obtain ⟨rfl, _⟩ := h; rfl
theorem ok_law_word_NoPaper (T : Facts K mg) : DFnE P w K mg base T.C_NoPaper 1 T.f_law_word T.fd_law_word ["_law_e"] spWordP := by
  refine okE T.F_law_word sc_law_word (by intro a dd vs fs ds S Q E h; exact spWordP_len h) (fun cdv A outer s H B p dd ws fs hr hE hrf => ⟨_, (dss_cons (ds_if (PW.pt (dw_and (dt_val (de_isE (a' := p.1) (oe := p.2) (vs := ws) (List.mem_singleton.mpr rfl) hE T.E_NoPaper T.k_NoPaper_NoLay T.m_isinstance (de_var 0) (pe_glob (v := .ref T.C_NoLay) (by rfl) T.X_NoLay.gC rfl) (fun _ h => h))) (dw_and (dt_val (de_isE (a' := p.1) (oe := p.2) (vs := ws) (List.mem_singleton.mpr rfl) hE T.E_NoPaper T.k_NoPaper_ValueError T.m_isinstance (de_var 0) (pe_bltn (v := .ty "ValueError") (by rfl) T.m_ValueError (by rfl) rfl) (fun _ h => h))) (dw_and1 (dt_not (dt_val (de_isET (a' := p.1) (oe := p.2) (vs := ws) (List.mem_singleton.mpr rfl) hE T.E_NoPaper T.k_NoPaper_NoPaper T.k_NoPaper_LackError T.m_isinstance (de_var 0) (pe_glob (v := .ref T.C_NoPaper) (by rfl) T.X_NoPaper.gC rfl) (pe_glob (v := .ref T.C_LackError) (by rfl) T.gC_LackError rfl) (fun _ h => h) (fun _ h => h)))))))) (dss_one (ds_ret (de_tup (da_cons de_str (da_cons (de_xf (a' := p.1) (oe := p.2) (List.mem_singleton.mpr rfl) hE T.E_NoPaper (T.X_NoPaper.no "word" (by decide)) hrf (de_var 0)) da_nil))))) dss_nil)
  (dss_one (ds_ret (de_if (PW.pt (dw_and (dt_val (de_isE (a' := p.1) (oe := p.2) (vs := ws) (List.mem_singleton.mpr rfl) hE T.E_NoPaper T.k_NoPaper_NoPaper T.m_isinstance (de_var 0) (pe_glob (v := .ref T.C_NoPaper) (by rfl) T.X_NoPaper.gC rfl) (fun _ h => h))) (dw_and1 (dt_not (dt_val (de_isE (a' := p.1) (oe := p.2) (vs := ws) (List.mem_singleton.mpr rfl) hE T.E_NoPaper T.k_NoPaper_LackError T.m_isinstance (de_var 0) (pe_glob (v := .ref T.C_LackError) (by rfl) T.gC_LackError rfl) (fun _ h => h))))))) (de_tup (da_cons de_str da_nil)) (de_tup (da_cons de_str da_nil)))))), ?_⟩)
  intro ds S PQ h
  obtain ⟨rfl, q⟩ := h
  walk_at "go"
  exact ⟨lin_of (by decide), q⟩
/-! ### how words bend -/
/-- how many of these words, by their lengths, stand on a line with so many signs left, one more for a blank -/
def fillN : List Nat → Int → Nat
  | [], _ => 0
  | l :: r, left => if (l : Int) + 1 ≤ left then 1 + fillN r (left - (l + 1)) else 0
def roomI (high wide width i : Int) : Int := max 0 (width - if i < high then wide else 0)
def lens (ws : List Str) : List Nat := ws.map (·.length)
/-- the words behind so many lines -/
def laid (high wide width : Int) (ws : List Str) : Nat → Nat
  | 0 => 0
  | i + 1 => laid high wide width ws i + fillN ((lens ws).drop (laid high wide width ws i)) (roomI high wide width i + 1)
/-- the lines end here -/
def Ends (high wide width : Int) (ws : List Str) (n : Nat) : Prop := high ≤ n ∧ ws.length ≤ laid high wide width ws n
def First (high wide width : Int) (ws : List Str) (n : Nat) : Prop := Ends high wide width ws n ∧ ∀ j < n, ¬ Ends high wide width ws j
theorem First.eq {high wide width : Int} {ws : List Str} {n m : Nat} (h : First high wide width ws n) (h' : First high wide width ws m) : n = m := by
  rcases Nat.lt_trichotomy n m with k | k | k
  · exact absurd h.1 (h'.2 n k)
  · exact k
  · exact absurd h'.1 (h.2 m k)
def layD (high wide width : Int) (ws : List Str) (n : Nat) : List D := (List.range n).map fun i => .int (laid high wide width ws (i + 1))
theorem layD_succ {high wide width : Int} {ws : List Str} {n : Nat} : layD high wide width ws (n + 1) = layD high wide width ws n ++ [.int (laid high wide width ws (n + 1))] := by
  unfold layD
  rw [List.range_succ, List.map_append]; rfl
theorem layD_length {high wide width : Int} {ws : List Str} {n : Nat} : (layD high wide width ws n).length = n := by simp [layD]
theorem fillN_le : ∀ (ls : List Nat) (left : Int), fillN ls left ≤ ls.length
  | [], _ => Nat.le_refl 0
  | l :: r, left => by
    unfold fillN
    have := fillN_le r (left - (l + 1))
    split
    · rw [List.length_cons]; omega
    · exact Nat.zero_le _
theorem laid_le {high wide width : Int} {ws : List Str} : ∀ n, laid high wide width ws n ≤ ws.length
  | 0 => Nat.zero_le _
  | n + 1 => by
    have h1 := laid_le (high := high) (wide := wide) (width := width) (ws := ws) n
    have h2 := fillN_le ((lens ws).drop (laid high wide width ws n)) (roomI high wide width n + 1)
    rw [List.length_drop] at h2
    have h3 : (lens ws).length = ws.length := by unfold lens; rw [List.length_map]
    show laid high wide width ws n + fillN _ _ ≤ _
    omega
theorem drop_len {ws : List Str} {j : Nat} {x : Str} (h : ws[j]? = some x) : (lens ws).drop j = x.length :: (lens ws).drop (j + 1) := by
  obtain ⟨hl, e⟩ := List.getElem?_eq_some_iff.mp h
  unfold lens
  rw [← List.map_drop, List.drop_eq_getElem_cons hl, List.map_cons, e, List.map_drop]
/-- of words no longer than the width a line behind the space has one at least -/
theorem laid_more {high wide width : Int} {ws : List Str} {n : Nat} (hw : ∀ x ∈ ws, (x.length : Int) ≤ width) (hn : high ≤ n) (hl : laid high wide width ws n < ws.length) (h0 : 0 ≤ width) : laid high wide width ws n < laid high wide width ws (n + 1) := by
  show _ < laid high wide width ws n + fillN _ _
  have hd := drop_len (List.getElem?_eq_getElem hl)
  rw [hd]
  unfold fillN
  have := hw _ (List.getElem_mem hl)
  have e : roomI high wide width n = width := by
    unfold roomI
    rw [if_neg (by omega)]
    omega
  rw [e, if_pos (by omega)]
  omega
structure Wds (ws : List Str) : Prop where
  forty : ws.length ≤ 1000
  wd : ∀ x ∈ ws, Wd x
theorem SecOk.wds {high wide : Int} {ws : List Str} (h : SecOk high wide ws) : Wds ws := ⟨by have := h.forty; omega, h.wd⟩
theorem at_str {ws : List Str} {i : Nat} {x : Str} (h : ws[i]? = some x) : atI (ws.map D.str) (i : Int) = some (.str x) := atI_nat (by rw [List.getElem?_map, h]; rfl)
theorem fillN_room {ls : List Nat} {space : Int} (h : ∀ l ∈ ls, 1 ≤ l) : fillN ls (space + 1) = fillN ls (max 0 space + 1) := by
  by_cases hs : 0 ≤ space
  · rw [show max 0 space = space by omega]
  · cases ls with
    | nil => rfl
    | cons l r =>
      have := h l List.mem_cons_self
      unfold fillN
      rw [if_neg (by omega), if_neg (by omega)]
theorem lens_some {ws : List Str} (wk : Wds ws) (n : Nat) : ∀ l ∈ (lens ws).drop n, 1 ≤ l := fun l hl => by
  obtain ⟨x, hx, rfl⟩ := List.mem_map.mp (List.mem_of_mem_drop hl)
  exact (wk.wd x hx).1
/-- what words from first on and below j take, a blank behind each -/
def taken (ws : List Str) (first j : Nat) : Nat := (((ws.drop first).take (j - first)).map fun x => x.length + 1).sum
theorem taken_succ {ws : List Str} {first j : Nat} {x : Str} (h : ws[j]? = some x) (hf : first ≤ j) : taken ws first (j + 1) = taken ws first j + (x.length + 1) := by
  unfold taken
  have e : (ws.drop first).take (j + 1 - first) = (ws.drop first).take (j - first) ++ [x] := by
    rw [show j + 1 - first = (j - first) + 1 by omega, List.take_succ, List.getElem?_drop, show first + (j - first) = j by omega, h]
    rfl
  rw [e, List.map_append, List.sum_append]
  simp
theorem taken_le {ws : List Str} (wk : Wds ws) {first j : Nat} : taken ws first j ≤ 9 * ws.length := by
  have go : ∀ ys : List Str, (∀ y ∈ ys, y.length ≤ 8) → (ys.map fun x => x.length + 1).sum ≤ 9 * ys.length := by
    intro ys
    induction ys with
    | nil => intro _; simp
    | cons y ys ih =>
      intro h
      have := h y List.mem_cons_self
      have := ih fun z hz => h z (List.mem_cons_of_mem _ hz)
      rw [List.map_cons, List.sum_cons, List.length_cons]
      omega
  have h1 := go ((ws.drop first).take (j - first)) fun y hy => (wk.wd y (List.mem_of_mem_drop (List.mem_of_mem_take hy))).2.1
  have h2 : ((ws.drop first).take (j - first)).length ≤ ws.length := by rw [List.length_take, List.length_drop]; omega
  unfold taken
  omega
/-! ### lays as drawn -/
/-- how many words stand ahead of line i -/
def ahead (ls : List Nat) : Nat → Nat
  | 0 => 0
  | i + 1 => ls.getD (min i (ls.length - 1)) 0
theorem ahead_in {ls : List Nat} {i x : Nat} (h : ls[i]? = some x) : ahead ls (i + 1) = x := by
  have hl := (List.getElem?_eq_some_iff.mp h).1
  show ls.getD (min i (ls.length - 1)) 0 = x
  rw [show min i (ls.length - 1) = i by omega, List.getD_eq_getElem?_getD, h]
  rfl
theorem ahead_out {ls : List Nat} {i : Nat} (h : ls.length ≤ i) : ahead ls i = ahead ls ls.length := by
  cases i with
  | zero => rw [show ls.length = 0 by omega]
  | succ i =>
    cases hl : ls.length with
    | zero =>
      have : ls = [] := List.length_eq_zero_iff.mp hl
      subst this
      rfl
    | succ n =>
      show ls.getD (min i (ls.length - 1)) 0 = ls.getD (min n (ls.length - 1)) 0
      rw [hl, show min i (n + 1 - 1) = min n (n + 1 - 1) by omega]
theorem ahead_app {ls : List Nat} {c i : Nat} (h : i ≤ ls.length) : ahead (ls ++ [c]) i = ahead ls i := by
  cases i with
  | zero => rfl
  | succ i =>
    have e : ls[i]? = some ls[i] := List.getElem?_eq_getElem (by omega)
    rw [ahead_in (x := ls[i]) e, ahead_in (x := ls[i]) (by rw [List.getElem?_append_left (by omega)]; exact e)]
theorem ahead_new {ls : List Nat} {c : Nat} : ahead (ls ++ [c]) (ls.length + 1) = c := ahead_in (by rw [List.getElem?_append_right (Nat.le_refl _), Nat.sub_self]; rfl)
/-- each line goes on by words that fit -/
def StepsOk (high wide width : Int) (ws : List Str) (ls : List Nat) : Prop := ∀ i, i < ls.length → ahead ls i ≤ ahead ls (i + 1) ∧ ahead ls (i + 1) ≤ ahead ls i + fillN ((lens ws).drop (ahead ls i)) (roomI high wide width i + 1)
structure LayOk (high wide width : Int) (ws : List Str) (ls : List Nat) : Prop where
  steps : StepsOk high wide width ws ls
  full : ahead ls ls.length = ws.length
  tall : high ≤ ls.length
  some_ : 1 ≤ ls.length
  few : ls.length ≤ 80
  ends : ∀ j, j < ls.length → ¬ (high ≤ j ∧ ws.length ≤ ahead ls j)
theorem steps_le {high wide width : Int} {ws : List Str} {ls : List Nat} (h : StepsOk high wide width ws ls) : ∀ i, ahead ls i ≤ ws.length := by
  have go : ∀ i, i ≤ ls.length → ahead ls i ≤ ws.length := by
    intro i
    induction i with
    | zero => intro _; exact Nat.zero_le _
    | succ i ih =>
      intro hi
      have h1 := ih (by omega)
      have h2 := (h i (by omega)).2
      have h3 := fillN_le ((lens ws).drop (ahead ls i)) (roomI high wide width i + 1)
      have h4 : (lens ws).length = ws.length := by unfold lens; rw [List.length_map]
      rw [List.length_drop] at h3
      omega
  intro i
  rcases Nat.lt_or_ge ls.length i with k | k
  · rw [ahead_out (by omega)]; exact go _ (Nat.le_refl _)
  · exact go i k
theorem steps_app {high wide width : Int} {ws : List Str} {ls : List Nat} {c : Nat} (h : StepsOk high wide width ws ls) (h1 : ahead ls ls.length ≤ c) (h2 : c ≤ ahead ls ls.length + fillN ((lens ws).drop (ahead ls ls.length)) (roomI high wide width ls.length + 1)) : StepsOk high wide width ws (ls ++ [c]) := by
  intro i hi
  rw [List.length_append, List.length_singleton] at hi
  rcases Nat.lt_or_ge i ls.length with k | k
  · rw [ahead_app (by omega), ahead_app (by omega)]
    exact h i k
  · have e : i = ls.length := by omega
    subst e
    rw [ahead_app (Nat.le_refl _), ahead_new]
    exact ⟨h1, h2⟩
def layN (ls : List Nat) : D := .tup (ls.map fun n : Nat => .int (n : Int))
theorem words_8 : ∀ k : Fin 8, (1 ≤ (cutS (Str.ofString "abcdefgh") none (some ((k.val : Int) + 1))).length ∧ (cutS (Str.ofString "abcdefgh") none (some ((k.val : Int) + 1))).length ≤ 8 ∧ ∀ c ∈ (cutS (Str.ofString "abcdefgh") none (some ((k.val : Int) + 1))).cps.toList, 97 ≤ c ∧ c ≤ 122) ∧
    (1 ≤ (PySem.Txt.mul (Str.ofString "z") ((k.val : Int) + 1)).length ∧ (PySem.Txt.mul (Str.ofString "z") ((k.val : Int) + 1)).length ≤ 8 ∧ ∀ c ∈ (PySem.Txt.mul (Str.ofString "z") ((k.val : Int) + 1)).cps.toList, 97 ≤ c ∧ c ≤ 122) := by decide +kernel
theorem wd_8 {i : Int} (h1 : 1 ≤ i) (h8 : i ≤ 8) : Wd (cutS (Str.ofString "abcdefgh") none (some i)) ∧ Wd (PySem.Txt.mul (Str.ofString "z") i) := by
  have := words_8 ⟨(i - 1).toNat, by omega⟩
  rw [show (((i - 1).toNat : Nat) : Int) + 1 = i by omega] at this
  exact this
theorem mul_8 {i : Int} (h1 : 1 ≤ i) (h8 : i ≤ 8) : PySem.MulOk (Str.ofString "z") i := by
  have l : (Str.ofString "z").length = 1 := by decide +kernel
  refine ⟨?_, fun _ _ => ?_, fun _ _ => ?_⟩
  · rw [decide_eq_false (by omega), decide_eq_false (by omega)]; rfl
  · rw [l]
    have : (2 ^ 63 - 1) / i ≥ 1 := by
      have : (9223372036854775807 : Int) / i ≥ 1 := Int.le_ediv_of_mul_le (by omega) (by omega)
      exact this
    omega
  · rw [l]
    unfold PySem.Builtin.Str.tooLong
    exact decide_eq_false (by rw [sizeLine_eq]; omega)
def spWords : DSp := fun ds S Q _ => ∃ (τ : Feed) (S0 : Store) (n many : Int), ds = [.ref 1, .int many] ∧ S = τ.S ++ S0 ∧ τ.Ok n ∧ n < 8000000 ∧ 0 ≤ many ∧ many ≤ 40 ∧
  ∀ (τ' : Feed) (T : Store) (ws : List Str), τ'.Ok (n + 100) → (ws.length : Int) = many → (∀ x ∈ ws, Wd x) → Q (.tup (ws.map .str)) (τ'.S ++ (S0 ++ T))
theorem spWords_len {ds : List D} {S : Store} {Q : DQ} {E : DXQ} (h : spWords ds S Q E) : ds.length = 2 := by
  obtain ⟨_, _, _, _, rfl, _⟩ := h; rfl
theorem ok_law_words (T : Facts K mg) : DFn P w K mg base CX0 2 T.f_law_words T.fd_law_words ["_law_feed_here", "_law_many"] spWords := by
  refine okD T.F_law_words sc_law_words (by rintro ds S Q E h; exact spWords_len h) (fun cdv A outer s H E B PX hr hgd => ⟨_, (dss_cons (ds_set (i := 2) (de_ixL (dl_lst (da_cons de_int (da_cons de_int (da_cons de_int (da_cons de_int da_nil))))) (de_call (ok_law_draw (P := P) (w := w) (base := base) T) hr hgd T.g_law_draw T.F_law_draw.kp T.b_law_draw (da_cons (de_var 0) (da_cons de_int da_nil)))) sc_law_words.nd)
  (dss_cons (ds_set (i := 3) (de_keep (dl_lst da_nil)) sc_law_words.nd)
  (dss_cons (ds_for (g := (.nm 4)) PassesOwn.never (di_range1 T.m_range (da_cons (de_var 1) da_nil)) (pg_name (i := 4) sc_law_words.nd rfl (.inl rfl)) (dss_cons (ds_set (i := 5) (de_add de_int (de_call (ok_law_draw (P := P) (w := w) (base := base) T) hr hgd T.g_law_draw T.F_law_draw.kp T.b_law_draw (da_cons (de_var 0) (da_cons (de_var 2) da_nil)))) sc_law_words.nd)
  (dss_one (ds_expr (de_append (de_var 3) (de_if (dt_eq hr (de_call (ok_law_draw (P := P) (w := w) (base := base) T) hr hgd T.g_law_draw T.F_law_draw.kp T.b_law_draw (da_cons (de_var 0) (da_cons de_int da_nil))) de_int) (de_slice de_str do_none (do_some (de_var 5))) (de_mulS de_str (de_var 5))))))))
  (dss_one (ds_ret (de_tuple T.m_tuple (de_var 3))))))), ?_⟩)
  intro ds S PQ h
  obtain ⟨τ, S0, n, many, rfl, rfl, ok, hn, hm0, hm1, q⟩ := h
  walk_at "go"
  refine ⟨lin_of (by omega), τ, S0, 4, n, rfl, rfl, ok, by omega, by decide, by decide, fun τ1 r1 ok1 a1 b1 => ?_⟩
  walk_at "go"
  refine optD_in a1 (by show r1 < 4; omega) fun d hd => ?_
  have ht : ∃ t : Int, d = .int t ∧ 1 ≤ t ∧ t ≤ 8 := by
    simp only [List.mem_cons, List.not_mem_nil, or_false] at hd
    rcases hd with rfl | rfl | rfl | rfl <;> exact ⟨_, rfl, by decide, by decide⟩
  obtain ⟨top, rfl, t1, t8⟩ := ht
  walk_at "go"
  refine ⟨lin_of (by omega), by omega, by omega, fun i δ S => ∃ (τ' : Feed) (ws : List Str) (a b : Option D), δ = [some (.ref 1), some (.int many), some (.int top), some (.ref (2 + S0.length)), a, b] ∧ S = τ'.S ++ (S0 ++ [Cell.lst (ws.map .str)]) ∧
    τ'.Ok (n + 1 + 2 * i) ∧ ws.length = i ∧ ∀ x ∈ ws, Wd x, ?_, ?_, ?_, ?_⟩
  · exact ⟨τ1, [], _, _, rfl, rfl, ok1.mono (by omega), rfl, fun _ h => by cases h⟩
  · exact fun _ _ _ _ _ => trivial
  · rintro i d0 δ S hd ⟨τ2, ws, a, b, rfl, rfl, ok2, hlen, hws⟩
    have hi := (rangeD_get.mp hd).1
    walk_at "go"
    refine ⟨τ2, _, top, _, rfl, rfl, ok2, by omega, by omega, by omega, fun τ3 r3 ok3 a3 b3 => ?_⟩
    walk_at "go"
    refine ⟨τ3, _, 2, _, rfl, rfl, ok3, by omega, by decide, by decide, fun τ4 r4 ok4 a4 b4 => ?_⟩
    walk_at "go"
    obtain ⟨w1, w2⟩ := wd_8 (i := 1 + r3) (by omega) (by omega)
    have fin : ∀ x : Str, Wd x → ∀ y ∈ ws ++ [x], Wd y := fun x hx y hy => by
      rcases List.mem_append.mp hy with hy | hy
      · exact hws y hy
      · rw [List.mem_singleton.mp hy]; exact hx
    rw [List.length_map]
    have l8 : (Str.ofString "abcdefgh").length ≤ sizeLine := by decide +kernel
    refine bIf_dec (fun _ => ⟨l8, lin_of (by omega), τ4, ws ++ [_], _, _, rfl, by rw [List.map_append]; rfl, ok4.mono (by omega), by rw [List.length_append, List.length_singleton]; omega, fin _ w1⟩) fun _ =>
      ⟨mul_8 (by omega) (by omega), lin_of (by omega), τ4, ws ++ [_], _, _, rfl, by rw [List.map_append]; rfl, ok4.mono (by omega), by rw [List.length_append, List.length_singleton]; omega, fin _ w2⟩
  · rintro δ S ⟨τ2, ws, a, b, rfl, rfl, ok2, hlen, hws⟩
    rw [rangeD_length] at hlen ok2
    walk_at "go"
    exact q τ2 _ ws (ok2.mono (by omega)) (by omega) hws
/-- a drawn size -/
def spSize : DSp := fun ds S Q _ => ∃ (τ : Feed) (S0 : Store) (n : Int), ds = [.ref 1] ∧ S = τ.S ++ S0 ∧ τ.Ok n ∧ n < 8000000 ∧
  ∀ (τ' : Feed) (T : Store) (h w : Int), τ'.Ok (n + 3) → 1 ≤ h → h ≤ 9 → 1 ≤ w → w ≤ 20 → Q (.tup [.int h, .int w]) (τ'.S ++ (S0 ++ T))
theorem spSize_len {ds : List D} {S : Store} {Q : DQ} {E : DXQ} (h : spSize ds S Q E) : ds.length = 1 := by
  obtain ⟨_, _, _, rfl, _⟩ := h; rfl
theorem ok_law_size (T : Facts K mg) : DFn P w K mg base CX0 2 T.f_law_size T.fd_law_size ["_law_feed_here"] spSize := by
  refine okD T.F_law_size sc_law_size (by rintro ds S Q E h; exact spSize_len h) (fun cdv A outer s H E B PX hr hgd => ⟨_, (dss_cons (ds_set (i := 1) (de_keep (dl_lst (da_cons (de_tup (da_cons (de_add de_int (de_call (ok_law_draw (P := P) (w := w) (base := base) T) hr hgd T.g_law_draw T.F_law_draw.kp T.b_law_draw (da_cons (de_var 0) (da_cons de_int da_nil)))) (da_cons (de_add de_int (de_call (ok_law_draw (P := P) (w := w) (base := base) T) hr hgd T.g_law_draw T.F_law_draw.kp T.b_law_draw (da_cons (de_var 0) (da_cons de_int da_nil)))) da_nil))) (da_cons (de_tup (da_cons de_int (da_cons de_int da_nil))) (da_cons (de_tup (da_cons de_int (da_cons de_int da_nil))) da_nil))))) sc_law_size.nd)
  (dss_one (ds_ret (de_ix (de_var 1) (de_ixL (dl_lst (da_cons de_int (da_cons de_int (da_cons de_int (da_cons de_int (da_cons de_int (da_cons de_int (da_cons de_int da_nil)))))))) (de_call (ok_law_draw (P := P) (w := w) (base := base) T) hr hgd T.g_law_draw T.F_law_draw.kp T.b_law_draw (da_cons (de_var 0) (da_cons de_int da_nil)))))))), ?_⟩)
  intro ds S PQ h
  obtain ⟨τ, S0, n, rfl, rfl, ok, hn, q⟩ := h
  walk_at "go"
  refine ⟨τ, S0, 4, n, rfl, rfl, ok, by omega, by decide, by decide, fun τ1 r1 ok1 a1 b1 => ?_⟩
  walk_at "go"
  refine ⟨τ1, S0, 9, _, rfl, rfl, ok1, by omega, by decide, by decide, fun τ2 r2 ok2 a2 b2 => ?_⟩
  walk_at "go"
  refine ⟨lin_of (by omega), lin_of (by omega), lin_of (by omega), lin_of (by omega), lin_of (by omega), τ2, _, 7, _, rfl, rfl, ok2, by omega, by decide, by decide, fun τ3 r3 ok3 a3 b3 => ?_⟩
  walk_at "go"
  refine optD_in a3 (by show r3 < 7; omega) fun d hd => ?_
  have hk : ∃ k : Int, d = .int k ∧ 0 ≤ k ∧ k ≤ 2 := by
    simp only [List.mem_cons, List.not_mem_nil, or_false] at hd
    rcases hd with rfl | rfl | rfl | rfl | rfl | rfl | rfl <;> exact ⟨_, rfl, by decide, by decide⟩
  obtain ⟨k, rfl, k1, k2⟩ := hk
  walk_at "go"
  refine optD_in k1 (by show k < 3; omega) fun d hd => ?_
  simp only [List.mem_cons, List.not_mem_nil, or_false] at hd
  rcases hd with rfl | rfl | rfl
  · exact q τ3 _ _ _ (ok3.mono (by omega)) (by omega) (by omega) (by omega) (by omega)
  · exact q τ3 _ _ _ (ok3.mono (by omega)) (by omega) (by omega) (by omega) (by omega)
  · exact q τ3 _ _ _ (ok3.mono (by omega)) (by omega) (by omega) (by omega) (by omega)
/-- how far a line goes -/
def spEnd : DSp := fun ds S Q _ => ∃ (ws : List Str) (first : Nat) (space : Int), ds = [.tup (ws.map .str), .int first, .int space] ∧ Wds ws ∧ first ≤ ws.length ∧ Q (.int ((first + fillN ((lens ws).drop first) (space + 1) : Nat))) S
theorem spEnd_len {ds : List D} {S : Store} {Q : DQ} {E : DXQ} (h : spEnd ds S Q E) : ds.length = 3 := by
  obtain ⟨_, _, _, rfl, _⟩ := h; rfl
theorem ok_law_end (T : Facts K mg) : DFn P w K mg base CX0 1 T.f_law_end T.fd_law_end ["_law_words_here", "_law_first", "_law_space_here"] spEnd := by
  refine okD T.F_law_end sc_law_end (by rintro ds S Q E h; exact spEnd_len h) (fun cdv A outer s H E B PX hr hgd => ⟨_, (dss_cons (ds_set (i := 3) (de_neg de_int) sc_law_end.nd)
  (dss_cons (ds_for (g := (.nm 4)) PassesOwn.never (di_range2 T.m_range (da_cons (de_var 1) (da_cons (de_len T.m_len (de_var 0)) da_nil))) (pg_name (i := 4) sc_law_end.nd rfl (.inl rfl)) (dss_cons (ds_set (i := 3) (de_add (de_add (de_var 3) de_int) (de_len T.m_len (de_ix (de_var 0) (de_var 4)))) sc_law_end.nd)
  (dss_one (ds_if (dt_gt (de_var 3) (de_var 2)) (dss_one (ds_ret (de_var 4))) dss_nil))))
  (dss_one (ds_ret (de_len T.m_len (de_var 0)))))), ?_⟩)
  intro ds S PQ h
  obtain ⟨ws, first, space, rfl, wk, hf, q⟩ := h
  have w1 := wk.forty
  walk_at "go"
  rw [List.length_map]
  refine ⟨⟨by omega, by omega, by omega, by omega⟩, fun i δ S' => ∃ (b : Option D), δ = [some (.tup (ws.map .str)), some (.int first), some (.int space), some (.int ((taken ws first (first + i) : Nat) - 1)), b] ∧ S' = S ∧
    first + fillN ((lens ws).drop first) (space + 1) = (first + i) + fillN ((lens ws).drop (first + i)) (space + 1 - taken ws first (first + i)), ?_, ?_, ?_, ?_⟩
  · refine ⟨none, ?_, rfl, ?_⟩
    · unfold taken; rw [Nat.add_zero, Nat.sub_self]; rfl
    · unfold taken; rw [Nat.add_zero, Nat.sub_self]; simp
  · exact fun _ _ _ _ _ => trivial
  · rintro i d δ S' hd ⟨b, rfl, rfl, inv⟩
    obtain ⟨hi, rfl⟩ := rangeD_get.mp hd
    have hj' : first + i < ws.length := by omega
    have e := List.getElem?_eq_getElem hj'
    have ea := at_str e
    have hx := wk.wd _ (List.getElem_mem hj')
    have hx2 := hx.2.1
    have t1 := taken_succ e (Nat.le_add_right first i)
    rw [drop_len e] at inv
    generalize ws[first + i] = x at e ea hx hx2 inv t1
    have ea' : atI (ws.map D.str) ((first : Int) + i) = some (.str x) := by rw [show (first : Int) + i = ((first + i : Nat) : Int) by omega]; exact ea
    walk_at "go"
    rw [ea']
    walk_at "go"
    have e2 : fillN (x.length :: (lens ws).drop (first + i + 1)) (space + 1 - taken ws first (first + i)) = if (x.length : Int) + 1 ≤ space + 1 - taken ws first (first + i) then 1 + fillN ((lens ws).drop (first + i + 1)) (space + 1 - taken ws first (first + i) - (x.length + 1)) else 0 := rfl
    rw [e2] at inv
    refine ⟨lin_of (by omega), bIf_dec (fun h2 => ?_) fun h2 => ?_⟩
    · rw [if_neg (by omega), Nat.add_zero] at inv
      rw [inv] at q
      rw [show (first : Int) + i = ((first + i : Nat) : Int) by omega]
      exact q
    · rw [if_pos (by omega)] at inv
      refine ⟨some (.int ((first : Int) + i)), ?_, ?_⟩
      · rw [show first + (i + 1) = first + i + 1 from rfl, t1, show (((taken ws first (first + i) + (x.length + 1) : Nat) : Int) - 1) = ((taken ws first (first + i) : Nat) : Int) - 1 + 1 + x.length by omega]
      · rw [show first + (i + 1) = first + i + 1 from rfl, inv, t1, show space + 1 - ((taken ws first (first + i) + (x.length + 1) : Nat) : Int) = space + 1 - taken ws first (first + i) - (x.length + 1) by omega]
        omega
  · rintro δ S' ⟨b, rfl, rfl, inv⟩
    rw [rangeD_length, show first + ((ws.length : Int) - first).toNat = ws.length by omega, show (lens ws).drop ws.length = [] from List.drop_of_length_le (by unfold lens; rw [List.length_map]; omega)] at inv
    walk_at "go"
    rw [List.length_map]
    rw [inv] at q
    exact q
def spSpace : DSp := fun ds S Q _ => ∃ (name : Str) (high wide : Int) (ws : List Str) (i width : Int), ds = [secD name high wide ws, .int i, .int width] ∧ Q (.int (roomI high wide width i)) S
theorem spSpace_len {ds : List D} {S : Store} {Q : DQ} {E : DXQ} (h : spSpace ds S Q E) : ds.length = 3 := by
  obtain ⟨_, _, _, _, _, _, rfl, _⟩ := h; rfl
theorem ok_law_space (T : Facts K mg) : DFn P w K mg base CX0 1 T.f_law_space T.fd_law_space ["_law_section", "_law_i", "_law_width"] spSpace := by
  refine okD T.F_law_space sc_law_space (by rintro ds S Q E h; exact spSpace_len h) (fun cdv A outer s H E B PX hr hgd => ⟨_, (dss_one (ds_ret (de_max2 T.m_max (da_cons de_int (da_cons (de_sub (de_var 2) (de_if (dt_lt (de_var 1) (de_ix (de_var 0) de_int)) (de_ix (de_var 0) de_int) de_int)) da_nil))))), ?_⟩)
  intro ds S PQ h
  obtain ⟨name, high, wide, ws, i, width, rfl, q⟩ := h
  walk_at "go"
  unfold roomI at q
  refine bIf_dec (fun h => ?_) fun h => ?_
  · rw [if_pos h] at q
    rw [show (if width - wide > 0 then width - wide else 0) = max 0 (width - wide) by split <;> omega]
    exact q
  · rw [if_neg h] at q
    rw [show (if width - 0 > 0 then width - 0 else 0) = max 0 (width - 0) by split <;> omega]
    exact q
def spLay : DSp := fun ds S Q _ => ∃ (τ : Feed) (S0 : Store) (n : Int) (name : Str) (high wide width : Int) (ws : List Str), ds = [.ref 1, secD name high wide ws, .int width] ∧ S = τ.S ++ S0 ∧ τ.Ok n ∧ n < 8000000 ∧
  Wds ws ∧ ws.length ≤ 40 ∧ 1 ≤ high ∧ high ≤ 9 ∧ (∀ x ∈ ws, (x.length : Int) ≤ width) ∧ 0 ≤ width ∧
  ∀ (τ' : Feed) (T : Store) (ls : List Nat), τ'.Ok (n + 60) → LayOk high wide width ws ls → Q (layN ls) (τ'.S ++ (S0 ++ T))
theorem spLay_len {ds : List D} {S : Store} {Q : DQ} {E : DXQ} (h : spLay ds S Q E) : ds.length = 3 := by
  obtain ⟨_, _, _, _, _, _, _, _, rfl, _⟩ := h; rfl
theorem fill_some {ws : List Str} {width : Int} {c : Nat} (hw : ∀ x ∈ ws, (x.length : Int) ≤ width) (hl : c < ws.length) : 1 ≤ fillN ((lens ws).drop c) (width + 1) := by
  rw [drop_len (List.getElem?_eq_getElem hl)]
  unfold fillN
  have := hw _ (List.getElem_mem hl)
  rw [if_pos (by omega)]
  omega
theorem ok_law_lay (T : Facts K mg) : DFn P w K mg base CX0 2 T.f_law_lay T.fd_law_lay ["_law_feed_here", "_law_section", "_law_width"] spLay := by
  refine okD T.F_law_lay sc_law_lay (by rintro ds S Q E h; exact spLay_len h) (fun cdv A outer s H E B PX hr hgd => ⟨_, (dss_cons (ds_par (i := 3) (j := 4) sc_law_lay.nd (da_cons (de_keep (dl_lst da_nil)) (da_cons de_int da_nil)))
  (dss_cons (ds_while PassesOwn.never (PW.pt (dw_or (dt_lt (de_var 4) (de_len T.m_len (de_ix (de_var 1) de_int))) (dw_or1 (dt_lt (de_len T.m_len (de_var 3)) (de_ix (de_var 1) de_int))))) (dss_cons (ds_set (i := 5) (de_call (ok_law_end (P := P) (w := w) (base := base) T) hr hgd T.g_law_end T.F_law_end.kp T.b_law_end (da_cons (de_ix (de_var 1) de_int) (da_cons (de_var 4) (da_cons (de_call (ok_law_space (P := P) (w := w) (base := base) T) hr hgd T.g_law_space T.F_law_space.kp T.b_law_space (da_cons (de_var 1) (da_cons (de_len T.m_len (de_var 3)) (da_cons (de_var 2) da_nil)))) da_nil)))) sc_law_lay.nd)
  (dss_cons (ds_if (PW.pt (dw_and (dt_lt (de_len T.m_len (de_var 3)) de_int) (dw_and1 (dt_eq hr (de_call (ok_law_draw (P := P) (w := w) (base := base) T) hr hgd T.g_law_draw T.F_law_draw.kp T.b_law_draw (da_cons (de_var 0) (da_cons de_int da_nil))) de_int)))) (dss_one (ds_set (i := 5) (de_add (de_var 4) (de_call (ok_law_draw (P := P) (w := w) (base := base) T) hr hgd T.g_law_draw T.F_law_draw.kp T.b_law_draw (da_cons (de_var 0) (da_cons (de_add (de_sub (de_var 5) (de_var 4)) de_int) da_nil)))) sc_law_lay.nd)) dss_nil)
  (dss_cons (ds_set (i := 4) (de_var 5) sc_law_lay.nd)
  (dss_one (ds_expr (de_append (de_var 3) (de_var 4))))))))
  (dss_one (ds_ret (de_tuple T.m_tuple (de_var 3)))))), ?_⟩)
  intro ds S PQ h
  obtain ⟨τ, S0, n, name, high, wide, width, ws, rfl, rfl, ok, hn, wk, h40, hh1, hh9, hw, hw0, q⟩ := h
  walk_at "go"
  refine ⟨lin_of (by omega), fun m δ S => ∃ (τ' : Feed) (ls : List Nat) (a : Option D), δ = [some (.ref 1), some (secD name high wide ws), some (.int width), some (.ref (2 + S0.length)), some (.int (ahead ls ls.length)), a] ∧ S = τ'.S ++ (S0 ++ [Cell.lst (ls.map fun n : Nat => .int (n : Int))]) ∧
    τ'.Ok (n + 2 * min ls.length 30) ∧ StepsOk high wide width ws ls ∧ m = (30 - ls.length) + (ws.length - ahead ls ls.length) ∧ ls.length ≤ 30 + ahead ls ls.length ∧ ∀ j, j < ls.length → ¬ (high ≤ j ∧ ws.length ≤ ahead ls j), ⟨_, τ, [], _, rfl, rfl, ok.mono (by omega), fun i h => by simp at h, rfl, by simp [ahead], fun j h => by simp at h⟩, ?_⟩
  rintro m δ S ⟨τ1, ls, a, rfl, rfl, ok1, st, rfl, few, no⟩
  have le := steps_le st ls.length
  refine test_use (fun b S1 => S1 = τ1.S ++ (S0 ++ [Cell.lst (ls.map fun n : Nat => .int (n : Int))]) ∧ (b = true → ¬ (high ≤ ls.length ∧ ws.length ≤ ahead ls ls.length)) ∧ (b = false → high ≤ ls.length ∧ ws.length ≤ ahead ls ls.length)) (fun R hR => ?_) ?_
  · walk_at "go"
    rw [List.length_map, List.length_map]
    refine bIf_dec (fun h => hR _ _ ⟨rfl, fun _ z => by omega, fun z => nomatch z⟩) fun h => ?_
    exact hR _ _ ⟨rfl, fun z y => by have := of_decide_eq_true z; omega, fun z => ⟨by have := of_decide_eq_false z; omega, by omega⟩⟩
  rintro b S1 ⟨rfl, ht, hf⟩
  refine bIf_both (fun hb => ?_) fun hb => ?_
  · have ne := ht hb
    have far1 := fillN_le ((lens ws).drop (ahead ls ls.length)) (roomI high wide width ls.length + 1)
    have far2 : (lens ws).length = ws.length := by unfold lens; rw [List.length_map]
    rw [List.length_drop] at far1
    have close : ∀ (τ' : Feed) (c : Nat), τ'.Ok (n + 2 * min (ls.length + 1) 30) → ahead ls ls.length ≤ c → c ≤ ahead ls ls.length + fillN ((lens ws).drop (ahead ls ls.length)) (roomI high wide width ls.length + 1) → (30 ≤ ls.length → c = ahead ls ls.length + fillN ((lens ws).drop (ahead ls ls.length)) (roomI high wide width ls.length + 1)) →
        τ'.Ok (n + 2 * min (ls ++ [c]).length 30) ∧ StepsOk high wide width ws (ls ++ [c]) ∧ (30 - (ls ++ [c]).length) + (ws.length - ahead (ls ++ [c]) (ls ++ [c]).length) < (30 - ls.length) + (ws.length - ahead ls ls.length) ∧ (ls ++ [c]).length ≤ 30 + ahead (ls ++ [c]) (ls ++ [c]).length ∧
        ∀ j, j < (ls ++ [c]).length → ¬ (high ≤ j ∧ ws.length ≤ ahead (ls ++ [c]) j) := fun τ' c ok' h1 h2 h3 => by
      have e1 : (ls ++ [c]).length = ls.length + 1 := by rw [List.length_append, List.length_singleton]
      have more : 30 ≤ ls.length → ahead ls ls.length < c := fun h => by
        have : ahead ls ls.length < ws.length := by omega
        have f := fill_some hw this
        have r : roomI high wide width ls.length = width := by
          unfold roomI
          rw [if_neg (by omega)]
          omega
        have := h3 h
        rw [r] at this
        omega
      rw [e1, ahead_new]
      refine ⟨ok', steps_app st h1 h2, ?_, ?_, fun j hj => ?_⟩
      · by_cases h : 30 ≤ ls.length
        · have := more h; omega
        · omega
      · by_cases h : 30 ≤ ls.length
        · have := more h; omega
        · omega
      · rw [ahead_app (by omega)]
        rcases Nat.lt_or_ge j ls.length with k | k
        · exact no j k
        · rw [show j = ls.length by omega]; exact ne
    have len71 : ls.length ≤ 71 := by omega
    walk_at "go"
    rw [List.length_map]
    refine ⟨name, high, wide, ws, ls.length, width, rfl, ?_⟩
    refine ⟨ws, ahead ls ls.length, _, rfl, wk, le, ?_⟩
    walk_at "go"
    rw [List.length_map]
    have ea : ∀ c, ahead (ls ++ [c]) (ls ++ [c]).length = c := fun c => by rw [List.length_append, List.length_singleton, ahead_new]
    have wr : ∀ (τ' : Feed) (c : Nat), τ'.S ++ (S0 ++ [Cell.lst (ls.map (fun n : Nat => D.int (n : Int)) ++ [D.int (c : Int)])]) = τ'.S ++ (S0 ++ [Cell.lst ((ls ++ [c]).map fun n : Nat => D.int (n : Int))]) := fun τ' c => by rw [List.map_append]; rfl
    refine bIf_dec (fun h30 => ?_) fun h30 => ?_
    · refine ⟨τ1, _, 3, _, rfl, rfl, ok1, by omega, by decide, by decide, fun τ2 r2 ok2 a2 b2 => ?_⟩
      walk_at "go"
      refine bIf_dec (fun _ => ?_) fun _ => ?_
      · refine ⟨τ2, _, _, _, rfl, rfl, ok2, by omega, by omega, by omega, fun τ3 r3 ok3 a3 b3 => ?_⟩
        walk_at "go"
        rw [List.length_map, show ((ahead ls ls.length : Nat) : Int) + r3 = ((ahead ls ls.length + r3.toNat : Nat) : Int) by omega]
        obtain ⟨o, s, l, f, nn⟩ := close τ3 (ahead ls ls.length + r3.toNat) (ok3.mono (by omega)) (by omega) (by omega) (by omega)
        exact ⟨lin_of (by omega), _, l, τ3, ls ++ [ahead ls ls.length + r3.toNat], _, by rw [ea], wr _ _, o, s, rfl, f, nn⟩
      · rw [List.length_map]
        obtain ⟨o, s, l, f, nn⟩ := close τ2 _ (ok2.mono (by omega)) (by omega) (Nat.le_refl _) (fun _ => rfl)
        exact ⟨lin_of (by omega), _, l, τ2, ls ++ [_], _, by rw [ea], wr _ _, o, s, rfl, f, nn⟩
    · obtain ⟨o, s, l, f, nn⟩ := close τ1 _ (ok1.mono (by omega)) (by omega) (Nat.le_refl _) (fun _ => rfl)
      exact ⟨lin_of (by omega), _, l, τ1, ls ++ [_], _, by rw [ea], wr _ _, o, s, rfl, f, nn⟩
  · obtain ⟨h1, h2⟩ := hf hb
    walk_at "go"
    exact q τ1 _ ls (ok1.mono (by omega)) ⟨st, by omega, by omega, by omega, by omega, no⟩
/-! ### the program's bending, with its refusal -/
/-- the first word that is longer -/
def Long (ws : List Str) (width : Int) (j : Nat) : Prop := (∃ x, ws[j]? = some x ∧ width < (x.length : Int)) ∧ ∀ i < j, ∀ y, ws[i]? = some y → (y.length : Int) ≤ width
theorem long_eq {ws : List Str} {width : Int} {i j : Nat} (h : Long ws width i) (k : Long ws width j) : i = j := by
  obtain ⟨⟨x, e, hx⟩, h2⟩ := h
  obtain ⟨⟨y, f, hy⟩, k2⟩ := k
  rcases Nat.lt_trichotomy i j with z | z | z
  · have := k2 i z x e; omega
  · exact z
  · have := h2 j z y f; omega
theorem long_no {ws : List Str} {width : Int} {j : Nat} (h : Long ws width j) : ¬ ∀ x ∈ ws, (x.length : Int) ≤ width := fun a => by
  obtain ⟨⟨x, e, hx⟩, _⟩ := h
  have := a x (List.mem_of_getElem? e)
  omega
def spBegins : DSp := fun ds S Q _ => ∃ (name : Str) (high wide : Int) (ws : List Str) (i : Int), ds = [secD name high wide ws, .int i] ∧ Q (.int (if i < high then wide else 0)) S
theorem spBegins_len {ds : List D} {S : Store} {Q : DQ} {E : DXQ} (h : spBegins ds S Q E) : ds.length = 2 := by
  obtain ⟨_, _, _, _, _, rfl, _⟩ := h; rfl
theorem ok_begins (T : Facts K mg) : DFn P w K mg base CX0 1 T.f_begins T.fd_begins ["section", "i"] spBegins := by
  refine okD T.F_begins sc_begins (by rintro ds S Q E h; exact spBegins_len h) (fun cdv A outer s H E B PX hr hgd => ⟨_, (dss_cons (ds_par (i := 2) (j := 3) sc_begins.nd (da_cons (de_ix (de_var 0) de_int) (da_cons (de_ix (de_var 0) de_int) da_nil)))
  (dss_one (ds_ret (de_if (dt_lt (de_var 1) (de_var 2)) (de_var 3) de_int)))), ?_⟩)
  intro ds S PQ h
  obtain ⟨name, high, wide, ws, i, rfl, q⟩ := h
  walk_at "go"
  exact bIf_dec (fun h => by rw [if_pos h] at q; exact q) fun h => by rw [if_neg h] at q; exact q
def spRoom : DSp := fun ds S Q _ => ∃ (name : Str) (high wide : Int) (ws : List Str) (i width : Int), ds = [secD name high wide ws, .int i, .int width] ∧ Q (.int (roomI high wide width i)) S
theorem spRoom_len {ds : List D} {S : Store} {Q : DQ} {E : DXQ} (h : spRoom ds S Q E) : ds.length = 3 := by
  obtain ⟨_, _, _, _, _, _, rfl, _⟩ := h; rfl
theorem ok_room (T : Facts K mg) : DFn P w K mg base CX0 2 T.f_room T.fd_room ["section", "i", "width"] spRoom := by
  refine okDd T.F_room sc_room (by rintro ds S Q E h; exact spRoom_len h) (fun cdv A outer s H E B PX hr hgd => ⟨_, (dss_one (ds_ret (de_max2 T.m_max (da_cons de_int (da_cons (de_sub (de_var 2) (de_call (ok_begins (P := P) (w := w) (base := base) T) hr hgd T.g_begins T.F_begins.kp T.b_begins (da_cons (de_var 0) (da_cons (de_var 1) da_nil)))) da_nil))))), ?_⟩)
  intro ds S PQ h
  obtain ⟨name, high, wide, ws, i, width, rfl, q⟩ := h
  walk_at "go"
  refine ⟨name, high, wide, ws, i, rfl, ?_⟩
  walk_at "go"
  have e : (if width - (if i < high then wide else 0) > 0 then width - (if i < high then wide else 0) else 0) = roomI high wide width i := by unfold roomI; split <;> omega
  rw [e]
  exact q
def spRefuseX (C : Addr) : DSp := fun ds S Q E => ∃ (ws : List Str) (width : Int), ds = [.tup (ws.map .str), .int width] ∧ Wds ws ∧ ((∀ x ∈ ws, (x.length : Int) ≤ width) → ∀ d, Q d S) ∧ ∀ j : Nat, Long ws width j → E (.ref C) [("word", .int j)] S
theorem spRefuseX_len {C : Addr} {ds : List D} {S : Store} {Q : DQ} {E : DXQ} (h : spRefuseX C ds S Q E) : ds.length = 2 := by
  obtain ⟨_, _, rfl, _⟩ := h; rfl
theorem ok_refuse_longer (T : Facts K mg) : DFn P w K mg base (L2.CX P w) 3 T.f_refuse_longer T.fd_refuse_longer ["words", "width"] (spRefuseX T.C_NoLay) := by
  refine okDX T.F_refuse_longer sc_refuse_longer (by rintro ds S Q E h; exact spRefuseX_len h) (fun cdv A outer s H E φ PX hr hgd hE => ⟨_, (dss_one (ds_for (g := (.tp [2, 3])) (passes_of rfl) (di_enum T.m_enumerate (da_cons (de_var 0) da_nil)) (pg_tup rfl (pgs_cons (pg_name (i := 2) sc_refuse_longer.nd rfl (.inl rfl)) (pgs_cons (pg_name (i := 3) sc_refuse_longer.nd rfl (.inl rfl)) pgs_nil))) (dss_one (ds_if (dt_gt (de_len T.m_len (de_var 3)) (de_var 1)) (dss_one (ds_raise T.X_NoLay (hr.mono (by decide)) (takes_of rfl rfl rfl rfl) (XWish.of hE) (da_cons (de_var 2) da_nil))) dss_nil)))), ?_⟩)
  intro ds S PQ h
  obtain ⟨ws, width, rfl, wk, q, qx⟩ := h
  walk_at "go"
  refine ⟨fun i δ S' => (∃ a b, δ = [some (.tup (ws.map .str)), some (.int width), a, b]) ∧ S' = S ∧ ∀ k < i, ∀ y, ws[k]? = some y → (y.length : Int) ≤ width, ?_, ?_, ?_, ?_⟩
  · exact ⟨⟨_, _, rfl⟩, rfl, fun k h => by omega⟩
  · exact fun _ _ _ _ _ => trivial
  · rintro i d δ S' hd ⟨⟨a, b, rfl⟩, rfl, hk⟩
    obtain ⟨x, hx, rfl⟩ := enumD_get.mp hd
    rw [List.getElem?_map] at hx
    obtain ⟨y, hy, rfl⟩ := Option.map_eq_some_iff.mp hx
    have h2 := (wk.wd y (List.mem_of_getElem? hy)).2.1
    walk_at "go"
    refine ⟨lin_of (by omega), bIf_dec (fun h => ?_) fun h => ?_⟩
    · exact ⟨by decide, qx i ⟨⟨y, hy, by omega⟩, hk⟩⟩
    · refine ⟨⟨_, _, rfl⟩, fun k hki z hz => ?_⟩
      rcases Nat.lt_or_ge k i with q1 | q1
      · exact hk k q1 z hz
      · obtain rfl : k = i := by omega
        rw [hy] at hz
        cases hz
        omega
  · rintro δ S' ⟨⟨a, b, rfl⟩, rfl, hk⟩
    refine q (fun x hx => ?_) _
    obtain ⟨k, hk1, rfl⟩ := List.mem_iff_getElem.mp hx
    exact hk k (by rw [enumD_length, List.length_map]; exact hk1) _ (List.getElem?_eq_getElem hk1)
def spFill : DSp := fun ds S Q _ => ∃ (ws : List Str) (first : Nat) (signs : Int), ds = [.tup (ws.map .str), .int first, .int signs] ∧ Wds ws ∧ first ≤ ws.length ∧ Q (.int ((first + fillN ((lens ws).drop first) (signs + 1) : Nat))) S
theorem spFill_len {ds : List D} {S : Store} {Q : DQ} {E : DXQ} (h : spFill ds S Q E) : ds.length = 3 := by
  obtain ⟨_, _, _, rfl, _⟩ := h; rfl
theorem ok_fill_line (T : Facts K mg) : DFn P w K mg base CX0 1 T.f_fill_line T.fd_fill_line ["words", "first", "signs"] spFill := by
  refine okD T.F_fill_line sc_fill_line (by rintro ds S Q E h; exact spFill_len h) (fun cdv A outer s H E B PX hr hgd => ⟨_, (dss_cons (ds_set (i := 3) (de_add (de_var 2) de_int) sc_fill_line.nd)
  (dss_cons (ds_set (i := 4) (de_var 1) sc_fill_line.nd)
  (dss_cons (ds_while PassesOwn.never (PW.pt (dw_and (dt_lt (de_var 4) (de_len T.m_len (de_var 0))) (dw_and1 (dt_le (de_add (de_len T.m_len (de_ix (de_var 0) (de_var 4))) de_int) (de_var 3))))) (dss_cons (ds_aug (i := 3) (de_add (de_len T.m_len (de_ix (de_var 0) (de_var 4))) de_int) ip_sub sc_fill_line.nd)
  (dss_one (ds_aug (i := 4) de_int ip_add sc_fill_line.nd))))
  (dss_one (ds_ret (de_var 4)))))), ?_⟩)
  intro ds S PQ h
  obtain ⟨ws, first, signs, rfl, wk, hf, q⟩ := h
  walk_at "go"
  refine ⟨fun m δ S' => ∃ (left : Int) (j : Nat), δ = [some (.tup (ws.map .str)), some (.int first), some (.int signs), some (.int left), some (.int j)] ∧ S' = S ∧ j ≤ ws.length ∧ m = ws.length - j ∧
    first + fillN ((lens ws).drop first) (signs + 1) = j + fillN ((lens ws).drop j) left, ⟨_, signs + 1, first, rfl, rfl, hf, rfl, rfl⟩, ?_⟩
  rintro m δ S' ⟨left, j, rfl, rfl, hj, rfl, inv⟩
  walk_at "go"
  rw [List.length_map]
  have fin : fillN ((lens ws).drop j) left = 0 → PQ (.int j) S' := fun h => by
    rw [h, Nat.add_zero] at inv
    rw [inv] at q
    exact q
  refine bIf_dec (fun h => ?_) fun h => fin (by
    have : (lens ws).drop j = [] := List.drop_of_length_le (by unfold lens; rw [List.length_map]; omega)
    rw [this]; rfl)
  have hj' : j < ws.length := by omega
  have e := List.getElem?_eq_getElem hj'
  have ea := at_str e
  have hx := wk.wd _ (List.getElem_mem hj')
  have hx2 := hx.2.1
  rw [drop_len e] at inv fin
  generalize ws[j] = x at e ea hx hx2 inv fin
  rw [ea]
  walk_at "go"
  have e2 : fillN (x.length :: (lens ws).drop (j + 1)) left = if (x.length : Int) + 1 ≤ left then 1 + fillN ((lens ws).drop (j + 1)) (left - (x.length + 1)) else 0 := rfl
  rw [e2] at inv fin
  refine ⟨lin_of (by omega), bIf_dec (fun h2 => ?_) fun h2 => fin (if_neg h2)⟩
  rw [if_pos h2] at inv
  exact ⟨lin_of (by omega), ws.length - (j + 1), by omega, _, j + 1, rfl, by omega, rfl, by omega⟩
def spBentX (C : Addr) : DSp := fun ds S Q E => ∃ (name : Str) (high wide width : Int) (ws : List Str), ds = [secD name high wide ws, .int width] ∧ Wds ws ∧ 0 ≤ width ∧ 0 ≤ high ∧ high ≤ 1000 ∧
  ((∀ x ∈ ws, (x.length : Int) ≤ width) → ∀ n T, First high wide width ws n → n ≤ high.toNat + ws.length → Q (.tup (layD high wide width ws n)) (S ++ T)) ∧ ∀ j : Nat, Long ws width j → E (.ref C) [("word", .int j)] S
theorem spBentX_len {C : Addr} {ds : List D} {S : Store} {Q : DQ} {E : DXQ} (h : spBentX C ds S Q E) : ds.length = 2 := by
  obtain ⟨_, _, _, _, _, rfl, _⟩ := h; rfl
theorem ok_bent (T : Facts K mg) : DFn P w K mg base (L2.CX P w) 4 T.f_bent T.fd_bent ["section", "width"] (spBentX T.C_NoLay) := by
  refine okDdX T.F_bent sc_bent (by rintro ds S Q E h; exact spBentX_len h) (fun cdv A outer s H E φ PX hr hgd hE => ⟨_, (dss_cons (ds_par (i := 2) (j := 3) sc_bent.nd (da_cons (de_ix (de_var 0) de_int) (da_cons (de_ix (de_var 0) de_int) da_nil)))
  (dss_cons (ds_expr (de_callX (es' := []) (ok_refuse_longer (P := P) (w := w) (base := base) T) hr hgd (takes_of rfl rfl rfl rfl) (XWish.of hE) T.g_refuse_longer T.F_refuse_longer.kp ⟨_, .nil, T.b_refuse_longer⟩ (fun _ _ => .nil) (da_cons (de_var 3) (da_cons (de_var 1) da_nil))))
  (dss_cons (ds_set (i := 4) (de_keep (dl_lst da_nil)) sc_bent.nd)
  (dss_cons (ds_set (i := 5) de_int sc_bent.nd)
  (dss_cons (ds_while (passes_of rfl) (PW.pt (dw_or (dt_lt (de_var 5) (de_len T.m_len (de_var 3))) (dw_or1 (dt_lt (de_len T.m_len (de_var 4)) (de_var 2))))) (dss_cons (ds_set (i := 5) (de_call (ok_fill_line (P := P) (w := w) (base := base) T) (hr.mono (by decide)) hgd T.g_fill_line T.F_fill_line.kp T.b_fill_line (da_cons (de_var 3) (da_cons (de_var 5) (da_cons (de_call (ok_room (P := P) (w := w) (base := base) T) (hr.mono (by decide)) hgd T.g_room T.F_room.kp T.b_room (da_cons (de_var 0) (da_cons (de_len T.m_len (de_var 4)) (da_cons (de_var 1) da_nil)))) da_nil)))) sc_bent.nd)
  (dss_one (ds_expr (de_append (de_var 4) (de_var 5))))))
  (dss_one (ds_ret (de_tuple T.m_tuple (de_var 4))))))))), ?_⟩)
  intro ds S PQ h
  obtain ⟨name, high, wide, width, ws, rfl, wk, hw0, hh0, hh1, q, qx⟩ := h
  walk_at "go"
  refine ⟨ws, width, rfl, wk, fun hw d => ?_, qx⟩
  have q := q hw
  walk_at "go"
  have w1 := wk.forty
  refine ⟨lin_of (by omega), fun m δ S' => ∃ (n : Nat), δ = [some (secD name high wide ws), some (.int width), some (.int high), some (.tup (ws.map .str)), some (.ref S.length), some (.int (laid high wide width ws n))] ∧ S' = S ++ [Cell.lst (layD high wide width ws n)] ∧
    m = (high - n).toNat + (ws.length - laid high wide width ws n) ∧ n ≤ high.toNat + laid high wide width ws n ∧ ∀ j < n, ¬ Ends high wide width ws j, ⟨_, 0, rfl, rfl, rfl, by omega, fun j h => by omega⟩, ?_⟩
  rintro m δ S' ⟨n, rfl, rfl, rfl, hn, no⟩
  have le1 := laid_le (high := high) (wide := wide) (width := width) (ws := ws) n
  have le2 := laid_le (high := high) (wide := wide) (width := width) (ws := ws) (n + 1)
  have up : laid high wide width ws n ≤ laid high wide width ws (n + 1) := Nat.le_add_right _ _
  walk_at "go"
  rw [List.length_map, layD_length]
  have fin : high ≤ n → ws.length ≤ laid high wide width ws n → PQ (.tup (layD high wide width ws n)) (S ++ [Cell.lst (layD high wide width ws n)]) := fun h1 h2 => q n _ ⟨⟨h1, h2⟩, no⟩ (by omega)
  refine (fun (rest : ¬ Ends high wide width ws n → _) => bIf_dec (fun h => rest fun z => by have := z.2; omega) fun h => bIf_dec (fun h2 => rest fun z => by have := z.1; omega) fun h2 => fin (by omega) (by omega)) fun ne => ?_
  refine ⟨name, high, wide, ws, n, width, rfl, ?_⟩
  refine ⟨ws, laid high wide width ws n, _, rfl, wk, le1, ?_⟩
  walk_at "go"
  have e : ((laid high wide width ws n + fillN ((lens ws).drop (laid high wide width ws n)) (roomI high wide width n + 1) : Nat) : Int) = (laid high wide width ws (n + 1) : Nat) := rfl
  rw [e, layD_length, ← layD_succ]
  have more : high ≤ n → laid high wide width ws n < laid high wide width ws (n + 1) := fun h => by
    have hl : laid high wide width ws n < ws.length := by
      rcases Nat.lt_or_ge (laid high wide width ws n) ws.length with k | k
      · exact k
      · exact absurd ⟨h, k⟩ ne
    exact laid_more hw h hl hw0
  refine ⟨lin_of (by omega), _, ?_, n + 1, rfl, rfl, rfl, ?_, ?_⟩
  · by_cases h : high ≤ n
    · have := more h
      omega
    · omega
  · by_cases h : high ≤ n
    · have := more h
      omega
    · omega
  · intro j hj
    rcases Nat.lt_or_ge j n with k | k
    · exact no j k
    · rw [show j = n by omega]; exact ne
/-! ### lines anew -/
def beg (high wide : Int) (i : Nat) : Int := if (i : Int) < high then wide else 0
def stepD (ls : List Nat) (i : Nat) : D := .tup [.int (ahead ls i : Nat), .int (ahead ls (i + 1) : Nat)]
def keptB (high wide high' wide' : Int) (ls ls' : List Nat) (i : Nat) : Bool :=
  (decide (ahead ls i = ahead ls (i + 1)) && decide (ahead ls' i = ahead ls' (i + 1))) || (decide (ahead ls i = ahead ls' i) && decide (ahead ls (i + 1) = ahead ls' (i + 1)) && decide (beg high wide i = beg high' wide' i))
def anewL (high wide high' wide' : Int) (ls ls' : List Nat) : List D := ((List.range (max ls.length ls'.length)).filter fun i => !keptB high wide high' wide' ls ls' i).map fun i : Nat => D.int (i : Int)
structure LayM (ls : List Nat) : Prop where
  some_ : 1 ≤ ls.length
  few : ls.length ≤ 200
  mono : ∀ i, ahead ls i ≤ ahead ls (i + 1)
  le : ∀ i, ahead ls i ≤ 40
theorem LayOk.m {high wide width : Int} {ws : List Str} {ls : List Nat} (h : LayOk high wide width ws ls) (h40 : ws.length ≤ 40) : LayM ls := by
  refine ⟨h.some_, Nat.le_trans h.few (by decide), fun i => ?_, fun i => Nat.le_trans (steps_le h.steps i) h40⟩
  rcases Nat.lt_or_ge i ls.length with k | k
  · exact (h.steps i k).1
  · rw [ahead_out k, ahead_out (show ls.length ≤ i + 1 by omega)]
    exact Nat.le_refl _
theorem lay_at {ls : List Nat} {i : Nat} (h : i < ls.length) : atI (ls.map fun n : Nat => D.int (n : Int)) (i : Int) = some (.int (ahead ls (i + 1) : Nat)) := by
  have e : ls[i]? = some ls[i] := List.getElem?_eq_getElem h
  rw [ahead_in e]
  exact atI_nat (by rw [List.getElem?_map, e]; rfl)
theorem lay_prev {ls : List Nat} {i : Nat} (h : i < ls.length) (h0 : 0 < i) : atI (ls.map fun n : Nat => D.int (n : Int)) ((i : Int) - 1) = some (.int (ahead ls i : Nat)) := by
  have := lay_at (ls := ls) (i := i - 1) (by omega)
  rwa [show ((i - 1 : Nat) : Int) = (i : Int) - 1 by omega, show i - 1 + 1 = i by omega] at this
theorem lay_last {ls : List Nat} (h : 1 ≤ ls.length) : atI (ls.map fun n : Nat => D.int (n : Int)) (-1) = some (.int (ahead ls ls.length : Nat)) := by
  have a := lay_at (ls := ls) (i := ls.length - 1) (by omega)
  rw [show ls.length - 1 + 1 = ls.length by omega] at a
  unfold L2.atI at a ⊢
  have e1 : ixN (ls.map fun n : Nat => D.int (n : Int)).length (-1) = some (ls.length - 1) := by
    unfold ixN
    rw [List.length_map, if_neg (by decide), if_pos (by omega)]
    congr 1
    omega
  have e2 : ixN (ls.map fun n : Nat => D.int (n : Int)).length ((ls.length - 1 : Nat) : Int) = some (ls.length - 1) := by
    unfold ixN
    rw [List.length_map, if_pos (by omega), if_pos (by omega)]
    congr 1
  rw [e1]
  rw [e2] at a
  exact a
theorem eqv_pair {a b c d : Int} : PyData.eqv (.tuple [.int a, .int b]) (.tuple [.int c, .int d]) = (decide (a = c) && decide (b = d)) := by
  simp [PyData.eqv, PyData.eqvAll, Bool.beq_eq_decide_eq]
theorem int_ok {i : Int} {k : Nat} (h : i.natAbs < 10 ^ 61) : Nc (.int i) 203 k := Nc.int h
theorem pair_shaped {a b : Int} (ha : a.natAbs < 10 ^ 61) (hb : b.natAbs < 10 ^ 61) : SeqAt.shaped (.tuple [.int a, .int b]) = true :=
  (NcA.tuple (k := 0) (NcA.cons (Nc.int ha) (NcA.cons (Nc.int hb) NcA.nil))).shaped (by decide)
theorem pair_py {S : Store} {a b : Int} : Py S (.tup [.int a, .int b]) (.tuple [.int a, .int b]) := .tup (.cons (.int _) (.cons (.int _) .nil))
theorem dEq_pair {neg : Bool} {a b c d : Int} {S : Store} {Q : DQ} (ha : a.natAbs < 10 ^ 61) (hb : b.natAbs < 10 ^ 61) (hc : c.natAbs < 10 ^ 61) (hd : d.natAbs < 10 ^ 61)
    (q : Q (.bl (if neg then !(decide (a = c) && decide (b = d)) else (decide (a = c) && decide (b = d)))) S) : dEq neg (.tup [.int a, .int b]) (.tup [.int c, .int d]) S Q := by
  refine dEqP_of ⟨_, _, pair_py, pair_py, pair_shaped ha hb, pair_shaped hc hd, ?_⟩
  rw [eqv_pair]
  exact q
def spFirst : DSp := fun ds S Q _ => ∃ (ls : List Nat) (i : Nat), ds = [layN ls, .int i] ∧ i < ls.length ∧ Q (.int (ahead ls i : Nat)) S
theorem spFirst_len {ds : List D} {S : Store} {Q : DQ} {E : DXQ} (h : spFirst ds S Q E) : ds.length = 2 := by
  obtain ⟨_, _, rfl, _⟩ := h; rfl
theorem ok_first_word (T : Facts K mg) : DFn P w K mg base CX0 1 T.f_first_word T.fd_first_word ["lay", "i"] spFirst := by
  refine okD T.F_first_word sc_first_word (by rintro ds S Q E h; exact spFirst_len h) (fun cdv A outer s H E B PX hr hgd => ⟨_, (dss_one (ds_ret (de_if (dt_gt (de_var 1) de_int) (de_ix (de_var 0) (de_sub (de_var 1) de_int)) de_int))), ?_⟩)
  intro ds S PQ h
  obtain ⟨ls, i, rfl, hi, q⟩ := h
  unfold layN
  walk_at "go"
  refine bIf_dec (fun h => ?_) fun h => ?_
  · rw [lay_prev hi (by omega)]
    walk_at "go"
    exact q
  · have : i = 0 := by omega
    subst this
    exact q
def spResized : DSp := fun ds S Q _ => ∃ (name : Str) (high wide h w : Int) (ws : List Str), ds = [secD name high wide ws, .int h, .int w] ∧ Q (secD name h w ws) S
theorem spResized_len {ds : List D} {S : Store} {Q : DQ} {E : DXQ} (h : spResized ds S Q E) : ds.length = 3 := by
  obtain ⟨_, _, _, _, _, _, rfl, _⟩ := h; rfl
theorem ok_resized (T : Facts K mg) : DFn P w K mg base CX0 1 T.f_resized T.fd_resized ["section", "high", "wide"] spResized := by
  refine okD T.F_resized sc_resized (by rintro ds S Q E h; exact spResized_len h) (fun cdv A outer s H E B PX hr hgd => ⟨_, (dss_one (ds_ret (de_tup (da_cons (de_ix (de_var 0) de_int) (da_cons (de_var 1) (da_cons (de_var 2) (da_cons (de_ix (de_var 0) de_int) da_nil))))))), ?_⟩)
  intro ds S PQ h
  obtain ⟨name, high, wide, h, w, ws, rfl, q⟩ := h
  walk_at "go"
  exact ⟨lin_of (by omega), q⟩
def spStep : DSp := fun ds S Q _ => ∃ (ls : List Nat) (i : Nat), ds = [layN ls, .int i] ∧ 1 ≤ ls.length ∧ Q (stepD ls i) S
theorem spStep_len {ds : List D} {S : Store} {Q : DQ} {E : DXQ} (h : spStep ds S Q E) : ds.length = 2 := by
  obtain ⟨_, _, rfl, _⟩ := h; rfl
theorem ok_line_step (T : Facts K mg) : DFn P w K mg base CX0 2 T.f_line_step T.fd_line_step ["lay", "i"] spStep := by
  refine okD T.F_line_step sc_line_step (by rintro ds S Q E h; exact spStep_len h) (fun cdv A outer s H E B PX hr hgd => ⟨_, (dss_cons (ds_if (dt_ge (de_var 1) (de_len T.m_len (de_var 0))) (dss_one (ds_ret (de_tup (da_cons (de_ix (de_var 0) (de_neg de_int)) (da_cons (de_ix (de_var 0) (de_neg de_int)) da_nil))))) dss_nil)
  (dss_one (ds_ret (de_tup (da_cons (de_call (ok_first_word (P := P) (w := w) (base := base) T) hr hgd T.g_first_word T.F_first_word.kp T.b_first_word (da_cons (de_var 0) (da_cons (de_var 1) da_nil))) (da_cons (de_ix (de_var 0) (de_var 1)) da_nil)))))), ?_⟩)
  intro ds S PQ h
  obtain ⟨ls, i, rfl, hl, q⟩ := h
  unfold layN
  walk_at "go"
  rw [List.length_map]
  refine bIf_dec (fun h => ?_) fun h => ?_
  · rw [lay_last hl]
    walk_at "go"
    refine ⟨lin_of (by omega), ?_⟩
    unfold stepD at q
    rw [ahead_out (show ls.length ≤ i by omega), ahead_out (show ls.length ≤ i + 1 by omega)] at q
    exact q
  · refine ⟨ls, i, rfl, by omega, ?_⟩
    walk_at "go"
    rw [lay_at (by omega)]
    walk_at "go"
    exact ⟨lin_of (by omega), q⟩
def spVoid : DSp := fun ds S Q _ => ∃ (a b : Nat), ds = [.tup [.int a, .int b]] ∧ Q (.bl (decide (a = b))) S
theorem spVoid_len {ds : List D} {S : Store} {Q : DQ} {E : DXQ} (h : spVoid ds S Q E) : ds.length = 1 := by
  obtain ⟨_, _, rfl, _⟩ := h; rfl
theorem ok_is_void (T : Facts K mg) : DFn P w K mg base CX0 1 T.f_is_void T.fd_is_void ["step"] spVoid := by
  refine okD T.F_is_void sc_is_void (by rintro ds S Q E h; exact spVoid_len h) (fun cdv A outer s H E B PX hr hgd => ⟨_, (dss_one (ds_ret (de_eq hr (de_ix (de_var 0) de_int) (de_ix (de_var 0) de_int)))), ?_⟩)
  intro ds S PQ h
  obtain ⟨a, b, rfl, q⟩ := h
  walk_at "go"
  have e0 : atI [D.int (a : Int), .int b] 0 = some (.int a) := rfl
  have e1 : atI [D.int (a : Int), .int b] 1 = some (.int b) := rfl
  rw [e0, e1]
  walk_at "go"
  rw [show decide ((a : Int) = b) = decide (a = b) from decide_eq_decide.mpr (by omega)]
  exact q
def spKept : DSp := fun ds S Q _ => ∃ (name : Str) (high wide high' wide' : Int) (ws : List Str) (ls : List Nat) (i a b : Nat), ds = [secD name high wide ws, layN ls, secD name high' wide' ws, .int i, .tup [.int a, .int b]] ∧ 1 ≤ ls.length ∧ a ≤ 1000 ∧ b ≤ 1000 ∧ (∀ i, ahead ls i ≤ 1000) ∧
  Q (.bl ((decide (ahead ls i = ahead ls (i + 1)) && decide (a = b)) || (decide (ahead ls i = a) && decide (ahead ls (i + 1) = b) && decide (beg high wide i = beg high' wide' i)))) S
theorem spKept_len {ds : List D} {S : Store} {Q : DQ} {E : DXQ} (h : spKept ds S Q E) : ds.length = 5 := by
  obtain ⟨_, _, _, _, _, _, _, _, _, _, rfl, _⟩ := h; rfl
theorem small_ok {n : Nat} (h : n ≤ 1000) : ((n : Nat) : Int).natAbs < 10 ^ 61 := by
  have : ((n : Nat) : Int).natAbs = n := by omega
  rw [this]
  exact Nat.lt_of_le_of_lt h (by decide)
theorem ok_is_kept (T : Facts K mg) : DFn P w K mg base CX0 3 T.f_is_kept T.fd_is_kept ["section", "lay", "other", "i", "step"] spKept := by
  refine okD T.F_is_kept sc_is_kept (by rintro ds S Q E h; exact spKept_len h) (fun cdv A outer s H E B PX hr hgd => ⟨_, (dss_cons (ds_set (i := 5) (de_call (ok_line_step (P := P) (w := w) (base := base) T) hr hgd T.g_line_step T.F_line_step.kp T.b_line_step (da_cons (de_var 1) (da_cons (de_var 3) da_nil))) sc_is_kept.nd)
  (dss_cons (ds_if (PW.pt (dw_and (dt_val (de_call (ok_is_void (P := P) (w := w) (base := base) T) (hr.mono (by decide)) hgd T.g_is_void T.F_is_void.kp T.b_is_void (da_cons (de_var 5) da_nil))) (dw_and1 (dt_val (de_call (ok_is_void (P := P) (w := w) (base := base) T) (hr.mono (by decide)) hgd T.g_is_void T.F_is_void.kp T.b_is_void (da_cons (de_var 4) da_nil)))))) (dss_one (ds_ret de_bl)) dss_nil)
  (dss_one (ds_ret (de_and (de_eq hr (de_var 5) (de_var 4)) (de_one (de_eq hr (de_call (ok_begins (P := P) (w := w) (base := base) T) (hr.mono (by decide)) hgd T.g_begins T.F_begins.kp T.b_begins (da_cons (de_var 0) (da_cons (de_var 3) da_nil))) (de_call (ok_begins (P := P) (w := w) (base := base) T) (hr.mono (by decide)) hgd T.g_begins T.F_begins.kp T.b_begins (da_cons (de_var 2) (da_cons (de_var 3) da_nil)))))))))), ?_⟩)
  intro ds S PQ h
  obtain ⟨name, high, wide, high', wide', ws, ls, i, a, b, rfl, hl, ha, hb, hls, q⟩ := h
  walk_at "go"
  refine ⟨ls, i, rfl, hl, ?_⟩
  unfold stepD
  walk_at "go"
  refine ⟨ahead ls i, ahead ls (i + 1), rfl, ?_⟩
  walk_at "go"
  have rest : (decide (ahead ls i = ahead ls (i + 1)) && decide (a = b)) = false → dEq false (.tup [.int (ahead ls i : Nat), .int (ahead ls (i + 1) : Nat)]) (.tup [.int a, .int b]) S fun d S1 => isB d fun c => bIf c (spBegins [.tup [.str name, .int high, .int wide, .tup (ws.map .str)], .int i] S1 (fun x S1 => spBegins [.tup [.str name, .int high', .int wide', .tup (ws.map .str)], .int i] S1 (fun y S2 => dEq false x y S2 PQ) noX) noX) (PQ (.bl false) S1) := fun hf => by
    rw [hf, Bool.false_or] at q
    refine dEq_pair (small_ok (hls _)) (small_ok (hls _)) (small_ok ha) (small_ok hb) ?_
    rw [show (if false = true then _ else (decide (((ahead ls i : Nat) : Int) = a) && decide (((ahead ls (i + 1) : Nat) : Int) = b))) = (decide (ahead ls i = a) && decide (ahead ls (i + 1) = b)) by
      rw [if_neg Bool.false_ne_true, show decide (((ahead ls i : Nat) : Int) = a) = decide (ahead ls i = a) from decide_eq_decide.mpr (by omega), show decide (((ahead ls (i + 1) : Nat) : Int) = b) = decide (ahead ls (i + 1) = b) from decide_eq_decide.mpr (by omega)]]
    walk_at "go"
    refine bIf_both (fun h => ?_) fun h => ?_
    · rw [h, Bool.true_and] at q
      refine ⟨name, high, wide, ws, i, rfl, ?_⟩
      refine ⟨name, high', wide', ws, i, rfl, ?_⟩
      walk_at "go"
      exact q
    · rw [h, Bool.false_and] at q
      exact q
  refine bIf_both (fun h => ?_) fun h => ?_
  · refine ⟨a, b, rfl, ?_⟩
    walk_at "go"
    refine bIf_both (fun h2 => ?_) fun h2 => ?_
    · rw [h, h2] at q
      exact q
    · exact rest (by rw [h2, Bool.and_false])
  · exact rest (by rw [h]; rfl)
theorem keep_filter {n : Nat} {p : Nat → Bool} : (rangeD 0 n).filterMap (fun d => match d with | .int i => if p i.toNat then none else some d | _ => none) = ((List.range n).filter fun i => !p i).map fun i : Nat => D.int (i : Int) := by
  unfold rangeD
  induction List.range n with
  | nil => rfl
  | cons i is ih =>
    rw [List.map_cons, List.filterMap_cons, List.filter_cons, ih]
    have e : ((0 : Int) + i).toNat = i := by omega
    cases h : p i with
    | true => simp [e, h]
    | false => simp [e, h]
def spAnewLines : DSp := fun ds S Q _ => ∃ (name : Str) (high wide h w : Int) (ws : List Str) (ls ls' : List Nat), ds = [secD name high wide ws, layN ls, .int h, .int w, layN ls'] ∧ LayM ls ∧ LayM ls' ∧ Q (.tup (anewL high wide h w ls ls')) S
theorem spAnewLines_len {ds : List D} {S : Store} {Q : DQ} {E : DXQ} (h : spAnewLines ds S Q E) : ds.length = 5 := by
  obtain ⟨_, _, _, _, _, _, _, _, rfl, _⟩ := h; rfl
theorem ok_anew_lines (T : Facts K mg) : DFn P w K mg base CX0 4 T.f_anew_lines T.fd_anew_lines ["section", "lay", "high", "wide", "newer"] spAnewLines := by
  refine okD T.F_anew_lines sc_anew_lines (by rintro ds S Q E h; exact spAnewLines_len h) (fun cdv A outer s H E B PX hr hgd => ⟨_, (dss_cons (ds_set (i := 5) (de_call (ok_resized (P := P) (w := w) (base := base) T) (hr.mono (by decide)) hgd T.g_resized T.F_resized.kp T.b_resized (da_cons (de_var 0) (da_cons (de_var 2) (da_cons (de_var 3) da_nil)))) sc_anew_lines.nd)
  (dss_cons (ds_set (i := 6) (de_max2 T.m_max (da_cons (de_len T.m_len (de_var 1)) (da_cons (de_len T.m_len (de_var 4)) da_nil))) sc_anew_lines.nd)
  (dss_one (ds_ret (de_tupleL T.m_tuple (dl_comp (own := [("i", 7)]) (g := (.nm 7)) sc_anew_lines.nd (di_range1 T.m_range (da_cons (de_var 6) da_nil)) (blkOk_by (N := ["section", "lay", "high", "wide", "newer", "other", "lines", "i"]) (sc := defScope s_anew_lines) (by decide +kernel)) (fun _ _ _ _ _ => (pg_name (i := 7) sc_anew_lines.nd rfl (.inl rfl))) (fun _ _ _ _ _ => (dts_one (dt_not (dt_val (de_call (ok_is_kept (P := P) (w := w) (base := base) T) hr hgd T.g_is_kept T.F_is_kept.kp T.b_is_kept (da_cons (de_var 0) (da_cons (de_var 1) (da_cons (de_var 5) (da_cons (de_var 7) (da_cons (de_call (ok_line_step (P := P) (w := w) (base := base) T) (hr.mono (by decide)) hgd T.g_line_step T.F_line_step.kp T.b_line_step (da_cons (de_var 4) (da_cons (de_var 7) da_nil))) da_nil)))))))))) (fun _ _ _ _ _ => (de_var 7)))))))), ?_⟩)
  intro ds S PQ h
  obtain ⟨name, high, wide, h, w, ws, ls, ls', rfl, lm, lm', q⟩ := h
  have f1 := lm.few
  have f2 := lm'.few
  walk_at "go"
  refine ⟨name, high, wide, h, w, ws, rfl, ?_⟩
  unfold layN
  walk_at "go"
  rw [List.length_map, List.length_map]
  have em : (if (ls'.length : Int) > ls.length then (ls'.length : Int) else ls.length) = ((max ls.length ls'.length : Nat) : Int) := by split <;> omega
  rw [em]
  refine ⟨by omega, by omega, ?_⟩
  refine dComp_fm (fun d => match d with | .int i => if keptB high wide h w ls ls' i.toNat then none else some d | _ => none) trivial (by rw [rangeD_length]; exact lin_of (by omega)) (fun d hd R1 R0 r1 r0 => ?_) ?_
  · obtain ⟨i, hi⟩ := List.getElem?_of_mem hd
    obtain ⟨hi, rfl⟩ := rangeD_get.mp hi
    walk_at "go"
    rw [show (0 : Int) + (i : Nat) = ((i : Nat) : Int) by omega] at r1 r0 ⊢
    refine ⟨ls', i, rfl, lm'.some_, ?_⟩
    unfold stepD
    refine ⟨name, high, wide, h, w, ws, ls, i, ahead ls' i, ahead ls' (i + 1), rfl, lm.some_, Nat.le_trans (lm'.le _) (by omega), Nat.le_trans (lm'.le _) (by omega), fun j => Nat.le_trans (lm.le _) (by omega), ?_⟩
    walk_at "go"
    have e : ∀ b, keptB high wide h w ls ls' i = b → keptB high wide h w ls ls' ((i : Nat) : Int).toNat = b := fun b hb => by rw [Int.toNat_natCast]; exact hb
    refine bIf_both (fun hk => r0 ?_) fun hk => r1 _ ?_
    · show (if keptB high wide h w ls ls' ((i : Nat) : Int).toNat = true then none else _) = none
      rw [e _ hk]; rfl
    · show (if keptB high wide h w ls ls' ((i : Nat) : Int).toNat = true then none else _) = _
      rw [e _ hk]; rfl
  · rw [Int.toNat_natCast, keep_filter]
    exact q
def spSized : DSp := fun ds S Q _ => ∃ (name : Str) (high wide h w : Int) (ws : List Str), ds = [secD name high wide ws, .tup [.int h, .int w]] ∧ Q (secD name h w ws) S
theorem spSized_len {ds : List D} {S : Store} {Q : DQ} {E : DXQ} (h : spSized ds S Q E) : ds.length = 2 := by
  obtain ⟨_, _, _, _, _, _, rfl, _⟩ := h; rfl
theorem ok_law_sized (T : Facts K mg) : DFn P w K mg base CX0 1 T.f_law_sized T.fd_law_sized ["_law_section", "_law_size_here"] spSized := by
  refine okD T.F_law_sized sc_law_sized (by rintro ds S Q E h; exact spSized_len h) (fun cdv A outer s H E B PX hr hgd => ⟨_, (dss_one (ds_ret (de_add (de_add (de_tup (da_cons (de_ix (de_var 0) de_int) da_nil)) (de_var 1)) (de_tup (da_cons (de_ix (de_var 0) de_int) da_nil))))), ?_⟩)
  intro ds S PQ h
  obtain ⟨name, high, wide, h, w, ws, rfl, q⟩ := h
  walk_at "go"
  exact ⟨lin_of (by omega), lin_of (by omega), lin_of (by omega), lin_of (by omega), q⟩
def lineD (high wide : Int) (ls : List Nat) (i : Nat) : D := if ahead ls i < ahead ls (i + 1) then .tup [.int (ahead ls i : Nat), .int (ahead ls (i + 1) : Nat), .int (beg high wide i)] else .non
def spLine : DSp := fun ds S Q _ => ∃ (name : Str) (high wide : Int) (ws : List Str) (ls : List Nat) (i : Nat), ds = [secD name high wide ws, layN ls, .int i] ∧ LayM ls ∧ Q (lineD high wide ls i) S
theorem spLine_len {ds : List D} {S : Store} {Q : DQ} {E : DXQ} (h : spLine ds S Q E) : ds.length = 3 := by
  obtain ⟨_, _, _, _, _, _, rfl, _⟩ := h; rfl
theorem eqv_triple {a b c d e f : Int} : PyData.eqv (.tuple [.int a, .int b, .int c]) (.tuple [.int d, .int e, .int f]) = (decide (a = d) && (decide (b = e) && decide (c = f))) := by
  simp [PyData.eqv, PyData.eqvAll, Bool.beq_eq_decide_eq]
theorem triple_shaped {a b c : Int} (ha : a.natAbs < 10 ^ 61) (hb : b.natAbs < 10 ^ 61) (hc : c.natAbs < 10 ^ 61) : SeqAt.shaped (.tuple [.int a, .int b, .int c]) = true :=
  (NcA.tuple (k := 0) (NcA.cons (Nc.int ha) (NcA.cons (Nc.int hb) (NcA.cons (Nc.int hc) NcA.nil)))).shaped (by decide)
theorem triple_py {S : Store} {a b c : Int} : Py S (.tup [.int a, .int b, .int c]) (.tuple [.int a, .int b, .int c]) := .tup (.cons (.int _) (.cons (.int _) (.cons (.int _) .nil)))
theorem dNe_line {high wide high' wide' : Int} {ls ls' : List Nat} {i : Nat} {S : Store} {Q : DQ} (lm : LayM ls) (lm' : LayM ls') (b1 : 0 ≤ wide ∧ wide ≤ 1000) (b2 : 0 ≤ wide' ∧ wide' ≤ 1000) (q : Q (.bl (!keptB high wide high' wide' ls ls' i)) S) : dEq true (lineD high wide ls i) (lineD high' wide' ls' i) S Q := by
  have sm : ∀ n : Nat, n ≤ 40 → ((n : Nat) : Int).natAbs < 10 ^ 61 := fun n h => small_ok (by omega)
  have bg : ∀ h w : Int, 0 ≤ w ∧ w ≤ 1000 → (beg h w i).natAbs < 10 ^ 61 := fun h w hw => by
    have : (beg h w i).natAbs ≤ 1000 := by unfold beg; split <;> omega
    exact Nat.lt_of_le_of_lt this (by decide)
  have m1 := lm.mono i
  have m2 := lm'.mono i
  have no : ∀ {x : PyData}, x = .none → SeqAt.shaped x = true := fun h => by rw [h]; decide
  unfold lineD
  unfold keptB at q
  by_cases h1 : ahead ls i < ahead ls (i + 1) <;> by_cases h2 : ahead ls' i < ahead ls' (i + 1)
  · rw [if_pos h1, if_pos h2]
    refine dEqP_of ⟨_, _, triple_py, triple_py, triple_shaped (sm _ (lm.le _)) (sm _ (lm.le _)) (bg _ _ b1), triple_shaped (sm _ (lm'.le _)) (sm _ (lm'.le _)) (bg _ _ b2), ?_⟩
    rw [eqv_triple]
    rw [decide_eq_false (by omega : ¬ ahead ls i = ahead ls (i + 1)), Bool.false_and, Bool.false_or] at q
    rw [show decide (((ahead ls i : Nat) : Int) = (ahead ls' i : Nat)) = decide (ahead ls i = ahead ls' i) from decide_eq_decide.mpr (by omega), show decide (((ahead ls (i + 1) : Nat) : Int) = (ahead ls' (i + 1) : Nat)) = decide (ahead ls (i + 1) = ahead ls' (i + 1)) from decide_eq_decide.mpr (by omega), ← Bool.and_assoc]
    exact q
  · rw [if_pos h1, if_neg h2]
    refine dEqP_of ⟨_, _, triple_py, .non, triple_shaped (sm _ (lm.le _)) (sm _ (lm.le _)) (bg _ _ b1), no rfl, ?_⟩
    have e : PyData.eqv (.tuple [.int (ahead ls i : Nat), .int (ahead ls (i + 1) : Nat), .int (beg high wide i)]) .none = false := by simp [PyData.eqv]
    rw [e]
    rw [decide_eq_false (by omega : ¬ ahead ls i = ahead ls (i + 1)), Bool.false_and, Bool.false_or] at q
    have f : (decide (ahead ls i = ahead ls' i) && decide (ahead ls (i + 1) = ahead ls' (i + 1))) = false := by
      rw [Bool.and_eq_false_iff]
      by_cases k : ahead ls i = ahead ls' i
      · exact .inr (decide_eq_false (by omega))
      · exact .inl (decide_eq_false k)
    rw [f, Bool.false_and] at q
    exact q
  · rw [if_neg h1, if_pos h2]
    refine dEqP_of ⟨_, _, .non, triple_py, no rfl, triple_shaped (sm _ (lm'.le _)) (sm _ (lm'.le _)) (bg _ _ b2), ?_⟩
    have e : PyData.eqv .none (.tuple [.int (ahead ls' i : Nat), .int (ahead ls' (i + 1) : Nat), .int (beg high' wide' i)]) = false := by simp [PyData.eqv]
    rw [e]
    rw [decide_eq_false (by omega : ¬ ahead ls' i = ahead ls' (i + 1)), Bool.and_false, Bool.false_or] at q
    have f : (decide (ahead ls i = ahead ls' i) && decide (ahead ls (i + 1) = ahead ls' (i + 1))) = false := by
      rw [Bool.and_eq_false_iff]
      by_cases k : ahead ls i = ahead ls' i
      · exact .inr (decide_eq_false (by omega))
      · exact .inl (decide_eq_false k)
    rw [f, Bool.false_and] at q
    exact q
  · rw [if_neg h1, if_neg h2]
    refine dEqP_of ⟨_, _, .non, .non, no rfl, no rfl, ?_⟩
    have e : PyData.eqv .none .none = true := by simp [PyData.eqv]
    rw [e]
    rw [decide_eq_true (by omega : ahead ls i = ahead ls (i + 1)), decide_eq_true (by omega : ahead ls' i = ahead ls' (i + 1))] at q
    exact q
def spLawAnew : DSp := fun ds S Q _ => ∃ (name : Str) (high wide h w : Int) (ws : List Str) (ls ls' : List Nat), ds = [secD name high wide ws, layN ls, secD name h w ws, layN ls'] ∧ LayM ls ∧ LayM ls' ∧ (0 ≤ wide ∧ wide ≤ 1000) ∧ (0 ≤ w ∧ w ≤ 1000) ∧
  ∀ T, Q (.tup (anewL high wide h w ls ls')) (S ++ T)
theorem spLawAnew_len {ds : List D} {S : Store} {Q : DQ} {E : DXQ} (h : spLawAnew ds S Q E) : ds.length = 4 := by
  obtain ⟨_, _, _, _, _, _, _, _, rfl, _⟩ := h; rfl
/-! ### prices: the way of least cost, line by line -/
abbrev Step := Nat × Nat × Nat
def relax (b : Nat → Nat) (t : Nat → Nat) (s : Step) : Nat → Nat := fun c => if c = s.1 then min (t c) (b s.2.1 + s.2.2) else t c
def tmin (ss : List Step) (b : Nat → Nat) : Nat → Nat := ss.foldl (relax b) fun c => b c + 1
theorem fold_le (b : Nat → Nat) : ∀ (ss : List Step) (t : Nat → Nat) (c : Nat), ss.foldl (relax b) t c ≤ t c
  | [], _, _ => Nat.le_refl _
  | s :: ss, t, c => by
    refine Nat.le_trans (fold_le b ss (relax b t s) c) ?_
    unfold relax
    split
    · exact Nat.min_le_left _ _
    · exact Nat.le_refl _
theorem fold_step (b : Nat → Nat) : ∀ (ss : List Step) (t : Nat → Nat) (a l k : Nat), (a, l, k) ∈ ss → ss.foldl (relax b) t a ≤ b l + k
  | s :: ss, t, a, l, k, h => by
    rcases List.mem_cons.mp h with e | h
    · refine Nat.le_trans (fold_le b ss (relax b t s) a) ?_
      rw [← e]
      unfold relax
      rw [if_pos rfl]
      exact Nat.min_le_right _ _
    · exact fold_step b ss _ a l k h
theorem fold_at (b : Nat → Nat) : ∀ (ss : List Step) (t : Nat → Nat) (c : Nat), ss.foldl (relax b) t c = t c ∨ ∃ l k, (c, l, k) ∈ ss ∧ ss.foldl (relax b) t c = b l + k
  | [], _, _ => .inl rfl
  | s :: ss, t, c => by
    rcases fold_at b ss (relax b t s) c with h | ⟨l, k, h1, h2⟩
    · have e : (s :: ss).foldl (relax b) t c = relax b t s c := h
      unfold relax at e
      by_cases hc : c = s.1
      · rw [if_pos hc] at e
        rcases Nat.le_total (t c) (b s.2.1 + s.2.2) with k | k
        · rw [Nat.min_eq_left k] at e; exact .inl e
        · rw [Nat.min_eq_right k] at e
          exact .inr ⟨s.2.1, s.2.2, by rw [hc]; exact List.mem_cons_self, e⟩
      · rw [if_neg hc] at e; exact .inl e
    · exact .inr ⟨l, k, List.mem_cons_of_mem _ h1, h2⟩
/-- a lay, another size, a width, so many lines at most -/
structure Gr where
  high : Int
  wide : Int
  h : Int
  w : Int
  width : Int
  ws : List Str
  ls : List Nat
  M : Nat
namespace Gr
variable (g : Gr)
def N : Nat := g.ws.length
def L : Nat := max g.M g.ls.length
def kept (i a b : Nat) : Bool := (decide (ahead g.ls i = ahead g.ls (i + 1)) && decide (a = b)) || (decide (ahead g.ls i = a) && decide (ahead g.ls (i + 1) = b) && decide (beg g.high g.wide i = beg g.h g.w i))
def cost (i a b : Nat) : Nat := if g.kept i a b then 0 else 1
def fill (i a : Nat) : Nat := a + fillN ((lens g.ws).drop a) (roomI g.h g.w g.width i + 1)
def far (i a : Nat) : Nat := if i < g.M then g.fill i a else a
def stepsOf (i a : Nat) : List Step := (List.range (g.far i a + 1 - a)).map fun k => (a, a + k, g.cost i a (a + k))
def steps (i : Nat) : List Step := (List.range (g.N + 1)).flatMap (g.stepsOf i)
theorem mem_steps {i a b c : Nat} : (a, b, c) ∈ g.steps i ↔ a ≤ g.N ∧ a ≤ b ∧ b ≤ g.far i a ∧ c = g.cost i a b := by
  unfold steps stepsOf
  simp only [List.mem_flatMap, List.mem_map, List.mem_range, Prod.mk.injEq]
  constructor
  · rintro ⟨x, hx, k, hk, rfl, rfl, rfl⟩
    exact ⟨by omega, by omega, by omega, rfl⟩
  · rintro ⟨h1, h2, h3, rfl⟩
    exact ⟨a, by omega, b - a, by omega, rfl, by omega, by rw [show a + (b - a) = b by omega]⟩
theorem cost_le (i a b : Nat) : g.cost i a b ≤ 1 := by unfold cost; split <;> omega
theorem far_ge (i a : Nat) : a ≤ g.far i a := by
  unfold far fill
  split
  · exact Nat.le_add_right _ _
  · exact Nat.le_refl _
theorem far_le {i a : Nat} (h : a ≤ g.N) : g.far i a ≤ g.N := by
  unfold far fill
  split
  · have h3 := fillN_le ((lens g.ws).drop a) (roomI g.h g.w g.width i + 1)
    have h4 : (lens g.ws).length = g.ws.length := by unfold lens; rw [List.length_map]
    rw [List.length_drop] at h3
    have : g.N = g.ws.length := rfl
    omega
  · exact h
def pb : Nat → Nat → Nat
  | 0 => fun c => if c < g.N then g.L + 1 else 0
  | j + 1 => tmin (g.steps (g.L - 1 - j)) (pb j)
def price (i c : Nat) : Nat := g.pb (g.L - i) c
theorem price_step {i : Nat} (hi : i < g.L) : g.price i = tmin (g.steps i) (g.price (i + 1)) := by
  unfold price
  rw [show g.L - i = (g.L - (i + 1)) + 1 by omega]
  show tmin (g.steps (g.L - 1 - (g.L - (i + 1)))) _ = _
  rw [show g.L - 1 - (g.L - (i + 1)) = i by omega]
theorem price_end (c : Nat) : g.price g.L c = if c < g.N then g.L + 1 else 0 := by
  unfold price
  rw [Nat.sub_self]
  rfl
theorem pb_le : ∀ j c, g.pb j c ≤ g.L + 1 + j
  | 0, c => by
    show (if c < g.N then g.L + 1 else 0) ≤ _
    split <;> omega
  | j + 1, c => by
    have h1 : g.pb (j + 1) c ≤ g.pb j c + 1 := fold_le _ _ _ _
    have h2 := pb_le j c
    omega
theorem price_le (i c : Nat) : g.price i c ≤ 2 * g.L + 1 := by
  have := g.pb_le (g.L - i) c
  unfold price
  omega
theorem price_rise {i a b : Nat} (hi : i < g.L) (ha : a ≤ g.N) (h1 : a ≤ b) (h2 : b ≤ g.far i a) : g.price i a ≤ g.price (i + 1) b + g.cost i a b := by
  rw [g.price_step hi]
  exact fold_step _ _ _ a b _ (g.mem_steps.mpr ⟨ha, h1, h2, rfl⟩)
theorem price_at {i a : Nat} (hi : i < g.L) (ha : a ≤ g.N) : ∃ b, a ≤ b ∧ b ≤ g.far i a ∧ g.price i a = g.price (i + 1) b + g.cost i a b := by
  have r := g.price_rise hi ha (Nat.le_refl a) (g.far_ge i a)
  have c1 := g.cost_le i a a
  rw [g.price_step hi] at r ⊢
  rcases fold_at (g.price (i + 1)) (g.steps i) (fun c => g.price (i + 1) c + 1) a with h | ⟨l, k, h1, h2⟩
  · have h : tmin (g.steps i) (g.price (i + 1)) a = g.price (i + 1) a + 1 := h
    exact ⟨a, Nat.le_refl _, g.far_ge i a, by omega⟩
  · obtain ⟨_, h3, h4, rfl⟩ := g.mem_steps.mp h1
    exact ⟨l, h3, h4, h2⟩
/-- a way: from count to count -/
def Way (q : Nat → Nat) (n : Nat) : Prop := ∀ i, i < n → q i ≤ g.N ∧ q i ≤ q (i + 1) ∧ q (i + 1) ≤ g.far i (q i)
def sum (q : Nat → Nat) : Nat → Nat
  | 0 => 0
  | n + 1 => sum q n + g.cost n (q n) (q (n + 1))
theorem way_le {q : Nat → Nat} : ∀ n, n ≤ g.L → g.Way q n → g.price 0 (q 0) ≤ g.sum q n + g.price n (q n)
  | 0, _, _ => by show _ ≤ 0 + _; omega
  | n + 1, hn, hw => by
    have ih := way_le (q := q) n (by omega) fun i hi => hw i (by omega)
    obtain ⟨h0, h1, h2⟩ := hw n (by omega)
    have := g.price_rise (by omega) h0 h1 h2
    show _ ≤ g.sum q n + g.cost n (q n) (q (n + 1)) + _
    omega
def Best (q : Nat → Nat) (n : Nat) : Prop := g.Way q n ∧ ∀ i, i < n → g.price i (q i) = g.price (i + 1) (q (i + 1)) + g.cost i (q i) (q (i + 1))
theorem best_eq {q : Nat → Nat} : ∀ n, g.Best q n → g.price 0 (q 0) = g.sum q n + g.price n (q n)
  | 0, _ => by show _ = 0 + _; omega
  | n + 1, hw => by
    have ih := best_eq (q := q) n ⟨fun i hi => hw.1 i (by omega), fun i hi => hw.2 i (by omega)⟩
    have := hw.2 n (by omega)
    show _ = g.sum q n + g.cost n (q n) (q (n + 1)) + _
    omega
theorem sum_le (q : Nat → Nat) : ∀ n, g.sum q n ≤ n
  | 0 => Nat.le_refl 0
  | n + 1 => by
    have := sum_le q n
    have := g.cost_le n (q n) (q (n + 1))
    show g.sum q n + _ ≤ _
    omega
theorem sum_congr {q q' : Nat → Nat} : ∀ n, (∀ i, i ≤ n → q i = q' i) → g.sum q n = g.sum q' n
  | 0, _ => rfl
  | n + 1, h => by
    show g.sum q n + _ = g.sum q' n + _
    rw [sum_congr n fun i hi => h i (by omega), h n (by omega), h (n + 1) (Nat.le_refl _)]
/-- what is anew, counted -/
theorem sum_anew {nl : List Nat} (hl : nl.length ≤ g.L) : g.sum (ahead nl) g.L = (anewL g.high g.wide g.h g.w g.ls nl).length := by
  have count : ∀ n, g.sum (ahead nl) n = ((List.range n).filter fun i => !keptB g.high g.wide g.h g.w g.ls nl i).length := by
    intro n
    induction n with
    | zero => rfl
    | succ n ih =>
      rw [List.range_succ, List.filter_append, List.length_append, ← ih]
      show g.sum (ahead nl) n + g.cost n (ahead nl n) (ahead nl (n + 1)) = _
      have e : g.kept n (ahead nl n) (ahead nl (n + 1)) = keptB g.high g.wide g.h g.w g.ls nl n := rfl
      unfold cost
      rw [e]
      cases hk : keptB g.high g.wide g.h g.w g.ls nl n <;> simp [hk]
  have more : ∀ d, g.sum (ahead nl) (max g.ls.length nl.length + d) = g.sum (ahead nl) (max g.ls.length nl.length) := by
    intro d
    induction d with
    | zero => rfl
    | succ d ih =>
      show g.sum (ahead nl) (max g.ls.length nl.length + d) + g.cost (max g.ls.length nl.length + d) (ahead nl (max g.ls.length nl.length + d)) (ahead nl (max g.ls.length nl.length + d + 1)) = _
      rw [ih]
      have e1 : ahead g.ls (max g.ls.length nl.length + d) = ahead g.ls (max g.ls.length nl.length + d + 1) := by rw [ahead_out (by omega), ahead_out (show g.ls.length ≤ _ + 1 by omega)]
      have e2 : ahead nl (max g.ls.length nl.length + d) = ahead nl (max g.ls.length nl.length + d + 1) := by rw [ahead_out (by omega), ahead_out (show nl.length ≤ _ + 1 by omega)]
      have : g.kept (max g.ls.length nl.length + d) (ahead nl (max g.ls.length nl.length + d)) (ahead nl (max g.ls.length nl.length + d + 1)) = true := by
        unfold kept
        rw [decide_eq_true e1, decide_eq_true e2]
        rfl
      unfold cost
      rw [this]
      simp
  have hL : g.L = max g.ls.length nl.length + (g.L - max g.ls.length nl.length) := by unfold L at hl ⊢; omega
  rw [hL, more, count]
  unfold anewL
  rw [List.length_map]
end Gr
/-! ### the bent lay is ahead; the cheapest lay is one -/
theorem fillN_mono : ∀ (ls : List Nat) (r r' : Int), r ≤ r' → fillN ls r ≤ fillN ls r'
  | [], _, _, _ => Nat.le_refl _
  | l :: ls, r, r', h => by
    unfold fillN
    have := fillN_mono ls (r - (l + 1)) (r' - (l + 1)) (by omega)
    split <;> split <;> omega
/-- more words ahead: the line ends no sooner -/
theorem fill_ahead : ∀ (d : Nat) (ls : List Nat) (r : Int), fillN ls r ≤ d + fillN (ls.drop d) r
  | 0, ls, r => by rw [List.drop_zero]; omega
  | d + 1, [], r => by unfold fillN; exact Nat.zero_le _
  | d + 1, l :: ls, r => by
    have ih := fill_ahead d ls (r - (l + 1))
    have m := fillN_mono (ls.drop d) (r - (l + 1)) r (by omega)
    rw [List.drop_succ_cons]
    show (if (l : Int) + 1 ≤ r then 1 + fillN ls (r - (l + 1)) else 0) ≤ d + 1 + fillN (ls.drop d) r
    split <;> omega
theorem fill_more {ls : List Nat} {a b : Nat} {r : Int} (h : a ≤ b) : a + fillN (ls.drop a) r ≤ b + fillN (ls.drop b) r := by
  have := fill_ahead (b - a) (ls.drop a) r
  rw [List.drop_drop, show a + (b - a) = b by omega] at this
  omega
/-- a lay that can be let by -/
structure LayP (high wide width : Int) (ws : List Str) (ls : List Nat) : Prop where
  steps : StepsOk high wide width ws ls
  full : ahead ls ls.length = ws.length
  tall : high ≤ ls.length
  some_ : 1 ≤ ls.length
  ends : ∀ j, j < ls.length → ¬ (high ≤ j ∧ ws.length ≤ ahead ls j)
theorem LayOk.p {high wide width : Int} {ws : List Str} {ls : List Nat} (h : LayOk high wide width ws ls) : LayP high wide width ws ls := ⟨h.steps, h.full, h.tall, h.some_, h.ends⟩
theorem laid_ahead {high wide width : Int} {ws : List Str} {ls : List Nat} (h : StepsOk high wide width ws ls) : ∀ i, i ≤ ls.length → ahead ls i ≤ laid high wide width ws i
  | 0, _ => Nat.le_refl _
  | i + 1, hi => by
    have ih := laid_ahead h i (by omega)
    have h2 := (h i (by omega)).2
    have h3 := fill_more (ls := lens ws) (r := roomI high wide width i + 1) ih
    show _ ≤ laid high wide width ws i + fillN ((lens ws).drop (laid high wide width ws i)) (roomI high wide width i + 1)
    omega
theorem bent_few {high wide width : Int} {ws : List Str} {ls : List Nat} {n : Nat} (h : LayP high wide width ws ls) (f : First high wide width ws n) : n ≤ ls.length := by
  rcases Nat.lt_or_ge ls.length n with k | k
  · have := laid_ahead h.steps ls.length (Nat.le_refl _)
    rw [h.full] at this
    exact absurd ⟨h.tall, this⟩ (f.2 _ k)
  · exact k
theorem laid_up {high wide width : Int} {ws : List Str} {i j : Nat} (h : i ≤ j) : laid high wide width ws i ≤ laid high wide width ws j := by
  induction j with
  | zero => rw [show i = 0 by omega]; exact Nat.le_refl _
  | succ j ih =>
    rcases Nat.lt_or_ge j i with k | k
    · rw [show i = j + 1 by omega]; exact Nat.le_refl _
    · exact Nat.le_trans (ih k) (Nat.le_add_right _ _)
namespace Gr
variable (g : Gr)
/-- what is asked of what is handed in; n lines has the bent lay -/
structure Ok (n : Nat) : Prop where
  lm : LayM g.ls
  wk : Wds g.ws
  some_ : 1 ≤ g.ws.length
  few : g.ws.length ≤ 40
  high1 : 1 ≤ g.h
  first : First g.h g.w g.width g.ws n
  le : n ≤ g.M
  most : g.M ≤ 200
variable {g}
theorem Ok.L_le {n : Nat} (o : g.Ok n) : g.L ≤ 200 := by
  have := o.lm.few
  have := o.most
  unfold L
  omega
theorem bent_way {n : Nat} (o : g.Ok n) : g.Way (laid g.h g.w g.width g.ws) g.L := by
  intro i hi
  have e1 := laid_le (high := g.h) (wide := g.w) (width := g.width) (ws := g.ws) i
  refine ⟨e1, Nat.le_add_right _ _, ?_⟩
  unfold far fill
  split
  · exact Nat.le_refl _
  · have h1 := laid_up (high := g.h) (wide := g.w) (width := g.width) (ws := g.ws) (show n ≤ i by have := o.le; omega)
    have h2 := o.first.1.2
    have h3 := laid_le (high := g.h) (wide := g.w) (width := g.width) (ws := g.ws) (i + 1)
    omega
theorem price0 {n : Nat} (o : g.Ok n) : g.price 0 0 ≤ g.L := by
  have h1 := g.way_le g.L (Nat.le_refl _) (bent_way o)
  have h2 := g.sum_le (laid g.h g.w g.width g.ws) g.L
  have h3 := laid_up (high := g.h) (wide := g.w) (width := g.width) (ws := g.ws) (show n ≤ g.L by have := o.le; unfold L; omega)
  have h4 := o.first.1.2
  rw [g.price_end, if_neg (show ¬ laid g.h g.w g.width g.ws g.L < g.N from by show ¬ _ < g.ws.length; omega)] at h1
  have e : laid g.h g.w g.width g.ws 0 = 0 := rfl
  rw [e] at h1
  omega
/-- counts, each next one by a step of least price -/
def Counts (g : Gr) (cs : List Nat) : Prop := cs.length ≤ g.L ∧ g.Best (ahead cs) cs.length
theorem counts_up {cs : List Nat} (h : g.Counts cs) {i j : Nat} (hij : i ≤ j) (hj : j ≤ cs.length) : ahead cs i ≤ ahead cs j := by
  induction j with
  | zero => rw [show i = 0 by omega]; exact Nat.le_refl _
  | succ j ih =>
    rcases Nat.lt_or_ge j i with k | k
    · rw [show i = j + 1 by omega]; exact Nat.le_refl _
    · exact Nat.le_trans (ih k (by omega)) (h.2.1 j (by omega)).2.1
theorem counts_le {cs : List Nat} (h : g.Counts cs) : ∀ i, i ≤ cs.length → ahead cs i ≤ g.N
  | 0, _ => Nat.zero_le _
  | i + 1, hi => by
    obtain ⟨h0, h1, h2⟩ := h.2.1 i (by omega)
    exact Nat.le_trans h2 (g.far_le h0)
theorem counts_end {n : Nat} (o : g.Ok n) {cs : List Nat} (h : g.Counts cs) (hl : cs.length = g.L) : ahead cs g.L = g.N := by
  have e := g.best_eq cs.length h.2
  have p := price0 o
  have c0 : ahead cs 0 = 0 := rfl
  rw [c0, hl, g.price_end] at e
  have le := counts_le h g.L (by omega)
  by_cases k : ahead cs g.L < g.N
  · rw [if_pos k] at e; omega
  · omega
theorem counts_new {cs : List Nat} {c : Nat} (h : g.Counts cs) (hl : cs.length < g.L) (h1 : ahead cs cs.length ≤ c) (h2 : c ≤ g.far cs.length (ahead cs cs.length))
    (h3 : g.price cs.length (ahead cs cs.length) = g.price (cs.length + 1) c + g.cost cs.length (ahead cs cs.length) c) : g.Counts (cs ++ [c]) := by
  have e1 : (cs ++ [c]).length = cs.length + 1 := by rw [List.length_append, List.length_singleton]
  refine ⟨by omega, fun i hi => ?_, fun i hi => ?_⟩
  · rcases Nat.lt_or_ge i cs.length with k | k
    · rw [ahead_app (by omega), ahead_app (by omega)]; exact h.2.1 i k
    · rw [show i = cs.length by omega, ahead_app (Nat.le_refl _), ahead_new]
      exact ⟨counts_le h _ (Nat.le_refl _), h1, h2⟩
  · rcases Nat.lt_or_ge i cs.length with k | k
    · rw [ahead_app (by omega), ahead_app (by omega)]; exact h.2.2 i k
    · rw [show i = cs.length by omega, ahead_app (Nat.le_refl _), ahead_new]
      exact h3
theorem ahead_take {cs : List Nat} {k i : Nat} (hk : k ≤ cs.length) (hi : i ≤ k) : ahead (cs.take k) i = ahead cs i := by
  cases i with
  | zero => rfl
  | succ i =>
    have e : cs[i]? = some cs[i] := List.getElem?_eq_getElem (by omega)
    rw [ahead_in e, ahead_in (x := cs[i]) (by rw [List.getElem?_take_of_lt (by omega)]; exact e)]
/-- the lay told -/
theorem cheap_lay {n : Nat} (o : g.Ok n) {cs : List Nat} (h : g.Counts cs) (hl : cs.length = g.L) {j : Nat} (hj : cs[j]? = some g.N) (hno : ∀ m, m < j → cs[m]? ≠ some g.N) :
    LayP g.h g.w g.width g.ws (cs.take (max g.h.toNat (j + 1))) ∧ (cs.take (max g.h.toNat (j + 1))).length ≤ g.M ∧ g.price 0 0 = (anewL g.high g.wide g.h g.w g.ls (cs.take (max g.h.toNat (j + 1)))).length := by
  have hN : 1 ≤ g.N := o.some_
  have j1 := (List.getElem?_eq_some_iff.mp hj).1
  have aj : ahead cs (j + 1) = g.N := ahead_in hj
  have low : ∀ i, i ≤ j → ahead cs i < g.N := fun i hi => by
    cases i with
    | zero => exact hN
    | succ i =>
      have e : cs[i]? = some cs[i] := List.getElem?_eq_getElem (by omega)
      have := counts_le h (i + 1) (by omega)
      rw [ahead_in e] at this ⊢
      rcases Nat.lt_or_ge cs[i] g.N with k | k
      · exact k
      · exact absurd (by rw [e]; congr 1; omega) (hno i (by omega))
  have jM : j < g.M := by
    rcases Nat.lt_or_ge j g.M with k | k
    · exact k
    · have h2 := (h.2.1 j (by omega)).2.2
      have h3 := low j (Nat.le_refl _)
      unfold far at h2
      rw [if_neg (by omega), aj] at h2
      omega
  have hM : g.h.toNat ≤ g.M := by have := o.first.1.1; have := o.le; omega
  have K : max g.h.toNat (j + 1) ≤ g.M := by omega
  have ML : g.M ≤ g.L := by unfold L; omega
  generalize hk : max g.h.toNat (j + 1) = k at K
  have kl : k ≤ cs.length := by omega
  have lk : (cs.take k).length = k := by rw [List.length_take]; omega
  have at_ : ∀ i, i ≤ k → ahead (cs.take k) i = ahead cs i := fun i hi => ahead_take kl hi
  have top : ∀ i, j + 1 ≤ i → i ≤ cs.length → ahead cs i = g.N := fun i h1 h2 => by
    have a1 := counts_up h h1 h2
    have a2 := counts_le h i h2
    omega
  refine ⟨⟨fun i hi => ?_, ?_, ?_, ?_, fun i hi => ?_⟩, by omega, ?_⟩
  · rw [lk] at hi
    rw [at_ i (by omega), at_ (i + 1) (by omega)]
    obtain ⟨_, h1, h2⟩ := h.2.1 i (by omega)
    unfold far fill at h2
    rw [if_pos (by omega)] at h2
    exact ⟨h1, h2⟩
  · rw [lk, at_ k (Nat.le_refl _)]
    exact top k (by omega) (by omega)
  · rw [lk]; have := o.high1; omega
  · rw [lk]; omega
  · rintro ⟨h1, h2⟩
    rw [lk] at hi
    rw [at_ i (by omega)] at h2
    have := low i (by have := o.high1; omega)
    have : g.N = g.ws.length := rfl
    omega
  · have e := g.best_eq cs.length h.2
    have c0 : ahead cs 0 = 0 := rfl
    rw [c0, hl, g.price_end, if_neg (by rw [counts_end o h hl]; omega), Nat.add_zero] at e
    rw [e, ← g.sum_anew (by omega)]
    refine g.sum_congr g.L fun i hi => ?_
    rcases Nat.lt_or_ge k i with q | q
    · have e1 : ahead (cs.take k) i = ahead (cs.take k) k := by rw [ahead_out (show (cs.take k).length ≤ i by omega), lk]
      rw [e1, at_ k (Nat.le_refl _), top i (by omega) (by omega), top k (by omega) (by omega)]
    · rw [at_ i q]
/-- no lay has fewer lines anew -/
theorem fewest {nl : List Nat} (o : ∀ x ∈ g.ws, True) (h : LayP g.h g.w g.width g.ws nl) (hl : nl.length ≤ g.M) : g.price 0 0 ≤ (anewL g.high g.wide g.h g.w g.ls nl).length := by
  have ML : g.M ≤ g.L := by unfold L; omega
  rw [← g.sum_anew (by omega)]
  have w : g.Way (ahead nl) g.L := by
    intro i hi
    rcases Nat.lt_or_ge i nl.length with k | k
    · obtain ⟨h1, h2⟩ := h.steps i k
      refine ⟨steps_le h.steps i, h1, ?_⟩
      unfold far fill
      rw [if_pos (by omega)]
      exact h2
    · have e : ahead nl (i + 1) = ahead nl i := by rw [ahead_out k, ahead_out (show nl.length ≤ i + 1 by omega)]
      exact ⟨steps_le h.steps i, by omega, by rw [e]; exact g.far_ge i _⟩
  have := g.way_le g.L (Nat.le_refl _) w
  have e : ahead nl g.L = g.N := by rw [ahead_out (by omega), h.full]; rfl
  rw [g.price_end, e, if_neg (by omega), Nat.add_zero] at this
  exact this
end Gr
/-! ### the program's prices -/
def mostN (most : Option Nat) (n : Nat) (ls : List Nat) : Nat := match most with | none => max n ls.length | some m => m
def mostD (most : Option Nat) : D := match most with | none => .non | some m => .int (m : Int)
def spMostY (C : Addr) : DSp := fun ds S Q E => ∃ (name : Str) (h w width : Int) (ws : List Str) (ls : List Nat) (most : Option Nat), ds = [secD name h w ws, layN ls, .int width, mostD most] ∧ Wds ws ∧ 0 ≤ width ∧ 0 ≤ h ∧ h ≤ 1000 ∧
  ((∀ x ∈ ws, (x.length : Int) ≤ width) → ∀ n T, First h w width ws n → n ≤ h.toNat + ws.length → (n ≤ mostN most n ls → Q (.int (mostN most n ls : Nat)) (S ++ T)) ∧ (mostN most n ls < n → E (.ref C) [("word", .str "most")] (S ++ T))) ∧ ∀ j : Nat, Long ws width j → E (.ref C) [("word", .int j)] S
theorem spMostY_len {C : Addr} {ds : List D} {S : Store} {Q : DQ} {E : DXQ} (h : spMostY C ds S Q E) : ds.length = 4 := by
  obtain ⟨_, _, _, _, _, _, _, rfl, _⟩ := h; rfl
theorem ok_most_lines (T : Facts K mg) : DFn P w K mg base (L2.CX P w) 5 T.f_most_lines T.fd_most_lines ["other", "lay", "width", "most"] (spMostY T.C_NoLay) := by
  refine okDX T.F_most_lines sc_most_lines (by rintro ds S Q E h; exact spMostY_len h) (fun cdv A outer s H E φ PX hr hgd hE => ⟨_, (dss_cons (ds_set (i := 4) (de_len T.m_len (de_callX (es' := []) (ok_bent (P := P) (w := w) (base := base) T) hr hgd (takes_of rfl rfl rfl rfl) (XWish.of hE) T.g_bent T.F_bent.kp ⟨_, .nil, T.b_bent⟩ (fun _ _ => .nil) (da_cons (de_var 0) (da_cons (de_var 2) da_nil)))) sc_most_lines.nd)
  (dss_cons (ds_if (dt_isN (de_var 3) de_non) (dss_one (ds_ret (de_max2 T.m_max (da_cons (de_var 4) (da_cons (de_len T.m_len (de_var 1)) da_nil))))) dss_nil)
  (dss_cons (ds_if (dt_gt (de_var 4) (de_var 3)) (dss_one (ds_raise T.X_NoLay (hr.mono (by decide)) (takes_of rfl rfl rfl rfl) (XWish.of hE) (da_cons de_str da_nil))) dss_nil)
  (dss_one (ds_ret (de_var 3)))))), ?_⟩)
  intro ds S PQ h
  obtain ⟨name, h, w, width, ws, ls, most, rfl, wk, hw0, hh0, hh1, q, qj⟩ := h
  walk_at "go"
  refine ⟨name, h, w, width, ws, rfl, wk, hw0, hh0, hh1, fun hw n T0 fst hn => ?_, fun j hj => qj j hj⟩
  obtain ⟨q, q2⟩ := q hw n T0 fst hn
  walk_at "go"
  rw [layD_length]
  cases most with
  | none =>
    unfold mostD layN
    walk_at "go"
    rw [List.length_map]
    have em : (if (ls.length : Int) > n then (ls.length : Int) else n) = ((max n ls.length : Nat) : Int) := by split <;> omega
    rw [em]
    exact q (Nat.le_max_left _ _)
  | some m =>
    unfold mostD
    walk_at "go"
    refine bIf_dec (fun k => ?_) fun k => q (by show n ≤ m; omega)
    exact ⟨by decide, q2 (by show m < n; omega)⟩
def stD (s : Step) : D := .tup [.int (s.1 : Nat), .int (s.2.1 : Nat), .int (s.2.2 : Nat)]
def stepsD (g : Gr) (i : Nat) : List D := (g.steps i).map stD
theorem one_stepsOf {g : Gr} {i a : Nat} (h : a ≤ g.N) : (g.stepsOf i a).length ≤ g.N + 1 := by
  unfold Gr.stepsOf
  rw [List.length_map, List.length_range]
  have := g.far_le (i := i) h
  omega
theorem many_steps {g : Gr} {i : Nat} : ∀ a, a ≤ g.N + 1 → ((List.range a).flatMap (g.stepsOf i)).length ≤ a * (g.N + 1)
  | 0, _ => by simp
  | a + 1, h => by
    have ih := many_steps (g := g) (i := i) a (by omega)
    rw [List.range_succ, List.flatMap_append, List.length_append, Nat.add_mul, Nat.one_mul]
    have := one_stepsOf (g := g) (i := i) (a := a) (by omega)
    have e : ([a].flatMap (g.stepsOf i)).length = (g.stepsOf i a).length := by simp
    omega
def spPriced : DSp := fun ds S Q _ => ∃ (name : Str) (g : Gr) (i : Nat), ds = [secD name g.high g.wide g.ws, layN g.ls, secD name g.h g.w g.ws, .int (i : Nat), .int g.width, .int (g.M : Nat)] ∧ LayM g.ls ∧ Wds g.ws ∧ g.ws.length ≤ 40 ∧
  Q (.ref S.length) (S ++ [Cell.lst (stepsD g i)])
theorem spPriced_len {ds : List D} {S : Store} {Q : DQ} {E : DXQ} (h : spPriced ds S Q E) : ds.length = 6 := by
  obtain ⟨_, _, _, rfl, _⟩ := h; rfl
theorem ok_priced_steps (T : Facts K mg) : DFn P w K mg base CX0 4 T.f_priced_steps T.fd_priced_steps ["section", "lay", "other", "i", "width", "most"] spPriced := by
  refine okD T.F_priced_steps sc_priced_steps (by rintro ds S Q E h; exact spPriced_len h) (fun cdv A outer s H E B PX hr hgd => ⟨_, (dss_cons (ds_set (i := 6) (de_ix (de_var 2) de_int) sc_priced_steps.nd)
  (dss_cons (ds_set (i := 7) (de_call (ok_room (P := P) (w := w) (base := base) T) (hr.mono (by decide)) hgd T.g_room T.F_room.kp T.b_room (da_cons (de_var 2) (da_cons (de_var 3) (da_cons (de_var 4) da_nil)))) sc_priced_steps.nd)
  (dss_cons (ds_set (i := 8) (de_keep (dl_lst da_nil)) sc_priced_steps.nd)
  (dss_cons (ds_for (g := (.nm 9)) PassesOwn.never (di_range1 T.m_range (da_cons (de_add (de_len T.m_len (de_var 6)) de_int) da_nil)) (pg_name (i := 9) sc_priced_steps.nd rfl (.inl rfl)) (dss_cons (ds_set (i := 10) (de_if (dt_lt (de_var 3) (de_var 5)) (de_call (ok_fill_line (P := P) (w := w) (base := base) T) (hr.mono (by decide)) hgd T.g_fill_line T.F_fill_line.kp T.b_fill_line (da_cons (de_var 6) (da_cons (de_var 9) (da_cons (de_var 7) da_nil)))) (de_var 9)) sc_priced_steps.nd)
  (dss_one (ds_for (g := (.nm 11)) PassesOwn.never (di_range2 T.m_range (da_cons (de_var 9) (da_cons (de_add (de_var 10) de_int) da_nil))) (pg_name (i := 11) sc_priced_steps.nd rfl (.inl rfl)) (dss_cons (ds_set (i := 12) (de_if (dt_val (de_call (ok_is_kept (P := P) (w := w) (base := base) T) hr hgd T.g_is_kept T.F_is_kept.kp T.b_is_kept (da_cons (de_var 0) (da_cons (de_var 1) (da_cons (de_var 2) (da_cons (de_var 3) (da_cons (de_tup (da_cons (de_var 9) (da_cons (de_var 11) da_nil))) da_nil))))))) de_int de_int) sc_priced_steps.nd)
  (dss_one (ds_expr (de_append (de_var 8) (de_tup (da_cons (de_var 9) (da_cons (de_var 11) (da_cons (de_var 12) da_nil))))))))))))
  (dss_one (ds_ret (de_var 8))))))), ?_⟩)
  intro ds S PQ h
  obtain ⟨name, g, i, rfl, lm, wk, h40, q⟩ := h
  have hN : g.N = g.ws.length := rfl
  walk_at "go"
  refine ⟨name, g.h, g.w, g.ws, i, g.width, rfl, ?_⟩
  walk_at "go"
  rw [List.length_map]
  refine ⟨lin_of (by omega), by omega, by omega, fun a δ S' => ∃ (x y z u : Option D), δ = [some (secD name g.high g.wide g.ws), some (layN g.ls), some (secD name g.h g.w g.ws), some (.int (i : Nat)), some (.int g.width), some (.int (g.M : Nat)), some (.tup (g.ws.map .str)), some (.int (roomI g.h g.w g.width i)), some (.ref S.length), x, y, z, u] ∧
    S' = S ++ [Cell.lst (((List.range a).flatMap (g.stepsOf i)).map stD)], ?_, ?_, ?_, ?_⟩
  · exact ⟨none, none, none, none, rfl, rfl⟩
  · exact fun _ _ _ _ _ => trivial
  · rintro a d δ S' hd ⟨x, y, z, u, rfl, rfl⟩
    obtain ⟨ha, rfl⟩ := rangeD_get.mp hd
    rw [show (0 : Int) + (a : Nat) = ((a : Nat) : Int) by omega]
    have ms := many_steps (g := g) (i := i) a (by omega)
    have fl := g.far_le (i := i) (a := a) (by omega)
    have fg := g.far_ge i a
    rw [dBind_nm, optE_some]
    refine cut1 (fun δ' S1 => ∃ (y z u : Option D), δ' = [some (secD name g.high g.wide g.ws), some (layN g.ls), some (secD name g.h g.w g.ws), some (.int (i : Nat)), some (.int g.width), some (.int (g.M : Nat)), some (.tup (g.ws.map .str)), some (.int (roomI g.h g.w g.width i)), some (.ref S.length), some (.int (a : Nat)), some (.int (g.far i a : Nat)), z, u] ∧
      S1 = S ++ [Cell.lst (((List.range a).flatMap (g.stepsOf i)).map stD)]) (fun R hR => ?_) ?_
    · walk_at "go"
      refine bIf_dec (fun k => ?_) fun k => ?_
      · refine ⟨g.ws, a, _, rfl, wk, by omega, ?_⟩
        have e : g.far i a = a + fillN ((lens g.ws).drop a) (roomI g.h g.w g.width i + 1) := by unfold Gr.far Gr.fill; rw [if_pos (by omega)]
        rw [← e]
        exact hR _ _ ⟨none, _, _, rfl, rfl⟩
      · have e : g.far i a = a := by unfold Gr.far; rw [if_neg (by omega)]
        rw [e] at hR
        exact hR _ _ ⟨none, _, _, rfl, rfl⟩
    rintro δ' S1 ⟨y, z, u, rfl, rfl⟩
    walk_at "go"
    rw [show (((g.far i a : Nat) : Int) + 1 - (a : Nat)).toNat = g.far i a + 1 - a by omega]
    refine ⟨⟨by omega, by omega, by omega, by omega⟩, fun k δ S2 => ∃ (z u : Option D), δ = [some (secD name g.high g.wide g.ws), some (layN g.ls), some (secD name g.h g.w g.ws), some (.int (i : Nat)), some (.int g.width), some (.int (g.M : Nat)), some (.tup (g.ws.map .str)), some (.int (roomI g.h g.w g.width i)), some (.ref S.length), some (.int (a : Nat)), some (.int (g.far i a : Nat)), z, u] ∧
      S2 = S ++ [Cell.lst ((((List.range a).flatMap (g.stepsOf i)) ++ (List.range k).map fun k => (a, a + k, g.cost i a (a + k))).map stD)], ?_, ?_, ?_, ?_⟩
    · exact ⟨_, _, rfl, by rw [List.range_zero, List.map_nil, List.append_nil]⟩
    · exact fun _ _ _ _ _ => trivial
    · rintro k d δ S2 hd ⟨z, u, rfl, rfl⟩
      obtain ⟨hk, rfl⟩ := rangeD_get.mp hd
      rw [show ((a : Nat) : Int) + (k : Nat) = ((a + k : Nat) : Int) by omega]
      walk_at "go"
      have big : (((List.range a).flatMap (g.stepsOf i)) ++ (List.range k).map fun k => (a, a + k, g.cost i a (a + k))).length < 260000 := by
        rw [List.length_append, List.length_map, List.length_range]
        have : a * (g.N + 1) ≤ 41 * 41 := Nat.mul_le_mul (by omega) (by omega)
        omega
      refine ⟨lin_of (by omega), name, g.high, g.wide, g.h, g.w, g.ws, g.ls, i, a, a + k, rfl, lm.some_, by omega, by omega, fun j => Nat.le_trans (lm.le j) (by omega), ?_⟩
      have ek : g.kept i a (a + k) = ((decide (ahead g.ls i = ahead g.ls (i + 1)) && decide (a = a + k)) || (decide (ahead g.ls i = a) && decide (ahead g.ls (i + 1) = a + k) && decide (beg g.high g.wide i = beg g.h g.w i))) := rfl
      rw [← ek]
      have nw : ∀ c : Nat, g.cost i a (a + k) = c → (((List.range a).flatMap (g.stepsOf i)) ++ (List.range k).map fun k => (a, a + k, g.cost i a (a + k))).map stD ++ [D.tup [.int ((a : Nat) : Int), .int ((a + k : Nat) : Int), .int (c : Nat)]] =
          (((List.range a).flatMap (g.stepsOf i)) ++ (List.range (k + 1)).map fun k => (a, a + k, g.cost i a (a + k))).map stD := fun c hc => by
        rw [List.range_succ, List.map_append (l₁ := List.range k), ← List.append_assoc, List.map_append (l₂ := [k].map _)]
        subst hc
        rfl
      walk_at "go"
      rw [List.length_map]
      refine bIf_both (fun hkp => ?_) fun hkp => ?_
      · have ec : g.cost i a (a + k) = 0 := by unfold Gr.cost; rw [hkp]; rfl
        exact ⟨lin_of (by omega), lin_of (by omega), _, _, rfl, by rw [← nw 0 ec]; rfl⟩
      · have ec : g.cost i a (a + k) = 1 := by unfold Gr.cost; rw [hkp]; rfl
        exact ⟨lin_of (by omega), lin_of (by omega), _, _, rfl, by rw [← nw 1 ec]; rfl⟩
    · rintro δ S2 ⟨z, u, rfl, rfl⟩
      rw [rangeD_length]
      refine ⟨_, _, _, _, rfl, ?_⟩
      rw [List.range_succ, List.flatMap_append]
      congr 3
      simp [Gr.stepsOf]
  · rintro δ S' ⟨x, y, z, u, rfl, rfl⟩
    rw [rangeD_length, show ((g.ws.length : Int) + 1).toNat = g.N + 1 by omega]
    walk_at "go"
    exact q
def rowN (N : Nat) (f : Nat → Nat) : D := .tup ((List.range (N + 1)).map fun c => .int (f c : Nat))
theorem row_at {N c : Nat} {f : Nat → Nat} (h : c ≤ N) : atI ((List.range (N + 1)).map fun c => D.int (f c : Nat)) (c : Int) = some (.int (f c : Nat)) :=
  atI_nat (by rw [List.getElem?_map, List.getElem?_range (by omega)]; rfl)
theorem row_ix {N c : Nat} {f : Nat → Nat} (h : c ≤ N) : ixN ((List.range (N + 1)).map fun c => D.int (f c : Nat)).length (c : Int) = some c := by
  unfold ixN
  rw [List.length_map, List.length_range, if_pos (by omega), if_pos (by omega)]
  congr 1
theorem row_set {N c : Nat} {f : Nat → Nat} {v : Nat} (h : c ≤ N) : ((List.range (N + 1)).map fun c => D.int (f c : Nat)).set c (.int (v : Nat)) = (List.range (N + 1)).map fun k => D.int ((if k = c then v else f k : Nat) : Int) := by
  apply List.ext_getElem?
  intro k
  rw [List.getElem?_set, List.getElem?_map, List.getElem?_map, List.length_map, List.length_range]
  by_cases hk : c = k
  · subst hk
    rw [if_pos rfl, if_pos (by omega), List.getElem?_range (by omega)]
    simp
  · rw [if_neg hk]
    by_cases h2 : k < N + 1
    · rw [List.getElem?_range h2]
      simp only [Option.map_some, Option.some.injEq]
      rw [if_neg (fun z => hk z.symm)]
    · rw [List.getElem?_eq_none (by rw [List.length_range]; omega)]
      rfl
/-- told is just of its kind -/
def spAhead : DSp := fun ds S Q _ => ∃ (n N : Nat) (ss : List Step) (b : Nat → Nat), ds = [.ref n, rowN N b] ∧ S[n]? = some (Cell.lst (ss.map stD)) ∧ (∀ s ∈ ss, s.1 ≤ N ∧ s.2.1 ≤ N) ∧ N ≤ 1000 ∧ ∀ T, Q (rowN N (tmin ss b)) (S ++ T)
theorem spAhead_len {ds : List D} {S : Store} {Q : DQ} {E : DXQ} (h : spAhead ds S Q E) : ds.length = 2 := by
  obtain ⟨_, _, _, _, rfl, _⟩ := h; rfl
def incD : D → D
  | .int i => .int (i + 1)
  | d => d
theorem inc_row {N : Nat} {b : Nat → Nat} : ((List.range (N + 1)).map fun c => D.int (b c : Nat)).map incD = (List.range (N + 1)).map fun c => D.int ((b c + 1 : Nat) : Int) := by
  rw [List.map_map]; rfl
theorem ok_prices_ahead (T : Facts K mg) : DFn P w K mg base CX0 1 T.f_prices_ahead T.fd_prices_ahead ["steps", "behind"] spAhead := by
  refine okD T.F_prices_ahead sc_prices_ahead (by rintro ds S Q E h; exact spAhead_len h) (fun cdv A outer s H E B PX hr hgd => ⟨_, (dss_cons (ds_setLc (i := 2) (own := [("price", 6)]) (g := (.nm 6)) sc_prices_ahead.nd (di_val (de_var 1)) (blkOk_by (N := ["steps", "behind", "told", "first", "last", "cost", "price"]) (sc := defScope s_prices_ahead) (by decide +kernel)) (fun _ _ _ _ _ => (pg_name (i := 6) sc_prices_ahead.nd rfl (.inl rfl))) (fun _ _ _ _ _ => dts_nil) (fun _ _ _ _ _ => (de_add (de_var 6) de_int)) (sw_true rfl rfl rfl (by decide +kernel)))
  (dss_cons (ds_for (g := (.tp [3, 4, 5])) PassesOwn.never (di_val (de_var 0)) (pg_tup rfl (pgs_cons (pg_name (i := 3) sc_prices_ahead.nd rfl (.inl rfl)) (pgs_cons (pg_name (i := 4) sc_prices_ahead.nd rfl (.inl rfl)) (pgs_cons (pg_name (i := 5) sc_prices_ahead.nd rfl (.inl rfl)) pgs_nil)))) (dss_one (ds_setIx (de_min2 T.m_min (da_cons (de_ix (de_var 2) (de_var 3)) (da_cons (de_add (de_ix (de_var 1) (de_var 4)) (de_var 5)) da_nil))) (de_var 2) (de_var 3))))
  (dss_one (ds_ret (de_tuple T.m_tuple (de_var 2)))))), ?_⟩)
  intro ds S PQ h
  obtain ⟨n, N, ss, b, rfl, hs, hb, hN, q⟩ := h
  unfold rowN
  have hn : n < S.length := by
    rcases Nat.lt_or_ge n S.length with h | h
    · exact h
    · rw [List.getElem?_eq_none h] at hs; cases hs
  walk_at "go"
  refine dComp_map incD trivial (lin_of (by rw [List.length_map, List.length_range]; omega)) (fun d hd R1 r => ?_) ?_
  · obtain ⟨c, _, rfl⟩ := List.mem_map.mp hd
    walk_at "go"
    exact r
  rw [inc_row]
  walk_at "go"
  rw [dLst_of (grown _ _ _ hs)]
  refine ⟨fun i δ S' => ∃ (x y z u : Option D), δ = [some (.ref n), some (rowN N b), some (.ref S.length), x, y, z, u] ∧ S' = S ++ [Cell.lst ((List.range (N + 1)).map fun c => D.int ((((ss.take i).foldl (relax b) fun c => b c + 1) c : Nat) : Int))], ?_, ?_, ?_, ?_⟩
  · exact ⟨none, none, none, none, rfl, rfl⟩
  · rintro i δ S' _ ⟨x, y, z, u, rfl, rfl⟩
    exact grown _ _ _ hs
  · rintro i d δ S' hd ⟨x, y, z, u, rfl, rfl⟩
    rw [List.getElem?_map] at hd
    cases es : ss[i]? with
    | none => rw [es] at hd; cases hd
    | some s =>
      rw [es] at hd
      have hd : stD s = d := Option.some.inj hd
      subst hd
      obtain ⟨h1, h2⟩ := hb s (List.mem_of_getElem? es)
      have et : ss.take (i + 1) = ss.take i ++ [s] := by rw [List.take_succ, es]; rfl
      unfold stD rowN
      walk_at "go"
      rw [et, List.foldl_append]
      generalize (ss.take i).foldl (relax b) (fun c => b c + 1) = t
      rw [row_at h1, row_at h2]
      walk_at "go"
      rw [row_ix h1]
      walk_at "go"
      have em : (if ((b s.2.1 : Nat) : Int) + (s.2.2 : Nat) < (t s.1 : Nat) then ((b s.2.1 : Nat) : Int) + (s.2.2 : Nat) else (t s.1 : Nat)) = ((min (t s.1) (b s.2.1 + s.2.2) : Nat) : Int) := by split <;> omega
      rw [em, row_set h1]
      refine ⟨_, _, _, _, rfl, ?_⟩
      congr 3
      apply List.map_congr_left
      intro k _
      show D.int _ = D.int ((relax b t s k : Nat) : Int)
      unfold relax
      by_cases hk : k = s.1
      · rw [if_pos hk, if_pos hk, hk]
      · rw [if_neg hk, if_neg hk]
  · rintro δ S' ⟨x, y, z, u, rfl, rfl⟩
    rw [List.length_map, List.take_length]
    walk_at "go"
    exact q _
/-- the steps of all lines, each a list -/
structure Lines (g : Gr) (S : Store) (n : Nat) (r : Nat → Nat) : Prop where
  at_ : S[n]? = some (Cell.lst ((List.range g.L).map fun k => D.ref (r k)))
  row : ∀ k, k < g.L → S[r k]? = some (Cell.lst (stepsD g k))
theorem Lines.grow {g : Gr} {S : Store} {n : Nat} {r : Nat → Nat} (h : Lines g S n r) (T : Store) : Lines g (S ++ T) n r := ⟨grown _ _ _ h.at_, fun k hk => grown _ _ _ (h.row k hk)⟩
def tableD (g : Gr) : List D := (List.range (g.L + 1)).map fun i => rowN g.N (g.price i)
theorem table_at {g : Gr} {i : Nat} (h : i ≤ g.L) : atI (tableD g) (i : Int) = some (rowN g.N (g.price i)) :=
  atI_nat (by unfold tableD; rw [List.getElem?_map, List.getElem?_range (by omega)]; rfl)
def spLeast : DSp := fun ds S Q _ => ∃ (g : Gr) (n : Nat) (r : Nat → Nat), ds = [.ref n, .int (g.N : Nat)] ∧ Lines g S n r ∧ g.L ≤ 1000 ∧ 1 ≤ g.N ∧ g.N ≤ 1000 ∧ ∀ T, Q (.tup (tableD g)) (S ++ T)
theorem spLeast_len {ds : List D} {S : Store} {Q : DQ} {E : DXQ} (h : spLeast ds S Q E) : ds.length = 2 := by
  obtain ⟨_, _, _, rfl, _⟩ := h; rfl
theorem rep_one {α : Type} (x : α) : ∀ n, (List.replicate n [x]).flatten = List.replicate n x
  | 0 => rfl
  | n + 1 => by rw [List.replicate_succ, List.flatten_cons, rep_one x n]; rfl
theorem row_end {g : Gr} : (List.replicate g.N (D.int ((g.L : Int) + 1))) ++ [D.int 0] = (List.range (g.N + 1)).map fun c => D.int ((g.pb 0 c : Nat) : Int) := by
  apply List.ext_getElem?
  intro k
  rw [List.getElem?_map]
  rcases Nat.lt_trichotomy k g.N with h | h | h
  · rw [List.getElem?_append_left (by rw [List.length_replicate]; exact h), List.getElem?_replicate, if_pos h, List.getElem?_range (by omega)]
    show _ = some (D.int ((if k < g.N then g.L + 1 else 0 : Nat) : Int))
    rw [if_pos h]; rfl
  · subst h
    rw [List.getElem?_append_right (by rw [List.length_replicate]; exact Nat.le_refl _), List.length_replicate, Nat.sub_self, List.getElem?_range (by omega)]
    show _ = some (D.int ((if g.N < g.N then g.L + 1 else 0 : Nat) : Int))
    rw [if_neg (Nat.lt_irrefl _)]; rfl
  · rw [List.getElem?_eq_none (by rw [List.length_append, List.length_replicate, List.length_singleton]; omega), List.getElem?_eq_none (by rw [List.length_range]; omega)]
    rfl
theorem rev_table {g : Gr} : ((List.range (g.L + 1)).map fun j => rowN g.N (g.pb j)).reverse = tableD g := by
  apply List.ext_getElem?
  intro k
  unfold tableD
  by_cases h : k < g.L + 1
  · rw [List.getElem?_reverse (by rw [List.length_map, List.length_range]; exact h), List.length_map, List.length_range, List.getElem?_map, List.getElem?_map, List.getElem?_range (by omega), List.getElem?_range h]
    show some (rowN g.N (g.pb _)) = some (rowN g.N (g.pb _))
    rw [show g.L + 1 - 1 - k = g.L - k by omega]
  · rw [List.getElem?_eq_none (by rw [List.length_reverse, List.length_map, List.length_range]; omega), List.getElem?_eq_none (by rw [List.length_map, List.length_range]; omega)]
theorem ok_least_prices (T : Facts K mg) : DFn P w K mg base CX0 2 T.f_least_prices T.fd_least_prices ["lines", "many"] spLeast := by
  refine okD T.F_least_prices sc_least_prices (by rintro ds S Q E h; exact spLeast_len h) (fun cdv A outer s H E B PX hr hgd => ⟨_, (dss_cons (ds_set (i := 2) (de_keep (dl_lst (da_cons (de_add (de_mulT (de_tup (da_cons (de_add (de_len T.m_len (de_var 0)) de_int) da_nil)) (de_var 1)) (de_tup (da_cons de_int da_nil))) da_nil))) sc_least_prices.nd)
  (dss_cons (ds_for (g := (.nm 3)) PassesOwn.never (di_rev T.m_reversed (de_var 0)) (pg_name (i := 3) sc_least_prices.nd rfl (.inl rfl)) (dss_one (ds_expr (de_append (de_var 2) (de_call (ok_prices_ahead (P := P) (w := w) (base := base) T) hr hgd T.g_prices_ahead T.F_prices_ahead.kp T.b_prices_ahead (da_cons (de_var 3) (da_cons (de_ix (de_var 2) (de_neg de_int)) da_nil)))))))
  (dss_one (ds_ret (de_tupRev T.m_tuple T.m_reversed (de_var 2)))))), ?_⟩)
  intro ds S PQ h
  obtain ⟨g, n, r, rfl, ln, hL, hN1, hN, q⟩ := h
  have hn : n < S.length := by
    rcases Nat.lt_or_ge n S.length with h | h
    · exact h
    · have := ln.at_; rw [List.getElem?_eq_none h] at this; cases this
  walk_at "go"
  rw [dLst_of ln.at_]
  walk_at "go"
  rw [List.length_map, List.length_range, Int.toNat_natCast, rep_one, row_end]
  refine ⟨lin_of (by omega), (fun z => nomatch z), by omega, by omega, by omega, lin_of (by omega), by rw [List.length_replicate]; exact lin_of (by omega), lin_of (by omega), ?_⟩
  rw [dLst_of (grown _ _ _ ln.at_)]
  refine ⟨fun i δ S' => ∃ (x : Option D) (Z : Store), δ = [some (.ref n), some (.int (g.N : Nat)), some (.ref S.length), x] ∧ S' = S ++ (Cell.lst ((List.range (i + 1)).map fun j => rowN g.N (g.pb j)) :: Z), ?_, ?_, ?_, ?_⟩
  · exact ⟨none, [], rfl, rfl⟩
  · rintro i δ S' _ ⟨x, Z, rfl, rfl⟩
    exact grown _ _ _ ln.at_
  · rintro i d δ S' hd ⟨x, Z, rfl, rfl⟩
    have hi := (List.getElem?_eq_some_iff.mp hd).1
    rw [List.length_reverse, List.length_map, List.length_range] at hi
    rw [List.getElem?_reverse (by rw [List.length_map, List.length_range]; exact hi), List.length_map, List.length_range, List.getElem?_map, List.getElem?_range (by omega)] at hd
    have hd : D.ref (r (g.L - 1 - i)) = d := Option.some.inj hd
    subst hd
    have lastA : atI ((List.range (i + 1)).map fun j => rowN g.N (g.pb j)) (-1) = some (rowN g.N (g.pb i)) := by
      rw [List.range_succ, List.map_append]
      exact atI_last _ _
    walk_at "go"
    rw [lastA]
    walk_at "go"
    refine ⟨r (g.L - 1 - i), g.N, g.steps (g.L - 1 - i), g.pb i, rfl, grown _ _ _ (ln.row _ (by omega)), fun s hs => ?_, by omega, fun T => ?_⟩
    · obtain ⟨a, b, c⟩ := s
      obtain ⟨h1, h2, h3, _⟩ := g.mem_steps.mp hs
      exact ⟨h1, Nat.le_trans h3 (g.far_le h1)⟩
    walk_at "go"
    rw [List.length_map, List.length_range]
    refine ⟨lin_of (by omega), _, Z ++ T, rfl, ?_⟩
    rw [List.range_succ (n := i + 1), List.map_append]
    rfl
  · rintro δ S' ⟨x, Z, rfl, rfl⟩
    rw [List.length_reverse, List.length_map, List.length_range]
    walk_at "go"
    rw [rev_table]
    exact q _
theorem first_of {x : Nat} : ∀ {xs : List Nat}, x ∈ xs → ∃ j : Nat, xs[j]? = some x ∧ ∀ m, m < j → xs[m]? ≠ some x
  | y :: ys, h => by
    by_cases e : y = x
    · exact ⟨0, by rw [e]; rfl, fun m hm => absurd hm (Nat.not_lt_zero m)⟩
    · have h' : x ∈ ys := by
        rcases List.mem_cons.mp h with z | z
        · exact absurd z.symm e
        · exact z
      obtain ⟨j, h1, h2⟩ := first_of h'
      refine ⟨j + 1, h1, fun m hm => ?_⟩
      cases m with
      | zero => exact fun z => e (Option.some.inj z)
      | succ m => exact h2 m (by omega)
def pickS (g : Gr) (i c : Nat) (s : Step) : Option Int := if s.1 = c ∧ g.price i s.1 = g.price (i + 1) s.2.1 + s.2.2 then some (s.2.1 : Nat) else none
def pickD (g : Gr) (i c : Nat) : D → Option D
  | .tup [.int a, .int b, .int k] => (pickS g i c (a.toNat, b.toNat, k.toNat)).map .int
  | _ => none
theorem pick_all {g : Gr} {i c : Nat} : ∀ ss : List Step, (ss.map stD).filterMap (pickD g i c) = (ss.filterMap (pickS g i c)).map .int
  | [] => rfl
  | s :: ss => by
    rw [List.map_cons, List.filterMap_cons, List.filterMap_cons, pick_all ss]
    have e : pickD g i c (stD s) = (pickS g i c s).map .int := rfl
    rw [e]
    cases pickS g i c s <;> rfl
def spCheap : DSp := fun ds S Q _ => ∃ (g : Gr) (n : Nat) (r : Nat → Nat) (k : Nat), ds = [.ref n, .tup (tableD g), .int g.h] ∧ Lines g S n r ∧ g.Ok k ∧
  ∀ (nl : List Nat) T, LayP g.h g.w g.width g.ws nl → nl.length ≤ g.M → g.price 0 0 = (anewL g.high g.wide g.h g.w g.ls nl).length → Q (layN nl) (S ++ T)
theorem spCheap_len {ds : List D} {S : Store} {Q : DQ} {E : DXQ} (h : spCheap ds S Q E) : ds.length = 3 := by
  obtain ⟨_, _, _, _, rfl, _⟩ := h; rfl
theorem ok_cheapest_lay (T : Facts K mg) : DFn P w K mg base CX0 1 T.f_cheapest_lay T.fd_cheapest_lay ["lines", "prices", "high"] spCheap := by
  refine okD T.F_cheapest_lay sc_cheapest_lay (by rintro ds S Q E h; exact spCheap_len h) (fun cdv A outer s H E B PX hr hgd => ⟨_, (dss_cons (ds_set (i := 3) (de_keep (dl_lst da_nil)) sc_cheapest_lay.nd)
  (dss_cons (ds_set (i := 4) de_int sc_cheapest_lay.nd)
  (dss_cons (ds_for (g := (.tp [5, 6])) PassesOwn.never (di_enumL T.m_enumerate (da_cons (de_var 0) da_nil)) (pg_tup rfl (pgs_cons (pg_name (i := 5) sc_cheapest_lay.nd rfl (by first | exact .inr rfl | exact .inl rfl)) (pgs_cons (pg_name (i := 6) sc_cheapest_lay.nd rfl (.inl rfl)) pgs_nil))) (dss_cons (ds_set (i := 4) (de_maxL T.m_max (dl_comp (own := [("first", 7), ("last", 8), ("cost", 9)]) (g := (.tp [7, 8, 9])) sc_cheapest_lay.nd (di_val (de_var 6)) (blkOk_by (N := ["lines", "prices", "high", "counts", "count", "i", "steps", "first", "last", "cost"]) (sc := defScope s_cheapest_lay) (by decide +kernel)) (fun _ _ _ _ _ => (pg_tup rfl (pgs_cons (pg_name (i := 7) sc_cheapest_lay.nd rfl (.inl rfl)) (pgs_cons (pg_name (i := 8) sc_cheapest_lay.nd rfl (.inl rfl)) (pgs_cons (pg_name (i := 9) sc_cheapest_lay.nd rfl (.inl rfl)) pgs_nil))))) (fun _ _ _ _ _ => (dts_one (PW.pt (dw_and (dt_eq hr (de_var 7) (de_var 4)) (dw_and1 (dt_eq hr (de_ix (de_ix (de_var 1) (de_var 5)) (de_var 7)) (de_add (de_ix (de_ix (de_var 1) (de_add (de_var 5) de_int)) (de_var 8)) (de_var 9)))))))) (fun _ _ _ _ _ => (de_var 8)))) sc_cheapest_lay.nd)
  (dss_one (ds_expr (de_append (de_var 3) (de_var 4))))))
  (dss_one (ds_ret (de_tuple T.m_tuple (de_slice (de_var 3) do_none (do_some (de_max2 T.m_max (da_cons (de_var 2) (da_cons (de_add (de_index (de_var 3) (de_var 4)) de_int) da_nil))))))))))), ?_⟩)
  intro ds S PQ h
  obtain ⟨g, n, r, k, rfl, ln, o, q⟩ := h
  have hL := o.L_le
  have hL1 : 1 ≤ g.L := by have := o.first.1.1; have := o.high1; have := o.le; unfold Gr.L; omega
  have hN : g.N ≤ 40 := o.few
  walk_at "go"
  refine ⟨lin_of (by omega), ?_⟩
  rw [dLst_of (grown _ _ _ ln.at_)]
  refine ⟨fun i δ S' => ∃ (x y z u v : Option D) (cs : List Nat), δ = [some (.ref n), some (.tup (tableD g)), some (.int g.h), some (.ref S.length), some (.int (ahead cs cs.length : Nat)), x, y, z, u, v] ∧ S' = S ++ [Cell.lst (cs.map fun n : Nat => .int (n : Int))] ∧ cs.length = i ∧ g.Counts cs, ?_, ?_, ?_, ?_⟩
  · exact ⟨none, none, none, none, none, [], rfl, rfl, rfl, Nat.zero_le _, fun i h => absurd h (Nat.not_lt_zero i), fun i h => absurd h (Nat.not_lt_zero i)⟩
  · rintro i δ S' _ ⟨x, y, z, u, v, cs, rfl, rfl, _, _⟩
    exact grown _ _ _ ln.at_
  · rintro i d δ S' hd ⟨x, y, z, u, v, cs, rfl, rfl, hlen, hcs⟩
    obtain ⟨e, he, rfl⟩ := enumD_get.mp hd
    have hi : i < g.L := by
      have := (List.getElem?_eq_some_iff.mp he).1
      rwa [List.length_map, List.length_range] at this
    rw [List.getElem?_map, List.getElem?_range hi] at he
    have he : D.ref (r i) = e := Option.some.inj he
    subst he
    have cl := Gr.counts_le hcs cs.length (Nat.le_refl _)
    walk_at "go"
    rw [dLst_of (grown _ _ _ (ln.row i hi))]
    subst hlen
    refine dComp_fm (pickD g cs.length (ahead cs cs.length)) (grown _ _ _ (ln.row _ hi)) ?_ (fun d hd R1 R0 r1 r0 => ?_) ?_
    · unfold stepsD
      rw [List.length_map]
      have := many_steps (g := g) (i := cs.length) (g.N + 1) (Nat.le_refl _)
      have h2 : (g.N + 1) * (g.N + 1) ≤ 41 * 41 := Nat.mul_le_mul (by omega) (by omega)
      unfold Gr.steps
      exact lin_of (by omega)
    · obtain ⟨s, hs, rfl⟩ := List.mem_map.mp hd
      obtain ⟨a, b, c⟩ := s
      obtain ⟨h1, h2, h3, h4⟩ := g.mem_steps.mp hs
      have hb : b ≤ g.N := Nat.le_trans h3 (g.far_le h1)
      have e : pickD g cs.length (ahead cs cs.length) (stD (a, b, c)) = (pickS g cs.length (ahead cs cs.length) (a, b, c)).map .int := rfl
      rw [e] at r1 r0
      unfold stD
      walk_at "go"
      unfold pickS at r1 r0
      refine bIf_dec (fun k1 => ?_) fun k1 => ?_
      · rw [table_at (by omega), show ((cs.length : Nat) : Int) + 1 = ((cs.length + 1 : Nat) : Int) by omega, table_at (by omega)]
        unfold rowN
        walk_at "go"
        rw [row_at h1, row_at hb]
        walk_at "go"
        refine bIf_dec (fun k2 => ?_) fun k2 => ?_
        · rw [if_pos ⟨by show a = _; omega, by show g.price cs.length a = g.price (cs.length + 1) b + c; omega⟩] at r1
          exact r1 _ rfl
        · rw [if_neg (fun z => k2 (by have := z.2; show ((g.price cs.length a : Nat) : Int) = _; have : g.price cs.length a = g.price (cs.length + 1) b + c := this; omega))] at r0
          exact r0 rfl
      · rw [if_neg (fun z => k1 (by have : a = ahead cs cs.length := z.1; omega))] at r0
        exact r0 rfl
    · unfold stepsD
      rw [pick_all]
      obtain ⟨b0, p1, p2, p3⟩ := g.price_at hi cl
      have m0 : ((b0 : Nat) : Int) ∈ (g.steps cs.length).filterMap (pickS g cs.length (ahead cs cs.length)) := by
        refine List.mem_filterMap.mpr ⟨(ahead cs cs.length, b0, g.cost cs.length (ahead cs cs.length) b0), g.mem_steps.mpr ⟨cl, p1, p2, rfl⟩, ?_⟩
        unfold pickS
        exact if_pos ⟨rfl, p3⟩
      refine ⟨_, rfl, List.length_pos_of_mem m0, fun m hm _ => ?_⟩
      obtain ⟨⟨a, b, c⟩, hs, e⟩ := List.mem_filterMap.mp hm
      obtain ⟨h1, h2, h3, h4⟩ := g.mem_steps.mp hs
      unfold pickS at e
      by_cases hh : a = ahead cs cs.length ∧ g.price cs.length a = g.price (cs.length + 1) b + c
      · rw [if_pos hh] at e
        have e : ((b : Nat) : Int) = m := Option.some.inj e
        subst e
        obtain ⟨rfl, h5⟩ := hh
        subst h4
        walk_at "go"
        rw [List.length_map]
        have nc := Gr.counts_new hcs hi h2 h3 h5
        have ea : ahead (cs ++ [b]) (cs ++ [b]).length = b := by rw [List.length_append, List.length_singleton, ahead_new]
        exact ⟨lin_of (by omega), _, _, _, _, _, cs ++ [b], by rw [ea], by rw [List.map_append]; rfl, by rw [List.length_append, List.length_singleton], nc⟩
      · rw [if_neg (show ¬ ((a, b, c).1 = _ ∧ _) from hh)] at e
        cases e
  · rintro δ S' ⟨x, y, z, u, v, cs, rfl, rfl, hlen, hcs⟩
    rw [enumD_length, List.length_map, List.length_range] at hlen
    have top := Gr.counts_end o hcs hlen
    have hmem : g.N ∈ cs := by
      have h1 : cs.length - 1 < cs.length := by omega
      have e : cs[cs.length - 1]? = some cs[cs.length - 1] := List.getElem?_eq_getElem h1
      have := ahead_in e
      rw [show cs.length - 1 + 1 = g.L by omega, top] at this
      rw [this]
      exact List.getElem_mem h1
    obtain ⟨j, j1, j2⟩ := first_of hmem
    have jl := (List.getElem?_eq_some_iff.mp j1).1
    obtain ⟨lp, lm, lc⟩ := Gr.cheap_lay o hcs hlen j1 j2
    rw [hlen, top]
    walk_at "go"
    refine ⟨cs.map fun n : Nat => (n : Int), j, by rw [List.map_map]; rfl, by rw [List.getElem?_map, j1]; rfl, fun m hm z => ?_, ?_⟩
    · rw [List.getElem?_map] at z
      cases e : cs[m]? with
      | none => rw [e] at z; cases z
      | some w =>
        rw [e] at z
        have z : ((w : Nat) : Int) = (g.N : Nat) := Option.some.inj z
        exact j2 m hm (by rw [e]; congr 1; omega)
    · walk_at "go"
      have h1 := o.high1
      have em : (if ((j : Nat) : Int) + 1 > g.h then ((j : Nat) : Int) + 1 else g.h) = ((max g.h.toNat (j + 1) : Nat) : Int) := by split <;> omega
      rw [em, cut_to (by omega), Int.toNat_natCast, ← List.map_take]
      exact q _ _ lp lm lc
def grOf (high wide h w width : Int) (ws : List Str) (ls : List Nat) (most : Option Nat) (n : Nat) : Gr := ⟨high, wide, h, w, width, ws, ls, mostN most n ls⟩
/-- what is handed in -/
structure AskOk (high wide h w width : Int) (ws : List Str) (ls : List Nat) (most : Option Nat) : Prop where
  wk : Wds ws
  some_ : 1 ≤ ws.length
  few : ws.length ≤ 40
  lm : LayM ls
  h1 : 1 ≤ h
  h9 : h ≤ 9
  w0 : 0 ≤ width
  fits : ∀ x ∈ ws, (x.length : Int) ≤ width
  le : ∀ n, First h w width ws n → n ≤ h.toNat + ws.length → mostN most n ls ≤ 200
theorem AskOk.gr {high wide h w width : Int} {ws : List Str} {ls : List Nat} {most : Option Nat} {n : Nat} (a : AskOk high wide h w width ws ls most) (f : First h w width ws n) (hn : n ≤ h.toNat + ws.length) (hm : n ≤ mostN most n ls) : (grOf high wide h w width ws ls most n).Ok n :=
  ⟨a.lm, a.wk, a.some_, a.few, a.h1, f, hm, a.le n f hn⟩
def toldD (g : Gr) (nl : List Nat) : D := .tup [.int (g.price 0 0 : Nat), layN nl, .tup (tableD g)]
/-- what is handed in, with long words perhaps -/
structure AskL (high wide h w width : Int) (ws : List Str) (ls : List Nat) (most : Option Nat) : Prop where
  wk : Wds ws
  some_ : 1 ≤ ws.length
  few : ws.length ≤ 40
  lm : LayM ls
  h1 : 1 ≤ h
  h9 : h ≤ 9
  w0 : 0 ≤ width
  le : ∀ n, First h w width ws n → n ≤ h.toNat + ws.length → mostN most n ls ≤ 200
theorem AskL.ask {high wide h w width : Int} {ws : List Str} {ls : List Nat} {most : Option Nat} (a : AskL high wide h w width ws ls most) (hw : ∀ x ∈ ws, (x.length : Int) ≤ width) : AskOk high wide h w width ws ls most := ⟨a.wk, a.some_, a.few, a.lm, a.h1, a.h9, a.w0, hw, a.le⟩
def spFewestY (C : Addr) : DSp := fun ds S Q E => ∃ (name : Str) (high wide h w width : Int) (ws : List Str) (ls : List Nat) (most : Option Nat), ds = [secD name high wide ws, layN ls, .int h, .int w, .int width, mostD most] ∧ AskL high wide h w width ws ls most ∧ (AskOk high wide h w width ws ls most →
  (∀ n nl T, First h w width ws n → n ≤ h.toNat + ws.length → n ≤ mostN most n ls → LayP h w width ws nl → nl.length ≤ mostN most n ls → (grOf high wide h w width ws ls most n).price 0 0 = (anewL high wide h w ls nl).length → Q (toldD (grOf high wide h w width ws ls most n) nl) (S ++ T)) ∧
  ∀ n T, First h w width ws n → n ≤ h.toNat + ws.length → mostN most n ls < n → E (.ref C) [("word", .str "most")] (S ++ T)) ∧ ∀ j : Nat, Long ws width j → E (.ref C) [("word", .int j)] S
theorem spFewestY_len {C : Addr} {ds : List D} {S : Store} {Q : DQ} {E : DXQ} (h : spFewestY C ds S Q E) : ds.length = 6 := by
  obtain ⟨_, _, _, _, _, _, _, _, _, rfl, _⟩ := h; rfl
theorem ok_fewest_anew (T : Facts K mg) : DFn P w K mg base (L2.CX P w) 6 T.f_fewest_anew T.fd_fewest_anew ["section", "lay", "high", "wide", "width", "most"] (spFewestY T.C_NoLay) := by
  refine okDdX T.F_fewest_anew sc_fewest_anew (by rintro ds S Q E h; exact spFewestY_len h) (fun cdv A outer s H E φ PX hr hgd hE => ⟨_, (dss_cons (ds_set (i := 6) (de_call (ok_resized (P := P) (w := w) (base := base) T) (hr.mono (by decide)) hgd T.g_resized T.F_resized.kp T.b_resized (da_cons (de_var 0) (da_cons (de_var 2) (da_cons (de_var 3) da_nil)))) sc_fewest_anew.nd)
  (dss_cons (ds_set (i := 5) (de_callX (es' := []) (ok_most_lines (P := P) (w := w) (base := base) T) hr hgd (takes_of rfl rfl rfl rfl) (XWish.of hE) T.g_most_lines T.F_most_lines.kp ⟨_, .nil, T.b_most_lines⟩ (fun _ _ => .nil) (da_cons (de_var 6) (da_cons (de_var 1) (da_cons (de_var 4) (da_cons (de_var 5) da_nil))))) sc_fewest_anew.nd)
  (dss_cons (ds_setLc (i := 7) (own := [("i", 10)]) (g := (.nm 10)) sc_fewest_anew.nd (di_range1 T.m_range (da_cons (de_max2 T.m_max (da_cons (de_var 5) (da_cons (de_len T.m_len (de_var 1)) da_nil))) da_nil)) (blkOk_by (N := ["section", "lay", "high", "wide", "width", "most", "other", "lines", "prices", "newer", "i"]) (sc := defScope s_fewest_anew) (by decide +kernel)) (fun _ _ _ _ _ => (pg_name (i := 10) sc_fewest_anew.nd rfl (.inl rfl))) (fun _ _ _ _ _ => dts_nil) (fun _ _ _ _ _ => (de_call (ok_priced_steps (P := P) (w := w) (base := base) T) (hr.mono (by decide)) hgd T.g_priced_steps T.F_priced_steps.kp T.b_priced_steps (da_cons (de_var 0) (da_cons (de_var 1) (da_cons (de_var 6) (da_cons (de_var 10) (da_cons (de_var 4) (da_cons (de_var 5) da_nil)))))))) (sw_true rfl rfl rfl (by decide +kernel)))
  (dss_cons (ds_set (i := 8) (de_call (ok_least_prices (P := P) (w := w) (base := base) T) (hr.mono (by decide)) hgd T.g_least_prices T.F_least_prices.kp T.b_least_prices (da_cons (de_var 7) (da_cons (de_len T.m_len (de_ix (de_var 0) de_int)) da_nil))) sc_fewest_anew.nd)
  (dss_cons (ds_set (i := 9) (de_call (ok_cheapest_lay (P := P) (w := w) (base := base) T) (hr.mono (by decide)) hgd T.g_cheapest_lay T.F_cheapest_lay.kp T.b_cheapest_lay (da_cons (de_var 7) (da_cons (de_var 8) (da_cons (de_var 2) da_nil)))) sc_fewest_anew.nd)
  (dss_one (ds_ret (de_tup (da_cons (de_ix (de_ix (de_var 8) de_int) de_int) (da_cons (de_var 9) (da_cons (de_var 8) da_nil))))))))))), ?_⟩)
  intro ds S PQ h
  obtain ⟨name, high, wide, h, w, width, ws, ls, most, rfl, al, qq, qj⟩ := h
  have a40 := al.few
  have a1 := al.h1
  have a9 := al.h9
  walk_at "go"
  refine ⟨name, high, wide, h, w, ws, rfl, ?_⟩
  walk_at "go"
  refine ⟨name, h, w, width, ws, ls, most, rfl, al.wk, al.w0, by omega, by omega, fun hw n T0 fst hn => ⟨fun m1 => ?_, fun m1 => (qq (al.ask hw)).2 n T0 fst hn m1⟩, fun j hj => qj j hj⟩
  have ask := al.ask hw
  obtain ⟨q, qx⟩ := qq ask
  have q := fun nl T => q n nl T fst hn m1
  have m2 := ask.le n fst hn
  have o := ask.gr fst hn m1
  have eM : (grOf high wide h w width ws ls most n).M = mostN most n ls := rfl
  have eN : (grOf high wide h w width ws ls most n).N = ws.length := rfl
  have eh : (grOf high wide h w width ws ls most n).h = h := rfl
  have egl : (grOf high wide h w width ws ls most n).ls = ls := rfl
  have q' : ∀ nl T, LayP (grOf high wide h w width ws ls most n).h (grOf high wide h w width ws ls most n).w (grOf high wide h w width ws ls most n).width (grOf high wide h w width ws ls most n).ws nl → nl.length ≤ (grOf high wide h w width ws ls most n).M → (grOf high wide h w width ws ls most n).price 0 0 = (anewL (grOf high wide h w width ws ls most n).high (grOf high wide h w width ws ls most n).wide (grOf high wide h w width ws ls most n).h (grOf high wide h w width ws ls most n).w (grOf high wide h w width ws ls most n).ls nl).length → PQ (toldD (grOf high wide h w width ws ls most n) nl) (S ++ T) := q
  have eargs : [D.tup [.str name, .int high, .int wide, .tup (ws.map .str)], layN ls, .tup [.str name, .int h, .int w, .tup (ws.map .str)]] = [secD name (grOf high wide h w width ws ls most n).high (grOf high wide h w width ws ls most n).wide (grOf high wide h w width ws ls most n).ws, layN (grOf high wide h w width ws ls most n).ls, secD name (grOf high wide h w width ws ls most n).h (grOf high wide h w width ws ls most n).w (grOf high wide h w width ws ls most n).ws] := rfl
  have hlm := ask.lm.few
  have hL := o.L_le
  have eL : (grOf high wide h w width ws ls most n).L = max (mostN most n ls) ls.length := rfl
  unfold layN
  walk_at "go"
  rw [List.length_map]
  have em : (if (ls.length : Int) > (mostN most n ls : Nat) then (ls.length : Int) else (mostN most n ls : Nat)) = (((grOf high wide h w width ws ls most n).L : Nat) : Int) := by rw [eL]; split <;> omega
  rw [em, Int.toNat_natCast]
  generalize hg : grOf high wide h w width ws ls most n = g at q' o hL eL eM eN eh egl eargs
  clear em
  refine ⟨by omega, by omega, fun i acc S' => acc = (List.range i).map (fun k => D.ref (S.length + T0.length + k)) ∧ S' = (S ++ T0) ++ (List.range i).map fun k => Cell.lst (stepsD g k), ⟨rfl, by rw [List.range_zero, List.map_nil, List.append_nil]⟩, fun _ _ _ _ _ => trivial, ?_, ?_⟩
  · rintro i d acc S' hd ⟨rfl, rfl⟩
    obtain ⟨hi, rfl⟩ := rangeD_get.mp hd
    rw [show (0 : Int) + (i : Nat) = ((i : Nat) : Int) by omega]
    walk_at "go"
    refine ⟨name, g, i, ?_, o.lm, o.wk, o.few, ?_⟩
    · subst hg; rfl
    refine ⟨by rw [List.length_map, List.length_range]; exact lin_of (by omega), ?_, ?_⟩
    · rw [List.range_succ, List.map_append, List.length_append, List.length_append, List.length_map, List.length_range]
      simp
      omega
    · rw [List.range_succ, List.map_append, List.append_assoc, List.append_assoc]
      simp
  · rintro acc S' ⟨rfl, rfl⟩
    rw [rangeD_length]
    generalize hS2 : (S ++ T0) ++ (List.range g.L).map (fun k => Cell.lst (stepsD g k)) = S2
    have l0 : S.length + T0.length = (S ++ T0).length := by rw [List.length_append]
    have l2 : S2.length = (S ++ T0).length + g.L := by rw [← hS2, List.length_append (as := S ++ T0), List.length_map, List.length_range]
    have ln : Lines g (S2 ++ [Cell.lst ((List.range g.L).map fun k => D.ref (S.length + T0.length + k))]) S2.length fun k => S.length + T0.length + k := by
      refine ⟨get_new, fun k hk => ?_⟩
      rw [l0, List.getElem?_append_left (by omega), ← hS2, app_get, List.getElem?_map, List.getElem?_range hk]
      rfl
    walk_at "go"
    refine ⟨g, S2.length, _, by rw [List.length_map, eN], ln, by omega, o.some_, by omega, fun T1 => ?_⟩
    walk_at "go"
    refine ⟨g, S2.length, _, n, by rw [eh], by have := ln.grow T1; rwa [List.append_assoc] at this, o, fun nl T2 lp lm lc => ?_⟩
    walk_at "go"
    have t0 := table_at (g := g) (i := 0) (Nat.zero_le _)
    rw [show ((0 : Nat) : Int) = 0 from rfl] at t0
    rw [t0]
    unfold rowN
    walk_at "go"
    have r0 := row_at (N := g.N) (f := g.price 0) (c := 0) (Nat.zero_le _)
    rw [show ((0 : Nat) : Int) = 0 from rfl] at r0
    rw [r0]
    walk_at "go"
    refine ⟨lin_of (by omega), ?_⟩
    rw [← hS2]
    have := q' nl (T0 ++ ((List.range g.L).map (fun k => Cell.lst (stepsD g k)) ++ (Cell.lst ((List.range g.L).map fun k => D.ref (S.length + T0.length + k)) :: (T1 ++ T2)))) lp lm lc
    unfold toldD at this
    simpa only [List.append_assoc, List.cons_append, List.nil_append] using this
/-! ### kinds, of any thing -/
def Thing (S : Store) : D → Prop
  | .ref n => ∃ xs, S[n]? = some (Cell.lst xs)
  | .fz _ => False
  | .obj _ _ _ => False
  | .str x => x.length ≤ sizeLine ∧ Cp x
  | .tup xs => xs.length ≤ sizeLine
  | _ => True
def isNum : D → Bool
  | .int _ => true
  | _ => false
def low (c : Nat) : Bool := decide (97 ≤ c) && decide (c ≤ 122)
def isLet : D → Bool
  | .str z => decide (z.length = 1) && z.cps.toList.all low
  | _ => false
def isWrd : D → Bool
  | .str z => decide (1 ≤ z.length) && decide (z.length ≤ 8) && z.cps.toList.all low
  | _ => false
def spOf (f : D → Bool) : DSp := fun ds S Q _ => ∃ d, ds = [d] ∧ Thing S d ∧ Q (.bl (f d)) S
theorem spOf_len {f : D → Bool} {ds : List D} {S : Store} {Q : DQ} {E : DXQ} (h : spOf f ds S Q E) : ds.length = 1 := by
  obtain ⟨_, rfl, _⟩ := h; rfl
def spNum : DSp := spOf isNum
def spLet : DSp := spOf isLet
def spWrd : DSp := spOf isWrd
theorem spNum_len {ds : List D} {S : Store} {Q : DQ} {E : DXQ} (h : spNum ds S Q E) : ds.length = 1 := spOf_len h
theorem spLet_len {ds : List D} {S : Store} {Q : DQ} {E : DXQ} (h : spLet ds S Q E) : ds.length = 1 := spOf_len h
theorem spWrd_len {ds : List D} {S : Store} {Q : DQ} {E : DXQ} (h : spWrd ds S Q E) : ds.length = 1 := spOf_len h
theorem one_sign {z : Str} (h : z.length = 1) : ∃ c, z.cps.toList = [c] := by
  have : z.cps.toList.length = 1 := h
  match e : z.cps.toList with
  | [c] => exact ⟨c, rfl⟩
  | [] => rw [e] at this; cases this
  | _ :: _ :: _ => rw [e] at this; simp at this
theorem let_of {z : Str} (h : z.length = 1) : (!decide (z.cps.toList < (("a" : String) : Str).cps.toList) && !decide ((("z" : String) : Str).cps.toList < z.cps.toList)) = z.cps.toList.all low := by
  obtain ⟨c, e⟩ := one_sign h
  have ea : (("a" : String) : Str).cps.toList = [97] := by decide +kernel
  have ez : (("z" : String) : Str).cps.toList = [122] := by decide +kernel
  rw [e, ea, ez]
  have h1 : ([c] < [97]) ↔ c < 97 := by simp [List.cons_lt_cons_iff]
  have h2 : ([122] < [c]) ↔ 122 < c := by simp [List.cons_lt_cons_iff]
  by_cases k1 : c < 97 <;> by_cases k2 : 122 < c <;> simp [h1, h2, k1, k2, low] <;> omega
theorem ok_is_number (T : Facts K mg) : DFn P w K mg base CX0 1 T.f_is_number T.fd_is_number ["thing"] spNum := by
  refine okD T.F_is_number sc_is_number (by rintro ds S Q E h; exact spNum_len h) (fun cdv A outer s H E B PX hr hgd => ⟨_, (dss_one (ds_ret (de_and (de_isi kInt_ok T.m_isinstance T.m_int PyProof.Rows.boot_int (de_var 0)) (de_one (de_not (de_isi kBool_ok T.m_isinstance T.m_bool PyProof.Rows.boot_bool (de_var 0))))))), ?_⟩)
  intro ds S PQ h
  obtain ⟨d, rfl, ht, q⟩ := h
  walk_at "go"
  cases d with
  | ref n =>
    obtain ⟨xs, e⟩ := ht
    simp only [dIsi_l e]
    walk_at "go"
    exact q
  | fz xs => exact ht.elim
  | obj _ _ _ => exact ht.elim
  | _ => walk_at "go"; exact q
theorem map_bl {xs : List D} {f : D → Bool} : xs.map (fun d => D.bl (f d)) = (xs.map f).map .bl := by rw [List.map_map]; rfl
section
variable (high wide width : Int) (ws : List Str)
def isL (i : Nat) (l : List Nat) : Bool := decide (ahead l (i + 1) = ws.length) && decide (high ≤ (i : Int) + 1) && (decide ((i : Int) + 1 = high) || decide (ahead l i < ahead l (i + 1)))
end
section
variable {high wide width : Int} {ws : List Str}
theorem lay_ends {i : Nat} {l : List Nat} (h1 : 1 ≤ high) (hl : l.length = i + 1) (st : StepsOk high wide width ws l) : isL high ws i l = true ↔ LayP high wide width ws l := by
  unfold isL
  simp only [Bool.and_eq_true, Bool.or_eq_true, decide_eq_true_eq]
  have up : ∀ j k, j ≤ k → k ≤ l.length → ahead l j ≤ ahead l k := fun j k hjk hk => by
    induction k with
    | zero => rw [show j = 0 by omega]; exact Nat.le_refl _
    | succ k ih =>
      rcases Nat.lt_or_ge k j with c | c
      · rw [show j = k + 1 by omega]; exact Nat.le_refl _
      · exact Nat.le_trans (ih c (by omega)) (st k (by omega)).1
  constructor
  · rintro ⟨⟨a, b⟩, c⟩
    refine ⟨st, by rw [hl]; exact a, by omega, by omega, fun j hj => ?_⟩
    rintro ⟨k1, k2⟩
    rcases c with c | c
    · omega
    · have := up j i (by omega) (by omega)
      omega
  · intro h
    have f := h.full
    rw [hl] at f
    have t := h.tall
    refine ⟨⟨f, by omega⟩, ?_⟩
    by_cases c : (i : Int) + 1 = high
    · exact .inl c
    · have := h.ends i (by omega)
      have := up i (i + 1) (by omega) (by omega)
      right
      rcases Nat.lt_or_ge (ahead l i) (ahead l (i + 1)) with z | z
      · exact z
      · exact absurd ⟨by omega, by omega⟩ (h.ends i (by omega))
end
theorem lay_last2 {ls : List Nat} (h : 2 ≤ ls.length) : atI (ls.map fun n : Nat => D.int (n : Int)) (-2) = some (.int (ahead ls (ls.length - 1) : Nat)) := by
  have a := lay_at (ls := ls) (i := ls.length - 2) (by omega)
  rw [show ls.length - 2 + 1 = ls.length - 1 by omega] at a
  unfold L2.atI at a ⊢
  have e1 : ixN (ls.map fun n : Nat => D.int (n : Int)).length (-2) = some (ls.length - 2) := by
    unfold ixN
    rw [List.length_map, if_neg (by decide), if_pos (by omega)]
    congr 1
    omega
  have e2 : ixN (ls.map fun n : Nat => D.int (n : Int)).length ((ls.length - 2 : Nat) : Int) = some (ls.length - 2) := by
    unfold ixN
    rw [List.length_map, if_pos (by omega), if_pos (by omega)]
    congr 1
  rw [e1]
  rw [e2] at a
  exact a
/-! ### the program's checker of lays, of what is a lay -/
theorem fill_sum : ∀ (ls : List Nat) (left : Int) (j : Nat), j ≤ fillN ls left → 1 ≤ j → ((((ls.take j).map (· + 1)).sum : Nat) : Int) ≤ left
  | [], left, j, h, h1 => by
    have : fillN [] left = 0 := rfl
    omega
  | l :: ls, left, j, h, h1 => by
    have e : fillN (l :: ls) left = if (l : Int) + 1 ≤ left then 1 + fillN ls (left - (l + 1)) else 0 := rfl
    rw [e] at h
    by_cases hl : (l : Int) + 1 ≤ left
    · rw [if_pos hl] at h
      cases j with
      | zero => omega
      | succ j =>
        rw [List.take_succ_cons, List.map_cons, List.sum_cons]
        by_cases h0 : 1 ≤ j
        · have := fill_sum ls (left - (l + 1)) j (by omega) h0
          omega
        · have : j = 0 := by omega
          subst this
          simp
          omega
    · rw [if_neg hl] at h
      omega
theorem join_fits {ws : List Str} {a b : Nat} {r : Int} (hr : 0 ≤ r) (hab : a ≤ b) (hf : b ≤ a + fillN ((lens ws).drop a) (r + 1)) : (((Txt.join (Str.ofString " ") ((ws.drop a).take (b - a))).length : Nat) : Int) ≤ r := by
  by_cases h : (ws.drop a).take (b - a) = []
  · rw [h]
    have : (Txt.join (Str.ofString " ") []).length = 0 := by decide +kernel
    omega
  · have j := join_blank h
    have hb : 1 ≤ b - a := by
      rcases Nat.eq_zero_or_pos (b - a) with k | k
      · rw [k, List.take_zero] at h; exact absurd rfl h
      · exact k
    have s := fill_sum ((lens ws).drop a) (r + 1) (b - a) (by omega) hb
    have e : (((lens ws).drop a).take (b - a)).map (· + 1) = ((ws.drop a).take (b - a)).map fun x => x.length + 1 := by
      unfold lens
      rw [← List.map_drop, ← List.map_take, List.map_map]
      rfl
    rw [e] at s
    omega
theorem join_small {ws : List Str} (wk : Wds ws) {a b : Nat} : ((((ws.drop a).take (b - a)).map (·.length)).sum + ((ws.drop a).take (b - a)).length * (Str.ofString " ").length ≤ 16777216) ∧ (Txt.join (Str.ofString " ") ((ws.drop a).take (b - a))).length ≤ 260000 := by
  have e1 : (Str.ofString " ").length = 1 := by decide +kernel
  have w1 := wk.forty
  have jn : ((ws.drop a).take (b - a)).length ≤ ws.length := by rw [List.length_take, List.length_drop]; omega
  have t2 := taken_le wk (first := a) (j := b)
  have jt : (((ws.drop a).take (b - a)).map fun x => x.length + 1).sum = taken ws a b := rfl
  have js : (((ws.drop a).take (b - a)).map (·.length)).sum ≤ taken ws a b := by
    rw [← jt]
    generalize (ws.drop a).take (b - a) = ys
    induction ys with
    | nil => simp
    | cons y ys ih => rw [List.map_cons, List.map_cons, List.sum_cons, List.sum_cons]; omega
  refine ⟨by rw [e1]; omega, ?_⟩
  by_cases h : (ws.drop a).take (b - a) = []
  · rw [h]; decide +kernel
  · have := join_blank h
    omega
theorem fill_max : ∀ (ls : List Nat) (left : Int) (k : Nat), k ≤ ls.length → ((((ls.take k).map (· + 1)).sum : Nat) : Int) ≤ left → k ≤ fillN ls left
  | _, _, 0, _, _ => Nat.zero_le _
  | [], _, k + 1, h, _ => by simp at h
  | l :: ls, left, k + 1, h, hs => by
    rw [List.take_succ_cons, List.map_cons, List.sum_cons] at hs
    have e : fillN (l :: ls) left = if (l : Int) + 1 ≤ left then 1 + fillN ls (left - (l + 1)) else 0 := rfl
    rw [e, if_pos (by omega)]
    have := fill_max ls (left - (l + 1)) k (by rw [List.length_cons] at h; omega) (by omega)
    omega
theorem fits_join {ws : List Str} {a b : Nat} {r : Int} (hb : b ≤ ws.length) (hab : a ≤ b) (h : (((Txt.join (Str.ofString " ") ((ws.drop a).take (b - a))).length : Nat) : Int) ≤ r) : b ≤ a + fillN ((lens ws).drop a) (r + 1) := by
  by_cases hn : (ws.drop a).take (b - a) = []
  · have := congrArg List.length hn
    rw [List.length_take, List.length_drop, List.length_nil] at this
    omega
  · have j := join_blank hn
    have e : (((lens ws).drop a).take (b - a)).map (· + 1) = ((ws.drop a).take (b - a)).map fun x => x.length + 1 := by
      unfold lens
      rw [← List.map_drop, ← List.map_take, List.map_map]
      rfl
    have := fill_max ((lens ws).drop a) (r + 1) (b - a) (by unfold lens; rw [List.length_drop, List.length_map]; omega) (by rw [e]; omega)
    omega
def spLineFitsX : DSp := fun ds S Q _ => ∃ (name : Str) (high wide width i : Int) (ws : List Str) (a b : Nat), ds = [secD name high wide ws, .int i, .tup (((ws.drop a).take (b - a)).map .str), .int width] ∧ Wds ws ∧ a ≤ b ∧ b ≤ ws.length ∧ Q (.bl (decide (b ≤ a + fillN ((lens ws).drop a) (roomI high wide width i + 1)))) S
theorem spLineFitsX_len {ds : List D} {S : Store} {Q : DQ} {E : DXQ} (h : spLineFitsX ds S Q E) : ds.length = 4 := by
  obtain ⟨_, _, _, _, _, _, _, _, rfl, _⟩ := h; rfl
theorem ok_line_fits (T : Facts K mg) : DFn P w K mg base CX0 3 T.f_line_fits T.fd_line_fits ["section", "i", "words", "width"] spLineFitsX := by
  refine okDd T.F_line_fits sc_line_fits (by rintro ds S Q E h; exact spLineFitsX_len h) (fun cdv A outer s H E B PX hr hgd => ⟨_, (dss_one (ds_ret (de_le (de_len T.m_len (de_join de_str (de_var 2))) (de_call (ok_room (P := P) (w := w) (base := base) T) hr hgd T.g_room T.F_room.kp T.b_room (da_cons (de_var 0) (da_cons (de_var 1) (da_cons (de_var 3) da_nil))))))), ?_⟩)
  intro ds S PQ h
  obtain ⟨name, high, wide, width, i, ws, a, b, rfl, wk, hab, hb, q⟩ := h
  have j1 := join_small wk (a := a) (b := b)
  have e : decide ((((Txt.join (Str.ofString " ") ((ws.drop a).take (b - a))).length : Nat) : Int) ≤ roomI high wide width i) = decide (b ≤ a + fillN ((lens ws).drop a) (roomI high wide width i + 1)) :=
    decide_eq_decide.mpr ⟨fun h => fits_join hb hab h, fun h => join_fits (by unfold roomI; omega) hab h⟩
  walk_at "go"
  refine ⟨_, rfl, j1.1, ?_⟩
  walk_at "go"
  refine ⟨lin_of j1.2, name, high, wide, ws, i, width, rfl, ?_⟩
  walk_at "go"
  rw [e]
  exact q
def spCheckLineX (C : Addr) : DSp := fun ds S Q E => ∃ (name : Str) (high wide width : Int) (ws : List Str) (i a b : Nat), ds = [secD name high wide ws, .int (i : Nat), .int (a : Nat), .int (b : Nat), .int width] ∧ Wds ws ∧
  (a ≤ b → b ≤ ws.length → b ≤ a + fillN ((lens ws).drop a) (roomI high wide width i + 1) → ∀ d, Q d S) ∧ (¬ (a ≤ b ∧ b ≤ ws.length ∧ b ≤ a + fillN ((lens ws).drop a) (roomI high wide width i + 1)) → ∀ fs, E (.ref C) fs S)
theorem spCheckLineX_len {C : Addr} {ds : List D} {S : Store} {Q : DQ} {E : DXQ} (h : spCheckLineX C ds S Q E) : ds.length = 5 := by
  obtain ⟨_, _, _, _, _, _, _, _, rfl, _⟩ := h; rfl
theorem ok_check_line (T : Facts K mg) : DFn P w K mg base (L2.CX P w) 4 T.f_check_line T.fd_check_line ["section", "i", "ahead", "many", "width"] (spCheckLineX T.C_NoPaper) := by
  refine okDX T.F_check_line sc_check_line (by rintro ds S Q E h; exact spCheckLineX_len h) (fun cdv A outer s H E φ PX hr hgd hE => ⟨_, (dss_cons (ds_set (i := 5) (de_ix (de_var 0) de_int) sc_check_line.nd)
  (dss_cons (ds_if (dt_lt (de_var 3) (de_var 2)) (dss_one (ds_raise T.X_NoPaper (hr.mono (by decide)) (takes_of rfl rfl rfl rfl) (XWish.of hE) (da_cons de_str (da_cons (de_var 1) da_nil)))) dss_nil)
  (dss_cons (ds_if (dt_gt (de_var 3) (de_len T.m_len (de_var 5))) (dss_one (ds_raise T.X_NoPaper (hr.mono (by decide)) (takes_of rfl rfl rfl rfl) (XWish.of hE) (da_cons de_str (da_cons (de_var 1) da_nil)))) dss_nil)
  (dss_one (ds_if (dt_not (dt_val (de_call (ok_line_fits (P := P) (w := w) (base := base) T) hr hgd T.g_line_fits T.F_line_fits.kp T.b_line_fits (da_cons (de_var 0) (da_cons (de_var 1) (da_cons (de_slice (de_var 5) (do_some (de_var 2)) (do_some (de_var 3))) (da_cons (de_var 4) da_nil))))))) (dss_one (ds_raise T.X_NoPaper (hr.mono (by decide)) (takes_of rfl rfl rfl rfl) (XWish.of hE) (da_cons de_str (da_cons (de_var 1) da_nil)))) dss_nil))))), ?_⟩)
  intro ds S PQ h
  obtain ⟨name, high, wide, width, ws, i, a, b, rfl, wk, q, qx⟩ := h
  walk_at "go"
  rw [List.length_map]
  refine bIf_dec (fun k => ⟨by decide, qx (fun z => by omega) _⟩) fun k1 => bIf_dec (fun k => ⟨by decide, qx (fun z => by omega) _⟩) fun k2 => ?_
  have ec : cutD (ws.map D.str) (some (a : Int)) (some (b : Int)) = ((ws.drop a).take (b - a)).map .str := by
    rw [cut_mid (by omega) (by omega) (by rw [List.length_map]; omega), List.map_take, List.map_drop]
    congr 1
  rw [ec]
  refine ⟨name, high, wide, width, i, ws, a, b, rfl, wk, by omega, by omega, ?_⟩
  walk_at "go"
  refine bIf_dec (fun k => q (by omega) (by omega) k _) fun k => ⟨by decide, qx (fun z => k z.2.2) _⟩
def spCheckEndX (C : Addr) : DSp := fun ds S Q E => ∃ (name : Str) (high wide width : Int) (ws : List Str) (ls : List Nat), ds = [secD name high wide ws, layN ls] ∧ 1 ≤ high ∧ StepsOk high wide width ws ls ∧ (LayP high wide width ws ls → ∀ d, Q d S) ∧ (¬ LayP high wide width ws ls → ∀ fs, E (.ref C) fs S)
theorem spCheckEndX_len {C : Addr} {ds : List D} {S : Store} {Q : DQ} {E : DXQ} (h : spCheckEndX C ds S Q E) : ds.length = 2 := by
  obtain ⟨_, _, _, _, _, _, rfl, _⟩ := h; rfl
theorem ok_check_end (T : Facts K mg) : DFn P w K mg base (L2.CX P w) 3 T.f_check_end T.fd_check_end ["section", "lay"] (spCheckEndX T.C_NoPaper) := by
  refine okDX T.F_check_end sc_check_end (by rintro ds S Q E h; exact spCheckEndX_len h) (fun cdv A outer s H E φ PX hr hgd hE => ⟨_, (dss_cons (ds_par (i := 2) (j := 3) sc_check_end.nd (da_cons (de_ix (de_var 0) de_int) (da_cons (de_ix (de_var 0) de_int) da_nil)))
  (dss_cons (ds_set (i := 4) (de_len T.m_len (de_var 1)) sc_check_end.nd)
  (dss_cons (ds_if (PW.pt (dw_or (dt_eq hr (de_var 4) de_int) (dw_or1 (dt_lt (de_ix (de_var 1) (de_neg de_int)) (de_len T.m_len (de_var 3)))))) (dss_one (ds_raise T.X_NoPaper (hr.mono (by decide)) (takes_of rfl rfl rfl rfl) (XWish.of hE) (da_cons de_str (da_cons (de_var 4) da_nil)))) dss_nil)
  (dss_cons (ds_if (dt_lt (de_var 4) (de_var 2)) (dss_one (ds_raise T.X_NoPaper (hr.mono (by decide)) (takes_of rfl rfl rfl rfl) (XWish.of hE) (da_cons de_str (da_cons (de_var 4) da_nil)))) dss_nil)
  (dss_one (ds_if (PW.pt (dw_and (dt_gt (de_var 4) (de_var 2)) (dw_and1 (dt_eq hr (de_ix (de_var 1) (de_neg de_int)) (de_ix (de_var 1) (de_neg de_int)))))) (dss_one (ds_raise T.X_NoPaper (hr.mono (by decide)) (takes_of rfl rfl rfl rfl) (XWish.of hE) (da_cons de_str (da_cons (de_var 4) da_nil)))) dss_nil)))))), ?_⟩)
  intro ds S PQ h
  obtain ⟨name, high, wide, width, ws, ls, rfl, h1, st, q, qx⟩ := h
  have le := steps_le st ls.length
  unfold layN
  walk_at "go"
  rw [List.length_map, List.length_map]
  have bad : ∀ {p : Prop}, (LayP high wide width ws ls → p → False) → p → ¬ LayP high wide width ws ls := fun h hp z => h z hp
  refine bIf_dec (fun k => ⟨by decide, qx (fun z => by have := z.some_; omega) _⟩) fun k0 => ?_
  rw [lay_last (by omega)]
  walk_at "go"
  have hl : ls.length = (ls.length - 1) + 1 := by omega
  have ends := lay_ends h1 hl st
  rw [show ls.length - 1 + 1 = ls.length by omega] at hl
  refine bIf_dec (fun k => ⟨by decide, qx (fun z => by have := z.full; omega) _⟩) fun k1 => bIf_dec (fun k => ⟨by decide, qx (fun z => by have := z.tall; omega) _⟩) fun k2 => bIf_dec (fun k3 => ?_) fun k3 => ?_
  · rw [lay_last2 (by omega)]
    walk_at "go"
    refine bIf_dec (fun k4 => ⟨by decide, qx (fun z => ?_) _⟩) fun k4 => q ?_ _
    · exact z.ends (ls.length - 1) (by omega) ⟨by omega, by omega⟩
    · refine ends.mp ?_
      have m := (st (ls.length - 1) (by omega)).1
      unfold isL
      rw [show ls.length - 1 + 1 = ls.length by omega] at m ⊢
      rw [decide_eq_true (by omega), decide_eq_true (by omega), decide_eq_true (show ahead ls (ls.length - 1) < ahead ls ls.length by omega), Bool.or_true]
      rfl
  · refine q (ends.mp ?_) _
    unfold isL
    rw [show ls.length - 1 + 1 = ls.length by omega]
    rw [decide_eq_true (by omega), decide_eq_true (by omega), decide_eq_true (show ((ls.length - 1 : Nat) : Int) + 1 = high by omega), Bool.true_or]
    rfl
def spAreNums : DSp := fun ds S Q _ => ∃ ns : List Int, ds = [.tup (ns.map .int)] ∧ ns.length ≤ 1000 ∧ Q (.bl true) S
theorem spAreNums_len {ds : List D} {S : Store} {Q : DQ} {E : DXQ} (h : spAreNums ds S Q E) : ds.length = 1 := by
  obtain ⟨_, rfl, _⟩ := h; rfl
theorem ok_are_numbers (T : Facts K mg) : DFn P w K mg base CX0 2 T.f_are_numbers T.fd_are_numbers ["thing"] spAreNums := by
  refine okD T.F_are_numbers sc_are_numbers (by rintro ds S Q E h; exact spAreNums_len h) (fun cdv A outer s H E B PX hr hgd => ⟨_, (dss_one (ds_ret (de_and (de_isi kTup_ok T.m_isinstance T.m_tuple PyProof.Rows.boot_tuple (de_var 0)) (de_one (de_allL T.m_all (dl_comp (own := [("number", 1)]) (g := (.nm 1)) sc_are_numbers.nd (di_val (de_var 0)) (blkOk_by (N := ["thing", "number"]) (sc := defScope s_are_numbers) (by decide +kernel)) (fun _ _ _ _ _ => (pg_name (i := 1) sc_are_numbers.nd rfl (.inl rfl))) (fun _ _ _ _ _ => dts_nil) (fun _ _ _ _ _ => (de_call (ok_is_number (P := P) (w := w) (base := base) T) hr hgd T.g_is_number T.F_is_number.kp T.b_is_number (da_cons (de_var 1) da_nil))))))))), ?_⟩)
  intro ds S PQ h
  obtain ⟨ns, rfl, hl, q⟩ := h
  walk_at "go"
  refine dComp_map (fun d => .bl (isNum d)) trivial (lin_of (by rw [List.length_map]; omega)) (fun d hd R1 r => ?_) ⟨(ns.map D.int).map isNum, map_bl, ?_⟩
  · walk_at "go"
    obtain ⟨i, _, rfl⟩ := List.mem_map.mp hd
    exact ⟨_, rfl, trivial, r⟩
  · have : ((ns.map D.int).map isNum).all id = true := by
      rw [List.map_map, List.all_map]
      exact List.all_eq_true.mpr fun _ _ => rfl
    rw [this]
    exact q
theorem layN_ints {ls : List Nat} : layN ls = .tup ((ls.map fun n : Nat => (n : Int)).map .int) := by unfold layN; rw [List.map_map]; rfl
def spLetsLayX (C : Addr) : DSp := fun ds S Q E => ∃ (name : Str) (high wide width : Int) (ws : List Str) (ls : List Nat), ds = [secD name high wide ws, layN ls, .int width] ∧ Wds ws ∧ ls.length ≤ 1000 ∧ 1 ≤ high ∧ (LayP high wide width ws ls → Q (.int (ls.length : Nat)) S) ∧ (¬ LayP high wide width ws ls → ∀ fs, E (.ref C) fs S)
theorem spLetsLayX_len {C : Addr} {ds : List D} {S : Store} {Q : DQ} {E : DXQ} (h : spLetsLayX C ds S Q E) : ds.length = 3 := by
  obtain ⟨_, _, _, _, _, _, rfl, _⟩ := h; rfl
theorem ok_lets_lay (T : Facts K mg) : DFn P w K mg base (L2.CX P w) 5 T.f_lets_lay T.fd_lets_lay ["section", "thing", "width"] (spLetsLayX T.C_NoPaper) := by
  refine okDdX T.F_lets_lay sc_lets_lay (by rintro ds S Q E h; exact spLetsLayX_len h) (fun cdv A outer s H E φ PX hr hgd hE => ⟨_, (dss_cons (ds_if (dt_not (dt_val (de_call (ok_are_numbers (P := P) (w := w) (base := base) T) (hr.mono (by decide)) hgd T.g_are_numbers T.F_are_numbers.kp T.b_are_numbers (da_cons (de_var 1) da_nil)))) (dss_one (ds_raise T.X_NoPaper (hr.mono (by decide)) (takes_of rfl rfl rfl rfl) (XWish.of hE) (da_cons de_str (da_cons (de_neg de_int) da_nil)))) dss_nil)
  (dss_cons (ds_set (i := 3) de_int sc_lets_lay.nd)
  (dss_cons (ds_for (g := (.tp [4, 5])) (passes_of rfl) (di_enum T.m_enumerate (da_cons (de_var 1) da_nil)) (pg_tup rfl (pgs_cons (pg_name (i := 4) sc_lets_lay.nd rfl (.inl rfl)) (pgs_cons (pg_name (i := 5) sc_lets_lay.nd rfl (.inl rfl)) pgs_nil))) (dss_cons (ds_expr (de_callX (es' := []) (ok_check_line (P := P) (w := w) (base := base) T) hr hgd (takes_of rfl rfl rfl rfl) (XWish.of hE) T.g_check_line T.F_check_line.kp ⟨_, .nil, T.b_check_line⟩ (fun _ _ => .nil) (da_cons (de_var 0) (da_cons (de_var 4) (da_cons (de_var 3) (da_cons (de_var 5) (da_cons (de_var 2) da_nil)))))))
  (dss_one (ds_set (i := 3) (de_var 5) sc_lets_lay.nd))))
  (dss_cons (ds_expr (de_callX (es' := []) (ok_check_end (P := P) (w := w) (base := base) T) (hr.mono (by decide)) hgd (takes_of rfl rfl rfl rfl) (XWish.of hE) T.g_check_end T.F_check_end.kp ⟨_, .nil, T.b_check_end⟩ (fun _ _ => .nil) (da_cons (de_var 0) (da_cons (de_var 1) da_nil))))
  (dss_one (ds_ret (de_len T.m_len (de_var 1)))))))), ?_⟩)
  intro ds S PQ h
  obtain ⟨name, high, wide, width, ws, ls, rfl, wk, hl, h1, q, qx⟩ := h
  walk_at "go"
  refine ⟨ls.map fun n : Nat => (n : Int), by rw [layN_ints], by rw [List.length_map]; omega, ?_⟩
  unfold layN
  walk_at "go"
  refine ⟨fun i δ S' => ∃ (x y : Option D), δ = [some (secD name high wide ws), some (layN ls), some (.int width), some (.int (ahead ls i : Nat)), x, y] ∧ S' = S ∧ ∀ j, j < i → j < ls.length → ahead ls j ≤ ahead ls (j + 1) ∧ ahead ls (j + 1) ≤ ahead ls j + fillN ((lens ws).drop (ahead ls j)) (roomI high wide width j + 1), ?_, ?_, ?_, ?_⟩
  · exact ⟨none, none, rfl, rfl, fun j h => absurd h (Nat.not_lt_zero j)⟩
  · exact fun _ _ _ _ _ => trivial
  · rintro i d δ S' hd ⟨x, y, rfl, rfl, st⟩
    obtain ⟨e, he, rfl⟩ := enumD_get.mp hd
    rw [List.getElem?_map] at he
    cases en : ls[i]? with
    | none => rw [en] at he; cases he
    | some m =>
      rw [en] at he
      have he : D.int (m : Int) = e := Option.some.inj he
      subst he
      have hi := (List.getElem?_eq_some_iff.mp en).1
      have em := ahead_in en
      walk_at "go"
      refine ⟨name, high, wide, width, ws, i, ahead ls i, m, rfl, wk, fun g1 g2 g3 d => ?_, fun g fs => qx (fun z => g ?_) fs⟩
      · walk_at "go"
        refine ⟨_, _, by rw [em], fun j hj hj2 => ?_⟩
        rcases Nat.lt_or_ge j i with k | k
        · exact st j k hj2
        · rw [show j = i by omega, em]
          exact ⟨g1, g3⟩
      · obtain ⟨s1, s2⟩ := z.steps i hi
        have s3 := steps_le z.steps (i + 1)
        rw [em] at s1 s2 s3
        exact ⟨s1, s3, s2⟩
  · rintro δ S' ⟨x, y, rfl, rfl, st⟩
    rw [enumD_length, List.length_map] at st
    walk_at "go"
    refine ⟨name, high, wide, width, ws, ls, rfl, h1, fun j hj => st j hj hj, fun lp d => ?_, fun lp fs => qx lp fs⟩
    unfold layN
    walk_at "go"
    rw [List.length_map]
    exact q lp
def spIsLayX : DSp := fun ds S Q _ => ∃ (name : Str) (high wide width : Int) (ws : List Str) (ls : List Nat), ds = [secD name high wide ws, layN ls, .int width] ∧ Wds ws ∧ ls.length ≤ 1000 ∧ 1 ≤ high ∧ (LayP high wide width ws ls → Q (.bl true) S) ∧ (¬ LayP high wide width ws ls → Q (.bl false) S)
theorem spIsLayX_len {ds : List D} {S : Store} {Q : DQ} {E : DXQ} (h : spIsLayX ds S Q E) : ds.length = 3 := by
  obtain ⟨_, _, _, _, _, _, rfl, _⟩ := h; rfl
theorem ok_is_lay (T : Facts K mg) : DFn P w K mg base CX0 6 T.f_is_lay T.fd_is_lay ["section", "thing", "width"] spIsLayX := by
  refine okD T.F_is_lay sc_is_lay (by rintro ds S Q E h; exact spIsLayX_len h) (fun cdv A outer s H E B PX hr hgd => ⟨_, (dss_cons (ds_tryOnly T.X_NoPaper (fun B' PXE W pn xe tk po hE => (dss_one (ds_expr (de_callX (es' := []) (ok_lets_lay (P := P) (w := w) (base := base) T) hr hgd tk hE T.g_lets_lay T.F_lets_lay.kp ⟨_, .nil, T.b_lets_lay⟩ (fun _ _ => .nil) (da_cons (de_var 0) (da_cons (de_var 1) (da_cons (de_var 2) da_nil))))))) (fun B' a oe pn => (dss_one (ds_ret de_bl))))
  (dss_one (ds_ret de_bl))), ?_⟩)
  intro ds S PQ h
  obtain ⟨name, high, wide, width, ws, ls, rfl, wk, hl, h1, q, qx⟩ := h
  walk_at "go"
  refine ⟨name, high, wide, width, ws, ls, rfl, wk, hl, h1, fun lp => ?_, fun lp fs => ⟨rfl, ?_⟩⟩
  · walk_at "go"
    exact q lp
  · walk_at "go"
    exact qx lp
/-! ### prices of any making -/
namespace Gr
variable (g : Gr)
def Fair (p : Nat → Nat → Int) : Prop := ∀ i, i < g.L → ∀ s ∈ g.steps i, p i s.1 - p (i + 1) s.2.1 ≤ (s.2.2 : Nat)
theorem fair_way {p : Nat → Nat → Int} (f : g.Fair p) {q : Nat → Nat} : ∀ n, n ≤ g.L → g.Way q n → p 0 (q 0) - p n (q n) ≤ (g.sum q n : Nat)
  | 0, _, _ => by show p 0 (q 0) - p 0 (q 0) ≤ ((0 : Nat) : Int); omega
  | n + 1, hn, hw => by
    have ih := fair_way f (q := q) n (by omega) fun i hi => hw i (by omega)
    obtain ⟨h0, h1, h2⟩ := hw n (by omega)
    have := f n (by omega) (q n, q (n + 1), g.cost n (q n) (q (n + 1))) (g.mem_steps.mpr ⟨h0, h1, h2, rfl⟩)
    have this : p n (q n) - p (n + 1) (q (n + 1)) ≤ ((g.cost n (q n) (q (n + 1)) : Nat) : Int) := this
    show p 0 (q 0) - p (n + 1) (q (n + 1)) ≤ ((g.sum q n + g.cost n (q n) (q (n + 1)) : Nat) : Int)
    omega
/-- no lay has fewer lines anew than fair prices are apart -/
theorem fair_least {p : Nat → Nat → Int} (f : g.Fair p) {nl : List Nat} (h : LayP g.h g.w g.width g.ws nl) (hl : nl.length ≤ g.M) : p 0 0 - p g.L g.N ≤ ((anewL g.high g.wide g.h g.w g.ls nl).length : Nat) := by
  have ML : g.M ≤ g.L := by unfold L; omega
  rw [← g.sum_anew (by omega)]
  have w : g.Way (ahead nl) g.L := by
    intro i hi
    rcases Nat.lt_or_ge i nl.length with k | k
    · obtain ⟨h1, h2⟩ := h.steps i k
      refine ⟨steps_le h.steps i, h1, ?_⟩
      unfold far fill
      rw [if_pos (by omega)]
      exact h2
    · have e : ahead nl (i + 1) = ahead nl i := by rw [ahead_out k, ahead_out (show nl.length ≤ i + 1 by omega)]
      exact ⟨steps_le h.steps i, by omega, by rw [e]; exact g.far_ge i _⟩
  have := g.fair_way f g.L (Nat.le_refl _) w
  have e : ahead nl g.L = g.N := by rw [ahead_out (by omega), h.full]; rfl
  rw [e] at this
  exact this
end Gr
def rowsD (rows : List (List Int)) : D := .tup (rows.map fun r => .tup (r.map .int))
def spRows (C : Addr) : DSp := fun ds S Q E => ∃ (rows : List (List Int)) (R N : Nat), ds = [rowsD rows, .int (R : Nat), .int (N : Nat)] ∧ R ≤ 1000 ∧ rows.length ≤ 1000 ∧ (∀ r ∈ rows, r.length ≤ 1000) ∧
  ((rows.length = R ∧ ∀ r ∈ rows, r.length = N) → ∀ d, Q d S) ∧ (¬ (rows.length = R ∧ ∀ r ∈ rows, r.length = N) → ∀ fs, E (.ref C) fs S)
theorem spRows_len {C : Addr} {ds : List D} {S : Store} {Q : DQ} {E : DXQ} (h : spRows C ds S Q E) : ds.length = 3 := by
  obtain ⟨_, _, _, rfl, _⟩ := h; rfl
theorem ok_check_rows (T : Facts K mg) : DFn P w K mg base (L2.CX P w) 3 T.f_check_rows T.fd_check_rows ["prices", "rows", "counts"] (spRows T.C_NoPaper) := by
  refine okDX T.F_check_rows sc_check_rows (by rintro ds S Q E h; exact spRows_len h) (fun cdv A outer s H E φ PX hr hgd hE => ⟨_, (dss_cons (ds_for (g := (.tp [3, 4])) (passes_of rfl) (di_enum T.m_enumerate (da_cons (de_slice (de_var 0) do_none (do_some (de_var 1))) da_nil)) (pg_tup rfl (pgs_cons (pg_name (i := 3) sc_check_rows.nd rfl (.inl rfl)) (pgs_cons (pg_name (i := 4) sc_check_rows.nd rfl (.inl rfl)) pgs_nil))) (dss_one (ds_if (PW.pt (dw_or (dt_not (dt_val (de_call (ok_are_numbers (P := P) (w := w) (base := base) T) hr hgd T.g_are_numbers T.F_are_numbers.kp T.b_are_numbers (da_cons (de_var 4) da_nil)))) (dw_or1 (dt_ne hr (de_len T.m_len (de_var 4)) (de_var 2))))) (dss_one (ds_raise T.X_NoPaper (hr.mono (by decide)) (takes_of rfl rfl rfl rfl) (XWish.of hE) (da_cons de_str (da_cons (de_var 3) da_nil)))) dss_nil)))
  (dss_one (ds_if (dt_ne hr (de_len T.m_len (de_var 0)) (de_var 1)) (dss_one (ds_raise T.X_NoPaper (hr.mono (by decide)) (takes_of rfl rfl rfl rfl) (XWish.of hE) (da_cons de_str (da_cons (de_min2 T.m_min (da_cons (de_len T.m_len (de_var 0)) (da_cons (de_var 1) da_nil))) da_nil)))) dss_nil))), ?_⟩)
  intro ds S PQ h
  obtain ⟨rows, R, N, rfl, hR, hr, hrr, q, qx⟩ := h
  unfold rowsD
  walk_at "go"
  rw [cut_to (by omega), Int.toNat_natCast]
  have all : (rows.length = R ∧ ∀ r ∈ rows, r.length = N) ↔ rows.length = R ∧ ∀ (j : Nat) (r : List Int), (rows.take R)[j]? = some r → r.length = N := by
    constructor
    · rintro ⟨h1, h2⟩
      exact ⟨h1, fun j r h => h2 r (List.mem_of_mem_take (List.mem_of_getElem? h))⟩
    · rintro ⟨h1, h2⟩
      refine ⟨h1, fun r hr => ?_⟩
      rw [← h1, List.take_length] at h2
      obtain ⟨j, hj⟩ := List.getElem?_of_mem hr
      exact h2 j r hj
  refine ⟨fun i δ S' => ∃ (x y : Option D), δ = [some (.tup (rows.map fun r => .tup (r.map .int))), some (.int (R : Nat)), some (.int (N : Nat)), x, y] ∧ S' = S ∧ ∀ (j : Nat) (r : List Int), j < i → (rows.take R)[j]? = some r → r.length = N, ?_, ?_, ?_, ?_⟩
  · exact ⟨_, _, rfl, rfl, fun j r h => absurd h (Nat.not_lt_zero j)⟩
  · exact fun _ _ _ _ _ => trivial
  · rintro i d δ S' hd ⟨x, y, rfl, rfl, ok⟩
    obtain ⟨e, he, rfl⟩ := enumD_get.mp hd
    rw [← List.map_take, List.getElem?_map] at he
    obtain ⟨r, er, rfl⟩ := Option.map_eq_some_iff.mp he
    have hrl := hrr r (List.mem_of_mem_take (List.mem_of_getElem? er))
    walk_at "go"
    refine ⟨r, rfl, hrl, ?_⟩
    walk_at "go"
    rw [List.length_map]
    refine bIf_dec (fun h => ⟨_, _, rfl, fun j r' hj hr' => ?_⟩) fun h => ⟨by decide, qx (fun z => ?_) _⟩
    · rcases Nat.lt_or_ge j i with k | k
      · exact ok j r' k hr'
      · obtain rfl : j = i := by omega
        rw [er] at hr'
        cases hr'
        omega
    · have := (all.mp z).2 i r er
      omega
  · rintro δ S' ⟨x, y, rfl, rfl, ok⟩
    rw [enumD_length, ← List.map_take, List.length_map] at ok
    have ok : ∀ (j : Nat) (r : List Int), (rows.take R)[j]? = some r → r.length = N := fun j r h => ok j r (List.getElem?_eq_some_iff.mp h).1 h
    walk_at "go"
    rw [List.length_map]
    refine bIf_dec (fun h => q (all.mpr ⟨by omega, ok⟩) _) fun h => ?_
    exact ⟨by decide, qx (fun z => h (by have := z.1; omega)) _⟩
def spPrices (C : Addr) : DSp := fun ds S Q E => ∃ (rows : List (List Int)) (i N n : Nat) (ss : List Step), ds = [rowsD rows, .int (i : Nat), .ref n] ∧ S[n]? = some (.lst (ss.map stD)) ∧ i + 1 < rows.length ∧ rows.length ≤ 1000 ∧ (∀ r ∈ rows, r.length = N + 1) ∧ (∀ s ∈ ss, s.1 ≤ N ∧ s.2.1 ≤ N) ∧
  ((∀ s ∈ ss, (rows.getD i []).getD s.1 0 - (rows.getD (i + 1) []).getD s.2.1 0 ≤ (s.2.2 : Nat)) → ∀ d, Q d S) ∧ (¬ (∀ s ∈ ss, (rows.getD i []).getD s.1 0 - (rows.getD (i + 1) []).getD s.2.1 0 ≤ (s.2.2 : Nat)) → ∀ fs, E (.ref C) fs S)
theorem spPrices_len {C : Addr} {ds : List D} {S : Store} {Q : DQ} {E : DXQ} (h : spPrices C ds S Q E) : ds.length = 3 := by
  obtain ⟨_, _, _, _, _, rfl, _⟩ := h; rfl
theorem ok_check_prices (T : Facts K mg) : DFn P w K mg base (L2.CX P w) 3 T.f_check_prices T.fd_check_prices ["prices", "i", "steps"] (spPrices T.C_NoPaper) := by
  refine okDX T.F_check_prices sc_check_prices (by rintro ds S Q E h; exact spPrices_len h) (fun cdv A outer s H E φ PX hr hgd hE => ⟨_, (dss_one (ds_for (g := (.tp [3, 4, 5])) (passes_of rfl) (di_val (de_var 2)) (pg_tup rfl (pgs_cons (pg_name (i := 3) sc_check_prices.nd rfl (.inl rfl)) (pgs_cons (pg_name (i := 4) sc_check_prices.nd rfl (.inl rfl)) (pgs_cons (pg_name (i := 5) sc_check_prices.nd rfl (.inl rfl)) pgs_nil)))) (dss_one (ds_if (dt_gt (de_sub (de_ix (de_ix (de_var 0) (de_var 1)) (de_var 3)) (de_ix (de_ix (de_var 0) (de_add (de_var 1) de_int)) (de_var 4))) (de_var 5)) (dss_one (ds_raise T.X_NoPaper (hr.mono (by decide)) (takes_of rfl rfl rfl rfl) (XWish.of hE) (da_cons de_str (da_cons (de_var 1) da_nil)))) dss_nil)))), ?_⟩)
  intro ds S PQ h
  obtain ⟨rows, i, N, n, ss, rfl, hn, hi, hr, hrr, hs, q, qx⟩ := h
  unfold rowsD
  walk_at "go"
  rw [dLst_of hn]
  have rowAt : ∀ j, j < rows.length → ∃ r, rows.getD j [] = r ∧ r.length = N + 1 ∧ atI (rows.map fun r => D.tup (r.map .int)) (j : Int) = some (.tup (r.map .int)) := fun j hj => by
    have e := List.getElem?_eq_getElem hj
    exact ⟨rows[j], by rw [List.getD_eq_getElem?_getD, e]; rfl, hrr _ (List.getElem_mem hj), atI_nat (by rw [List.getElem?_map, e]; rfl)⟩
  have at_ : ∀ (r : List Int) (c : Nat), c < r.length → atI (r.map D.int) (c : Int) = some (.int (r.getD c 0)) := fun r c hc => atI_nat (by
    have e := List.getElem?_eq_getElem hc
    rw [List.getElem?_map, List.getD_eq_getElem?_getD, e]
    rfl)
  obtain ⟨r1, g1, l1, a1⟩ := rowAt i (by omega)
  obtain ⟨r2, g2, l2, a2⟩ := rowAt (i + 1) hi
  rw [g1, g2] at q qx
  rw [show ((i + 1 : Nat) : Int) = (i : Int) + 1 by omega] at a2
  refine ⟨fun k δ S' => ∃ (x y z : Option D), δ = [some (.tup (rows.map fun r => .tup (r.map .int))), some (.int (i : Nat)), some (.ref n), x, y, z] ∧ S' = S ∧ ∀ s ∈ ss.take k, r1.getD s.1 0 - r2.getD s.2.1 0 ≤ (s.2.2 : Nat), ?_, ?_, ?_, ?_⟩
  · exact ⟨_, _, _, rfl, rfl, fun s h => by rw [List.take_zero] at h; cases h⟩
  · rintro k δ S' _ ⟨x, y, z, rfl, rfl, _⟩
    exact hn
  · rintro k d δ S' hd ⟨x, y, z, rfl, rfl, ok⟩
    rw [List.getElem?_map] at hd
    obtain ⟨s, es, rfl⟩ := Option.map_eq_some_iff.mp hd
    have hm := List.mem_of_getElem? es
    obtain ⟨b1, b2⟩ := hs s hm
    unfold stD
    walk_at "go"
    rw [a1, a2]
    walk_at "go"
    rw [at_ r1 s.1 (by omega), at_ r2 s.2.1 (by omega)]
    walk_at "go"
    have ek : ss.take (k + 1) = ss.take k ++ [s] := by rw [List.take_add_one, es, Option.toList_some]
    refine bIf_dec (fun h => ⟨by decide, qx (fun z => ?_) _⟩) fun h => ⟨_, _, _, rfl, fun s' hs' => ?_⟩
    · have := z s hm
      omega
    · rw [ek] at hs'
      rcases List.mem_append.mp hs' with hs' | hs'
      · exact ok s' hs'
      · rw [List.mem_singleton.mp hs']
        omega
  · rintro δ S' ⟨x, y, z, rfl, rfl, ok⟩
    rw [List.length_map, List.take_length] at ok
    walk_at "go"
    exact q ok _
/-! ### odd papers -/
def oddP : D := .tup [.int 0, layN [], .tup []]
def spShapeO : DSp := fun ds S Q _ => (ds = [.non] ∧ Q (.bl false) S) ∨ (ds = [oddP] ∧ Q (.bl true) S)
theorem spShapeO_len {ds : List D} {S : Store} {Q : DQ} {E : DXQ} (h : spShapeO ds S Q E) : ds.length = 1 := by
  rcases h with ⟨rfl, _⟩ | ⟨rfl, _⟩ <;> rfl
theorem ok_is_anew_shape (T : Facts K mg) : DFn P w K mg base CX0 3 T.f_is_anew_shape T.fd_is_anew_shape ["thing"] spShapeO := by
  refine okD T.F_is_anew_shape sc_is_anew_shape (by rintro ds S Q E h; exact spShapeO_len h) (fun cdv A outer s H E B PX hr hgd => ⟨_, (dss_cons (ds_if (PW.pt (dw_or (dt_not (dt_val (de_isi kTup_ok T.m_isinstance T.m_tuple PyProof.Rows.boot_tuple (de_var 0)))) (dw_or1 (dt_ne hr (de_len T.m_len (de_var 0)) de_int)))) (dss_one (ds_ret de_bl)) dss_nil)
  (dss_cons (ds_asg (g := (.tp [1, 2, 3])) (de_var 0) (pg_tup rfl (pgs_cons (pg_name (i := 1) sc_is_anew_shape.nd rfl (.inl rfl)) (pgs_cons (pg_name (i := 2) sc_is_anew_shape.nd rfl (.inl rfl)) (pgs_cons (pg_name (i := 3) sc_is_anew_shape.nd rfl (.inl rfl)) pgs_nil)))))
  (dss_one (ds_ret (de_and (de_call (ok_is_number (P := P) (w := w) (base := base) T) (hr.mono (by decide)) hgd T.g_is_number T.F_is_number.kp T.b_is_number (da_cons (de_var 1) da_nil)) (de_and (de_call (ok_are_numbers (P := P) (w := w) (base := base) T) hr hgd T.g_are_numbers T.F_are_numbers.kp T.b_are_numbers (da_cons (de_var 2) da_nil)) (de_one (de_isi kTup_ok T.m_isinstance T.m_tuple PyProof.Rows.boot_tuple (de_var 3))))))))), ?_⟩)
  intro ds S PQ h
  rcases h with ⟨rfl, q⟩ | ⟨rfl, q⟩
  · walk_at "go"
    exact q
  · unfold oddP
    walk_at "go"
    refine bIf_dec (fun _ => ?_) fun h => absurd rfl h
    refine ⟨.int 0, rfl, trivial, ?_⟩
    walk_at "go"
    refine bIf_both (fun _ => ?_) fun h => nomatch h
    refine ⟨[], rfl, Nat.zero_le _, ?_⟩
    walk_at "go"
    exact q
def spLetsO (C C2 : Addr) : DSp := fun ds S _ E => ∃ (name : Str) (high wide h w width : Int) (ws : List Str) (ls : List Nat) (most : Option Nat) (d : D),
  ds = [secD name high wide ws, layN ls, .int h, .int w, d, .int width, mostD most] ∧ (d = .non ∨ d = oddP) ∧ AskL high wide h w width ws ls most ∧
  ((∀ x ∈ ws, (x.length : Int) ≤ width) → ∀ n T, First h w width ws n → n ≤ h.toNat + ws.length → (n ≤ mostN most n ls → ∀ fs, E (.ref C) fs (S ++ T)) ∧ (mostN most n ls < n → E (.ref C2) [("word", .str "most")] (S ++ T))) ∧ ∀ j : Nat, Long ws width j → E (.ref C2) [("word", .int j)] S
theorem spLetsO_len {C C2 : Addr} {ds : List D} {S : Store} {Q : DQ} {E : DXQ} (h : spLetsO C C2 ds S Q E) : ds.length = 7 := by
  obtain ⟨_, _, _, _, _, _, _, _, _, _, rfl, _⟩ := h; rfl
theorem ok_lets_anew (T : Facts K mg) : DFn P w K mg base (L2.CX P w) 7 T.f_lets_anew T.fd_lets_anew ["section", "lay", "high", "wide", "thing", "width", "most"] (spLetsO T.C_NoPaper T.C_NoLay) := by
  refine okDdX T.F_lets_anew sc_lets_anew (by rintro ds S Q E h; exact spLetsO_len h) (fun cdv A outer s H E φ PX hr hgd hE => ⟨_, (dss_cons (ds_set (i := 7) (de_call (ok_resized (P := P) (w := w) (base := base) T) (hr.mono (by decide)) hgd T.g_resized T.F_resized.kp T.b_resized (da_cons (de_var 0) (da_cons (de_var 2) (da_cons (de_var 3) da_nil)))) sc_lets_anew.nd)
  (dss_cons (ds_set (i := 6) (de_callX (es' := []) (ok_most_lines (P := P) (w := w) (base := base) T) (hr.mono (by decide)) hgd (takes_of rfl rfl rfl rfl) (XWish.of hE) T.g_most_lines T.F_most_lines.kp ⟨_, .nil, T.b_most_lines⟩ (fun _ _ => .nil) (da_cons (de_var 7) (da_cons (de_var 1) (da_cons (de_var 5) (da_cons (de_var 6) da_nil))))) sc_lets_anew.nd)
  (dss_cons (ds_if (dt_not (dt_val (de_call (ok_is_anew_shape (P := P) (w := w) (base := base) T) (hr.mono (by decide)) hgd T.g_is_anew_shape T.F_is_anew_shape.kp T.b_is_anew_shape (da_cons (de_var 4) da_nil)))) (dss_one (ds_raise T.X_NoPaper (hr.mono (by decide)) (takes_of rfl rfl rfl rfl) (XWish.of hE) (da_cons de_str (da_cons (de_neg de_int) da_nil)))) dss_nil)
  (dss_cons (ds_asg (g := (.tp [8, 9, 10])) (de_var 4) (pg_tup rfl (pgs_cons (pg_name (i := 8) sc_lets_anew.nd rfl (.inl rfl)) (pgs_cons (pg_name (i := 9) sc_lets_anew.nd rfl (.inl rfl)) (pgs_cons (pg_name (i := 10) sc_lets_anew.nd rfl (.inl rfl)) pgs_nil)))))
  (dss_cons (ds_if (PW.pt (dw_or (dt_not (dt_val (de_call (ok_is_lay (P := P) (w := w) (base := base) T) hr hgd T.g_is_lay T.F_is_lay.kp T.b_is_lay (da_cons (de_var 7) (da_cons (de_var 9) (da_cons (de_var 5) da_nil)))))) (dw_or1 (dt_gt (de_len T.m_len (de_var 9)) (de_var 6))))) (dss_one (ds_raise T.X_NoPaper (hr.mono (by decide)) (takes_of rfl rfl rfl rfl) (XWish.of hE) (da_cons de_str (da_cons (de_neg de_int) da_nil)))) dss_nil)
  (dss_cons (ds_expr (de_callX (es' := []) (ok_check_rows (P := P) (w := w) (base := base) T) (hr.mono (by decide)) hgd (takes_of rfl rfl rfl rfl) (XWish.of hE) T.g_check_rows T.F_check_rows.kp ⟨_, .nil, T.b_check_rows⟩ (fun _ _ => .nil) (da_cons (de_var 10) (da_cons (de_add (de_max2 T.m_max (da_cons (de_var 6) (da_cons (de_len T.m_len (de_var 1)) da_nil))) de_int) (da_cons (de_add (de_len T.m_len (de_ix (de_var 0) de_int)) de_int) da_nil)))))
  (dss_cons (ds_for (g := (.nm 11)) (passes_of rfl) (di_range1 T.m_range (da_cons (de_sub (de_len T.m_len (de_var 10)) de_int) da_nil)) (pg_name (i := 11) sc_lets_anew.nd rfl (.inl rfl)) (dss_one (ds_expr (de_callX (es' := []) (ok_check_prices (P := P) (w := w) (base := base) T) (hr.mono (by decide)) hgd (takes_of rfl rfl rfl rfl) (XWish.of hE) T.g_check_prices T.F_check_prices.kp ⟨_, .nil, T.b_check_prices⟩ (fun _ _ => .nil) (da_cons (de_var 10) (da_cons (de_var 11) (da_cons (de_call (ok_priced_steps (P := P) (w := w) (base := base) T) (hr.mono (by decide)) hgd T.g_priced_steps T.F_priced_steps.kp T.b_priced_steps (da_cons (de_var 0) (da_cons (de_var 1) (da_cons (de_var 7) (da_cons (de_var 11) (da_cons (de_var 5) (da_cons (de_var 6) da_nil))))))) da_nil)))))))
  (dss_cons (ds_if (dt_ne hr (de_var 8) (de_len T.m_len (de_call (ok_anew_lines (P := P) (w := w) (base := base) T) (hr.mono (by decide)) hgd T.g_anew_lines T.F_anew_lines.kp T.b_anew_lines (da_cons (de_var 0) (da_cons (de_var 1) (da_cons (de_var 2) (da_cons (de_var 3) (da_cons (de_var 9) da_nil)))))))) (dss_one (ds_raise T.X_NoPaper (hr.mono (by decide)) (takes_of rfl rfl rfl rfl) (XWish.of hE) (da_cons de_str (da_cons (de_neg de_int) da_nil)))) dss_nil)
  (dss_cons (ds_if (dt_ne hr (de_var 8) (de_sub (de_ix (de_ix (de_var 10) de_int) de_int) (de_ix (de_ix (de_var 10) (de_neg de_int)) (de_neg de_int)))) (dss_one (ds_raise T.X_NoPaper (hr.mono (by decide)) (takes_of rfl rfl rfl rfl) (XWish.of hE) (da_cons de_str (da_cons (de_neg de_int) da_nil)))) dss_nil)
  (dss_one (ds_ret (de_var 8)))))))))))), ?_⟩)
  intro ds S PQ h
  obtain ⟨name, high, wide, h, w, width, ws, ls, most, d, rfl, hd, al, q, qj⟩ := h
  have a40 := al.few
  have a1 := al.h1
  have a9 := al.h9
  walk_at "go"
  refine ⟨name, high, wide, h, w, ws, rfl, ?_⟩
  walk_at "go"
  refine ⟨name, h, w, width, ws, ls, most, rfl, al.wk, al.w0, by omega, by omega, fun hw n T0 fst hn => ⟨fun m1 => ?_, fun m1 => (q hw n T0 fst hn).2 m1⟩, fun j hj => qj j hj⟩
  have q := fun T => (q hw n T fst hn).1 m1
  rcases hd with rfl | rfl
  · walk_at "go"
    refine .inl ⟨rfl, ?_⟩
    walk_at "go"
    exact ⟨by decide, q _ _⟩
  · walk_at "go"
    refine .inr ⟨rfl, ?_⟩
    unfold oddP
    walk_at "go"
    refine ⟨name, h, w, width, ws, [], rfl, al.wk, Nat.zero_le _, a1, fun lp => absurd lp.some_ (by decide), fun _ => ?_⟩
    walk_at "go"
    exact ⟨by decide, q _ _⟩
/-! ### what is due -/
def spTold61 : DSp := fun ds S Q _ => ∃ (name : Str) (high wide h w width : Int) (ws : List Str) (ls : List Nat) (most : Option Nat), ds = [secD name high wide ws, layN ls, .tup [.int h, .int w], .int width, mostD most] ∧ AskL high wide h w width ws ls most ∧
  ((∀ x ∈ ws, (x.length : Int) ≤ width) → ∀ n T, First h w width ws n → n ≤ h.toNat + ws.length → (n ≤ mostN most n ls → Q (.tup [.str (Str.ofString "told")]) (S ++ T)) ∧ (mostN most n ls < n → Q (.tup [.str (Str.ofString "lay"), .str (Str.ofString "most")]) (S ++ T))) ∧ ∀ j : Nat, Long ws width j → Q (.tup [.str (Str.ofString "lay"), .int j]) S
theorem spTold61_len {ds : List D} {S : Store} {Q : DQ} {E : DXQ} (h : spTold61 ds S Q E) : ds.length = 5 := by
  obtain ⟨_, _, _, _, _, _, _, _, _, rfl, _⟩ := h; rfl
theorem ok_law_told (T : Facts K mg) : DFn P w K mg base CX0 7 T.f_law_told T.fd_law_told ["_law_section", "_law_lay_here", "_law_size_here", "_law_width", "_law_most"] spTold61 := by
  refine okD T.F_law_told sc_law_told (by rintro ds S Q E h; exact spTold61_len h) (fun cdv A outer s H E B PX hr hgd => ⟨_, (dss_cons (ds_tryE2 T.gC_LeftError T.x_LeftError T.x_NoPaper_LeftError (show List.Nodup (["_law_section", "_law_lay_here", "_law_size_here", "_law_width", "_law_most", "_law_e"] : List Str) by decide +kernel) (i := 5) rfl rfl (fun B' PXE W pn xe tk po hE => (dss_one (ds_expr (de_callX (es' := []) (ok_fewest_anew (P := P) (w := w) (base := base) T) hr hgd tk hE T.g_fewest_anew T.F_fewest_anew.kp ⟨_, .nil, T.b_fewest_anew⟩ (fun _ _ => .nil) (da_cons (de_var 0) (da_cons (de_var 1) (da_cons (de_ix (de_var 2) de_int) (da_cons (de_ix (de_var 2) de_int) (da_cons (de_var 3) (da_cons (de_var 4) da_nil)))))))))) (fun a oe dd vs fs pn B' hE hrf => (dss_one (ds_ret (de_callE (a' := a) (oe := oe) (ok_law_word (P := P) (w := w) (base := base) T) (RoomH.mono (roomH_suite hr) (by decide)) List.mem_cons_self hE hrf T.g_law_word T.F_law_word.kp T.b_law_word (da_cons (de_var 5) da_nil))))) (fun a oe dd vs fs pn B' hE hrf => (dss_one (ds_ret (de_callE (a' := a) (oe := oe) (ok_law_word_NoPaper (P := P) (w := w) (base := base) T) (RoomH.mono (roomH_suite hr) (by decide)) List.mem_cons_self hE hrf T.g_law_word T.F_law_word.kp T.b_law_word (da_cons (de_var 5) da_nil))))))
  (dss_one (ds_ret (de_tup (da_cons de_str da_nil))))), ?_⟩)
  intro ds S PQ h
  obtain ⟨name, high, wide, h, w, width, ws, ls, most, rfl, al, q, qj⟩ := h
  have h00 : atI [D.int h, .int w] 0 = some (.int h) := Eq.trans rfl rfl
  have h01 : atI [D.int h, .int w] 1 = some (.int w) := Eq.trans rfl rfl
  walk_at "go"
  rw [h00, h01]
  walk_at "go"
  refine ⟨name, high, wide, h, w, width, ws, ls, most, rfl, al, fun ask => ⟨fun n nl T f1 f2 f3 _ _ _ => ?_, fun n T f1 f2 f3 => ⟨by decide, .inl ⟨rfl, fun a dd vs => ⟨_, rfl, rfl, ?_⟩⟩⟩⟩, fun j hj => ⟨by decide, .inl ⟨rfl, fun a dd vs => ⟨_, rfl, rfl, ?_⟩⟩⟩⟩
  · exact ⟨lin_of (by decide), (q ask.fits n T f1 f2).1 f3⟩
  · exact (q ask.fits n T f1 f2).2 f3
  · exact qj j hj
def spLB : DSp := fun ds S Q _ => ∃ (name : Str) (high wide width : Int) (ws : List Str), ds = [secD name high wide ws, .int width] ∧ Wds ws ∧ ws.length ≤ 40 ∧ 0 ≤ width ∧ 1 ≤ high ∧ high ≤ 1000 ∧ (∀ x ∈ ws, (x.length : Int) ≤ width) ∧
  ∀ n T, First high wide width ws n → n ≤ high.toNat + ws.length → Q (.tup (layD high wide width ws n)) (S ++ T)
theorem spLB_len {ds : List D} {S : Store} {Q : DQ} {E : DXQ} (h : spLB ds S Q E) : ds.length = 2 := by
  obtain ⟨_, _, _, _, _, rfl, _⟩ := h; rfl
theorem ok_law_bent (T : Facts K mg) : DFn P w K mg base CX0 2 T.f_law_bent T.fd_law_bent ["_law_section", "_law_width"] spLB := by
  refine okD T.F_law_bent sc_law_bent (by rintro ds S Q E h; exact spLB_len h) (fun cdv A outer s H E B PX hr hgd => ⟨_, (dss_cons (ds_par (i := 2) (j := 3) sc_law_bent.nd (da_cons (de_keep (dl_lst da_nil)) (da_cons de_int da_nil)))
  (dss_cons (ds_while PassesOwn.never (PW.pt (dw_or (dt_lt (de_var 3) (de_len T.m_len (de_ix (de_var 0) de_int))) (dw_or1 (dt_lt (de_len T.m_len (de_var 2)) (de_ix (de_var 0) de_int))))) (dss_cons (ds_set (i := 3) (de_call (ok_law_end (P := P) (w := w) (base := base) T) hr hgd T.g_law_end T.F_law_end.kp T.b_law_end (da_cons (de_ix (de_var 0) de_int) (da_cons (de_var 3) (da_cons (de_call (ok_law_space (P := P) (w := w) (base := base) T) hr hgd T.g_law_space T.F_law_space.kp T.b_law_space (da_cons (de_var 0) (da_cons (de_len T.m_len (de_var 2)) (da_cons (de_var 1) da_nil)))) da_nil)))) sc_law_bent.nd)
  (dss_one (ds_expr (de_append (de_var 2) (de_var 3))))))
  (dss_one (ds_ret (de_tuple T.m_tuple (de_var 2)))))), ?_⟩)
  intro ds S PQ h
  obtain ⟨name, high, wide, width, ws, rfl, wk, h40, hw0, hh0, hh1, hw, q⟩ := h
  walk_at "go"
  refine ⟨lin_of (by omega), fun m δ S' => ∃ (n : Nat), δ = [some (secD name high wide ws), some (.int width), some (.ref S.length), some (.int (laid high wide width ws n : Nat))] ∧ S' = S ++ [Cell.lst (layD high wide width ws n)] ∧
    m = (high - n).toNat + (ws.length - laid high wide width ws n) ∧ n ≤ high.toNat + laid high wide width ws n ∧ ∀ j < n, ¬ Ends high wide width ws j, ⟨_, 0, rfl, rfl, rfl, by omega, fun j h => by omega⟩, ?_⟩
  rintro m δ S' ⟨n, rfl, rfl, rfl, hn, no⟩
  have le1 := laid_le (high := high) (wide := wide) (width := width) (ws := ws) n
  have le2 := laid_le (high := high) (wide := wide) (width := width) (ws := ws) (n + 1)
  have up : laid high wide width ws n ≤ laid high wide width ws (n + 1) := Nat.le_add_right _ _
  refine test_use (fun b S1 => S1 = S ++ [Cell.lst (layD high wide width ws n)] ∧ (b = true → ¬ Ends high wide width ws n) ∧ (b = false → Ends high wide width ws n)) (fun R hR => ?_) ?_
  · walk_at "go"
    rw [List.length_map, layD_length]
    refine bIf_dec (fun h => hR _ _ ⟨rfl, fun _ z => by have := z.2; omega, fun z => nomatch z⟩) fun h => ?_
    exact hR _ _ ⟨rfl, fun z y => by have := of_decide_eq_true z; have := y.1; omega, fun z => ⟨by have := of_decide_eq_false z; omega, by omega⟩⟩
  rintro b S1 ⟨rfl, ht, hf⟩
  refine bIf_both (fun hb => ?_) fun hb => ?_
  · have ne := ht hb
    have hmore : high ≤ n → laid high wide width ws n < laid high wide width ws (n + 1) := fun h => by
      have hl : laid high wide width ws n < ws.length := by
        rcases Nat.lt_or_ge (laid high wide width ws n) ws.length with k | k
        · exact k
        · exact absurd ⟨h, k⟩ ne
      exact laid_more hw h hl hw0
    walk_at "go"
    rw [layD_length]
    refine ⟨name, high, wide, ws, n, width, rfl, ?_⟩
    refine ⟨ws, laid high wide width ws n, _, rfl, wk, le1, ?_⟩
    have el : laid high wide width ws n + fillN ((lens ws).drop (laid high wide width ws n)) (roomI high wide width n + 1) = laid high wide width ws (n + 1) := rfl
    rw [el]
    walk_at "go"
    rw [layD_length]
    refine ⟨lin_of (by omega), _, ?_, n + 1, rfl, by rw [layD_succ], rfl, ?_, ?_⟩
    · by_cases h : high ≤ n
      · have := hmore h; omega
      · omega
    · by_cases h : high ≤ n
      · have := hmore h; omega
      · omega
    · intro j hj
      rcases Nat.lt_or_ge j n with k | k
      · exact no j k
      · rw [show j = n by omega]; exact ne
  · walk_at "go"
    exact q n _ ⟨hf hb, no⟩ (by omega)
def spLooked61 : DSp := fun ds S Q _ => ∃ (name : Str) (high wide h w width : Int) (ws : List Str) (ls : List Nat) (most : Option Nat) (d : D), ds = [secD name high wide ws, layN ls, .tup [.int h, .int w], d, .int width, mostD most] ∧ (d = .non ∨ d = oddP) ∧ AskL high wide h w width ws ls most ∧
  ((∀ x ∈ ws, (x.length : Int) ≤ width) → ∀ n T, First h w width ws n → n ≤ h.toNat + ws.length → (n ≤ mostN most n ls → Q (.tup [.str (Str.ofString "paper")]) (S ++ T)) ∧ (mostN most n ls < n → Q (.tup [.str (Str.ofString "lay"), .str (Str.ofString "most")]) (S ++ T))) ∧ ∀ j : Nat, Long ws width j → Q (.tup [.str (Str.ofString "lay"), .int j]) S
theorem spLooked61_len {ds : List D} {S : Store} {Q : DQ} {E : DXQ} (h : spLooked61 ds S Q E) : ds.length = 6 := by
  obtain ⟨_, _, _, _, _, _, _, _, _, _, rfl, _⟩ := h; rfl
theorem ok_law_looked (T : Facts K mg) : DFn P w K mg base CX0 8 T.f_law_looked T.fd_law_looked ["_law_section", "_law_lay_here", "_law_size_here", "_law_thing", "_law_width", "_law_most"] spLooked61 := by
  refine okD T.F_law_looked sc_law_looked (by rintro ds S Q E h; exact spLooked61_len h) (fun cdv A outer s H E B PX hr hgd => ⟨_, (dss_cons (ds_tryE2 T.gC_LeftError T.x_LeftError T.x_NoPaper_LeftError (show List.Nodup (["_law_section", "_law_lay_here", "_law_size_here", "_law_thing", "_law_width", "_law_most", "_law_e"] : List Str) by decide +kernel) (i := 6) rfl rfl (fun B' PXE W pn xe tk po hE => (dss_one (ds_expr (de_callX (es' := []) (ok_lets_anew (P := P) (w := w) (base := base) T) hr hgd tk hE T.g_lets_anew T.F_lets_anew.kp ⟨_, .nil, T.b_lets_anew⟩ (fun _ _ => .nil) (da_cons (de_var 0) (da_cons (de_var 1) (da_cons (de_ix (de_var 2) de_int) (da_cons (de_ix (de_var 2) de_int) (da_cons (de_var 3) (da_cons (de_var 4) (da_cons (de_var 5) da_nil))))))))))) (fun a oe dd vs fs pn B' hE hrf => (dss_one (ds_ret (de_callE (a' := a) (oe := oe) (ok_law_word (P := P) (w := w) (base := base) T) (RoomH.mono (roomH_suite hr) (by decide)) List.mem_cons_self hE hrf T.g_law_word T.F_law_word.kp T.b_law_word (da_cons (de_var 6) da_nil))))) (fun a oe dd vs fs pn B' hE hrf => (dss_one (ds_ret (de_callE (a' := a) (oe := oe) (ok_law_word_NoPaper (P := P) (w := w) (base := base) T) (RoomH.mono (roomH_suite hr) (by decide)) List.mem_cons_self hE hrf T.g_law_word T.F_law_word.kp T.b_law_word (da_cons (de_var 6) da_nil))))))
  (dss_one (ds_ret (de_tup (da_cons de_str da_nil))))), ?_⟩)
  intro ds S PQ h
  obtain ⟨name, high, wide, h, w, width, ws, ls, most, d, rfl, hd, al, q, qj⟩ := h
  have h00 : atI [D.int h, .int w] 0 = some (.int h) := Eq.trans rfl rfl
  have h01 : atI [D.int h, .int w] 1 = some (.int w) := Eq.trans rfl rfl
  walk_at "go"
  rw [h00, h01]
  walk_at "go"
  refine ⟨name, high, wide, h, w, width, ws, ls, most, d, rfl, hd, al, fun hw n T f1 f2 => ⟨fun f3 fs => ⟨by decide, .inr ⟨rfl, fun a dd vs => ⟨rfl, ?_⟩⟩⟩, fun f3 => ⟨by decide, .inl ⟨rfl, fun a dd vs => ⟨_, rfl, rfl, ?_⟩⟩⟩⟩, fun j hj => ⟨by decide, .inl ⟨rfl, fun a dd vs => ⟨_, rfl, rfl, ?_⟩⟩⟩⟩
  · exact (q hw n T f1 f2).1 f3
  · exact (q hw n T f1 f2).2 f3
  · exact qj j hj
/-! ### what is due, and the law -/
inductive Due | told | most | word (j : Nat)
def dueD : Due → D
  | .told => .tup [.str (Str.ofString "told")]
  | .most => .tup [.str (Str.ofString "lay"), .str (Str.ofString "most")]
  | .word j => .tup [.str (Str.ofString "lay"), .int (j : Nat)]
def dueP : Due → PyData
  | .told => .tuple [.str (Str.ofString "told")]
  | .most => .tuple [.str (Str.ofString "lay"), .str (Str.ofString "most")]
  | .word j => .tuple [.str (Str.ofString "lay"), .int (j : Nat)]
def papD : D := .tup [.str (Str.ofString "paper")]
theorem small4 (s : String) (h : (Str.ofString s).length ≤ 8) {S : Store} : Sh S (.str (Str.ofString s)) (.str (Str.ofString s)) 8 0 := Sh.str (cp_text s) h
theorem due_sh {S : Store} : ∀ {u : Due}, (∀ j, u = .word j → j ≤ 1000) → Sh S (dueD u) (dueP u) 300 1
  | .told, _ => (ShA.tup (.cons (small4 "told" (by decide +kernel)) .nil)).mono (by decide) (Nat.le_refl _)
  | .most, _ => (ShA.tup (.cons (small4 "lay" (by decide +kernel)) (.cons (small4 "most" (by decide +kernel)) .nil))).mono (by decide) (Nat.le_refl _)
  | .word j, h => (ShA.tup (.cons (small4 "lay" (by decide +kernel)) (.cons (Sh.int (k := 0) (small_ok (h j rfl))) .nil))).mono (by decide) (Nat.le_refl _)
theorem pap_sh {S : Store} : Sh S papD (.tuple [.str (Str.ofString "paper")]) 300 1 := (ShA.tup (.cons (small4 "paper" (by decide +kernel)) .nil)).mono (by decide) (Nat.le_refl _)
def isTold : Due → Bool
  | .told => true
  | _ => false
theorem due_told {S : Store} {Q : DQ} {u : Due} (h : ∀ j, u = .word j → j ≤ 1000) (q : Q (.bl (isTold u)) S) : dEq false (dueD u) (.tup [.str (Str.ofString "told")]) S Q := by
  refine dEqP_of ⟨dueP u, dueP .told, (due_sh h).1, (due_sh (u := .told) fun j z => nomatch z).1, (due_sh (S := S) h).2.shaped (by decide), (due_sh (S := S) (u := .told) fun j z => nomatch z).2.shaped (by decide), ?_⟩
  have ne : ((Str.ofString "lay") == (Str.ofString "told")) = false := by decide +kernel
  cases u with
  | told => simpa [dueP, isTold, PyData.eqv, PyData.eqvAll] using q
  | most => simpa [dueP, isTold, PyData.eqv, PyData.eqvAll, ne] using q
  | word j => simpa [dueP, isTold, PyData.eqv, PyData.eqvAll, ne] using q
/-- what the program's fewest and its checker are asked -/
def DueOk (h w width : Int) (ws : List Str) (ls : List Nat) (mo : Option Nat) : Due → Prop
  | .told => (∀ x ∈ ws, (x.length : Int) ≤ width) ∧ ∃ n, First h w width ws n ∧ n ≤ h.toNat + ws.length ∧ n ≤ mostN mo n ls
  | .most => (∀ x ∈ ws, (x.length : Int) ≤ width) ∧ ∃ n, First h w width ws n ∧ n ≤ h.toNat + ws.length ∧ mostN mo n ls < n
  | .word j => Long ws width j ∧ j ≤ 1000
theorem due_word {h w width : Int} {ws : List Str} {ls : List Nat} {mo : Option Nat} {u : Due} (d : DueOk h w width ws ls mo u) : ∀ j, u = .word j → j ≤ 1000 := fun j e => by subst e; exact d.2
def longs (ws : List Str) (width : Int) : List Nat := (List.range ws.length).filter fun k => decide (width < ((ws.getD k "").length : Int))
theorem longs_mem {ws : List Str} {width : Int} {k : Nat} : k ∈ longs ws width ↔ ∃ x, ws[k]? = some x ∧ width < (x.length : Int) := by
  unfold longs
  rw [List.mem_filter, List.mem_range, decide_eq_true_eq]
  constructor
  · rintro ⟨h1, h2⟩
    rw [List.getD_eq_getElem?_getD, List.getElem?_eq_getElem h1] at h2
    exact ⟨_, List.getElem?_eq_getElem h1, h2⟩
  · rintro ⟨x, h1, h2⟩
    refine ⟨(List.getElem?_eq_some_iff.mp h1).1, ?_⟩
    rw [List.getD_eq_getElem?_getD, h1]
    exact h2
theorem longs_head {ws : List Str} {width : Int} {j : Nat} {r : List Nat} (h : longs ws width = j :: r) : Long ws width j := by
  refine ⟨longs_mem.mp (by rw [h]; exact List.mem_cons_self), fun i hi y hy => ?_⟩
  have pw : (longs ws width).Pairwise (· < ·) := (List.pairwise_lt_range (n := ws.length)).filter _
  rw [h] at pw
  have lo := (List.pairwise_cons.mp pw).1
  rcases Int.lt_or_le width (y.length : Int) with k | k
  · have m := longs_mem.mpr ⟨y, hy, k⟩
    rw [h] at m
    rcases List.mem_cons.mp m with e | e
    · omega
    · have := lo i e; omega
  · exact k
theorem longs_nil {ws : List Str} {width : Int} (h : longs ws width = []) : ∀ x ∈ ws, (x.length : Int) ≤ width := fun x hx => by
  obtain ⟨k, hk⟩ := List.mem_iff_getElem?.mp hx
  rcases Int.lt_or_le width (x.length : Int) with z | z
  · have m := longs_mem.mpr ⟨x, hk, z⟩
    rw [h] at m
    cases m
  · exact z
theorem longs_few {ws : List Str} {width : Int} : ∀ k ∈ longs ws width, k < ws.length := fun k h => by
  obtain ⟨x, e, _⟩ := longs_mem.mp h
  exact (List.getElem?_eq_some_iff.mp e).1
theorem longs_ga {b : Nat} {X : Store} {ws : List Str} {width : Int} (h40 : ws.length ≤ 40) : GA b X 1000 ((longs ws width).map fun n : Nat => D.int (n : Int)) (40 * 204) 0 := by
  have := GA.ints (b := b) (X := X) (m := 1000) (k := 0) (ns := (longs ws width).map fun n : Nat => (n : Int)) fun i hi => by
    obtain ⟨n, hn, rfl⟩ := List.mem_map.mp hi
    have := longs_few n hn
    omega
  rw [List.map_map, List.length_map] at this
  have few : (longs ws width).length ≤ 40 := by
    unfold longs
    have := List.length_filter_le (fun k => decide (width < ((ws.getD k "").length : Int))) (List.range ws.length)
    rw [List.length_range] at this
    omega
  exact this.wt (by omega)
theorem told_due {name : Str} {high wide h w width : Int} {ws : List Str} {ls : List Nat} {mo : Option Nat} {u : Due} {S : Store} {Q : DQ} {E : DXQ} (al : AskL high wide h w width ws ls mo) (du : DueOk h w width ws ls mo u) (k : ∀ T, Q (dueD u) (S ++ T)) :
    spTold61 [secD name high wide ws, layN ls, .tup [.int h, .int w], .int width, mostD mo] S Q E := by
  refine ⟨name, high, wide, h, w, width, ws, ls, mo, rfl, al, fun fits n T f1 f2 => ⟨fun m1 => ?_, fun m1 => ?_⟩, fun j hj => ?_⟩
  · cases u with
    | told => exact k T
    | most => obtain ⟨_, n', g1, _, g3⟩ := du; rw [f1.eq g1] at m1; omega
    | word j => exact (long_no du.1 fits).elim
  · cases u with
    | told => obtain ⟨_, n', g1, _, g3⟩ := du; rw [f1.eq g1] at m1; omega
    | most => exact k T
    | word j => exact (long_no du.1 fits).elim
  · cases u with
    | told => exact (long_no hj du.1).elim
    | most => exact (long_no hj du.1).elim
    | word i =>
      have := k []
      rw [List.append_nil] at this
      rw [long_eq hj du.1]
      exact this
def lookD : Due → D
  | .told => papD
  | u => dueD u
theorem looked_due {name : Str} {high wide h w width : Int} {ws : List Str} {ls : List Nat} {mo : Option Nat} {u : Due} {S : Store} {Q : DQ} {E : DXQ} {d : D} (hd : d = .non ∨ d = oddP) (al : AskL high wide h w width ws ls mo) (du : DueOk h w width ws ls mo u) (k : ∀ T, Q (lookD u) (S ++ T)) :
    spLooked61 [secD name high wide ws, layN ls, .tup [.int h, .int w], d, .int width, mostD mo] S Q E := by
  refine ⟨name, high, wide, h, w, width, ws, ls, mo, d, rfl, hd, al, fun fits n T f1 f2 => ⟨fun m1 => ?_, fun m1 => ?_⟩, fun j hj => ?_⟩
  · cases u with
    | told => exact k T
    | most => obtain ⟨_, n', g1, _, g3⟩ := du; rw [f1.eq g1] at m1; omega
    | word j => exact (long_no du.1 fits).elim
  · cases u with
    | told => obtain ⟨_, n', g1, _, g3⟩ := du; rw [f1.eq g1] at m1; omega
    | most => exact k T
    | word j => exact (long_no du.1 fits).elim
  · cases u with
    | told => exact (long_no hj du.1).elim
    | most => exact (long_no hj du.1).elim
    | word i =>
      have := k []
      rw [List.append_nil] at this
      rw [long_eq hj du.1]
      exact this
theorem look_sh {S : Store} {u : Due} (h : ∀ j, u = .word j → j ≤ 1000) : ∃ p, Sh S (lookD u) p 300 1 := by
  cases u with
  | told => exact ⟨_, pap_sh⟩
  | most => exact ⟨_, due_sh (u := .most) h⟩
  | word j => exact ⟨_, due_sh (u := .word j) h⟩
theorem ok_law (T : Facts K mg) : DFn P w K mg base CX0 9 T.f_law T.fd_law ["_law_script"] spLaw := by
  refine okD T.F_law sc_law (by rintro ds S Q E h; exact spLaw_len _ _ _ _ h) (fun cdv A outer s H E B PX hr hgd => ⟨_, (dss_cons (ds_set (i := 1) (de_call (ok_law_feed (P := P) (w := w) (base := base) T) (hr.mono (by decide)) hgd T.g_law_feed T.F_law_feed.kp T.b_law_feed (da_cons (de_var 0) da_nil)) sc_law.nd)
  (dss_cons (ds_for (g := (.nm 2)) PassesOwn.never (di_range1 T.m_range (da_cons de_int da_nil)) (pg_name (i := 2) sc_law.nd rfl (.inl rfl)) (dss_cons (ds_set (i := 3) (de_add (de_add (de_tup (da_cons de_str da_nil)) (de_call (ok_law_size (P := P) (w := w) (base := base) T) (hr.mono (by decide)) hgd T.g_law_size T.F_law_size.kp T.b_law_size (da_cons (de_var 1) da_nil))) (de_tup (da_cons (de_call (ok_law_words (P := P) (w := w) (base := base) T) (hr.mono (by decide)) hgd T.g_law_words T.F_law_words.kp T.b_law_words (da_cons (de_var 1) (da_cons (de_add de_int (de_call (ok_law_draw (P := P) (w := w) (base := base) T) (hr.mono (by decide)) hgd T.g_law_draw T.F_law_draw.kp T.b_law_draw (da_cons (de_var 1) (da_cons de_int da_nil)))) da_nil))) da_nil))) sc_law.nd)
  (dss_cons (ds_set (i := 4) (de_call (ok_law_lay (P := P) (w := w) (base := base) T) (hr.mono (by decide)) hgd T.g_law_lay T.F_law_lay.kp T.b_law_lay (da_cons (de_var 1) (da_cons (de_var 3) (da_cons de_int da_nil)))) sc_law.nd)
  (dss_cons (ds_set (i := 5) (de_add de_int (de_call (ok_law_draw (P := P) (w := w) (base := base) T) (hr.mono (by decide)) hgd T.g_law_draw T.F_law_draw.kp T.b_law_draw (da_cons (de_var 1) (da_cons de_int da_nil)))) sc_law.nd)
  (dss_cons (ds_set (i := 6) (de_ixL (dl_lst (da_cons (de_call (ok_law_size (P := P) (w := w) (base := base) T) (hr.mono (by decide)) hgd T.g_law_size T.F_law_size.kp T.b_law_size (da_cons (de_var 1) da_nil)) (da_cons (de_slice (de_var 3) (do_some de_int) (do_some de_int)) da_nil))) (de_call (ok_law_draw (P := P) (w := w) (base := base) T) (hr.mono (by decide)) hgd T.g_law_draw T.F_law_draw.kp T.b_law_draw (da_cons (de_var 1) (da_cons de_int da_nil)))) sc_law.nd)
  (dss_cons (ds_setLc (i := 7) (own := [("_law_k", 13)]) (g := (.nm 13)) sc_law.nd (di_range1 T.m_range (da_cons (de_len T.m_len (de_ix (de_var 3) de_int)) da_nil)) (blkOk_by (N := ["_law_script", "_law_feed_here", "_law_lap", "_law_section", "_law_lay_here", "_law_width", "_law_size_here", "_law_long", "_law_many", "_law_most", "_law_due", "_law_thing", "_law_told_here", "_law_k"]) (sc := defScope s_law) (by decide +kernel)) (fun _ _ _ _ _ => (pg_name (i := 13) sc_law.nd rfl (.inl rfl))) (fun _ _ _ _ _ => (dts_one (dt_gt (de_len T.m_len (de_ix (de_ix (de_var 3) de_int) (de_var 13))) (de_var 5)))) (fun _ _ _ _ _ => (de_var 13)) (sw_true rfl rfl rfl (by decide +kernel)))
  (dss_cons (ds_set (i := 8) (de_len T.m_len (de_call (ok_law_bent (P := P) (w := w) (base := base) T) (hr.mono (by decide)) hgd T.g_law_bent T.F_law_bent.kp T.b_law_bent (da_cons (de_call (ok_law_sized (P := P) (w := w) (base := base) T) (hr.mono (by decide)) hgd T.g_law_sized T.F_law_sized.kp T.b_law_sized (da_cons (de_var 3) (da_cons (de_var 6) da_nil))) (da_cons (de_if (dt_ne hr (de_var 7) (de_keep (dl_lst da_nil))) de_int (de_var 5)) da_nil)))) sc_law.nd)
  (dss_cons (ds_set (i := 9) (de_ixL (dl_lst (da_cons de_non (da_cons (de_var 8) (da_cons (de_sub (de_var 8) de_int) (da_cons (de_add (de_var 8) (de_call (ok_law_draw (P := P) (w := w) (base := base) T) (hr.mono (by decide)) hgd T.g_law_draw T.F_law_draw.kp T.b_law_draw (da_cons (de_var 1) (da_cons de_int da_nil)))) (da_cons de_int da_nil)))))) (de_call (ok_law_draw (P := P) (w := w) (base := base) T) (hr.mono (by decide)) hgd T.g_law_draw T.F_law_draw.kp T.b_law_draw (da_cons (de_var 1) (da_cons de_int da_nil)))) sc_law.nd)
  (dss_cons (ds_set (i := 10) (de_tup (da_cons de_str da_nil)) sc_law.nd)
  (dss_cons (ds_if (dt_ne hr (de_var 7) (de_keep (dl_lst da_nil))) (dss_one (ds_set (i := 10) (de_tup (da_cons de_str (da_cons (de_ix (de_var 7) de_int) da_nil))) sc_law.nd)) (dss_one (ds_if (PW.pt (dw_and (dt_notN (de_var 9) de_non) (dw_and1 (dt_lt (de_var 9) (de_var 8))))) (dss_one (ds_set (i := 10) (de_tup (da_cons de_str (da_cons de_str da_nil))) sc_law.nd)) dss_nil)))
  (dss_cons (ds_if (dt_not (dt_val (de_call (ok_law_same (P := P) (w := w) (base := base) T) (hr.mono (by decide)) hgd T.g_law_same T.F_law_same.kp T.b_law_same (da_cons (de_call (ok_law_told (P := P) (w := w) (base := base) T) (hr.mono (by decide)) hgd T.g_law_told T.F_law_told.kp T.b_law_told (da_cons (de_var 3) (da_cons (de_var 4) (da_cons (de_var 6) (da_cons (de_var 5) (da_cons (de_var 9) da_nil)))))) (da_cons (de_var 10) da_nil))))) (dss_one (ds_ret de_bl)) dss_nil)
  (dss_one (ds_for (g := (.nm 11)) PassesOwn.never (di_val (de_tup (da_cons de_non (da_cons (de_tup (da_cons de_int (da_cons (de_tup da_nil) (da_cons (de_tup da_nil) da_nil)))) da_nil)))) (pg_name (i := 11) sc_law.nd rfl (.inl rfl)) (dss_cons (ds_set (i := 12) (de_call (ok_law_looked (P := P) (w := w) (base := base) T) hr hgd T.g_law_looked T.F_law_looked.kp T.b_law_looked (da_cons (de_var 3) (da_cons (de_var 4) (da_cons (de_var 6) (da_cons (de_var 11) (da_cons (de_var 5) (da_cons (de_var 9) da_nil))))))) sc_law.nd)
  (dss_one (ds_if (dt_not (dt_val (de_call (ok_law_same (P := P) (w := w) (base := base) T) (hr.mono (by decide)) hgd T.g_law_same T.F_law_same.kp T.b_law_same (da_cons (de_var 12) (da_cons (de_if (dt_eq hr (de_var 10) (de_tup (da_cons de_str da_nil))) (de_tup (da_cons de_str da_nil)) (de_var 10)) da_nil))))) (dss_one (ds_ret de_bl)) dss_nil))))))))))))))))
  (dss_one (ds_ret de_bl)))), ?_⟩)
  intro ds S PQ h
  obtain ⟨ns, rfl, rfl, hl, q⟩ := h
  walk_at "go"
  refine ⟨ns, rfl, rfl, hl, fun τ ok => ?_⟩
  walk_at "go"
  refine ⟨by decide, by decide, fun i δ S => ∃ (τ' : Feed) (X : Store) (a b c d e f g h j k l : Option D), δ = [some (.fz (ns.map D.int)), some (.ref 1), a, b, c, d, e, f, g, h, j, k, l, none] ∧ S = τ'.S ++ X ∧ τ'.Ok (500 * i), ?_, ?_, ?_, ?_⟩
  · exact ⟨τ, [], none, none, none, none, none, none, none, none, none, none, none, rfl, (List.append_nil _).symm, ok.mono (by omega)⟩
  · exact fun _ _ _ _ _ => trivial
  · rintro i d0 δ S hd ⟨τ1, X, a, b, c, d, e, f, g, h, j, k, l, rfl, rfl, ok1⟩
    obtain ⟨hi, rfl⟩ := rangeD_get.mp hd
    have hi : i < 6 := hi
    rw [dBind_nm, optE_some]
    refine cut4 (fun δ' S' => ∃ (τ' : Feed) (X' : Store) (high wide h' w' width : Int) (ws : List Str) (ls : List Nat), δ' = [some (.fz (ns.map D.int)), some (.ref 1), some (.int (0 + i)), some (secD (Str.ofString "ann") high wide ws), some (layN ls), some (.int width), some (.tup [.int h', .int w']), f, g, h, j, k, l, none] ∧ S' = τ'.S ++ X' ∧ τ'.Ok (500 * i + 300) ∧
      SecOk high wide ws ∧ SecOk h' w' ws ∧ ws.length ≤ 12 ∧ 1 ≤ width ∧ width ≤ 12 ∧ LayOk high wide 40 ws ls) (fun R hR => ?_) ?_
    · walk_at "go"
      refine ⟨lin_of (by omega), τ1, X, _, rfl, rfl, ok1, by omega, fun τ2 T2 high wide ok2 h1 h9 w1 w20 => ?_⟩
      walk_at "go"
      refine ⟨lin_of (by omega), τ2, _, 12, _, rfl, rfl, ok2, by omega, by decide, by decide, fun τ3 r3 ok3 a3 b3 => ?_⟩
      walk_at "go"
      refine ⟨τ3, _, _, 1 + r3, rfl, rfl, ok3, by omega, by omega, by omega, fun τ4 T4 ws ok4 hlen hwd => ?_⟩
      walk_at "go"
      have so : SecOk high wide ws := ⟨h1, h9, w1, w20, by omega, by omega, hwd⟩
      have wd40 : ∀ x ∈ ws, (x.length : Int) ≤ 40 := fun x hx => by have := (hwd x hx).2.1; omega
      refine ⟨lin_of (by omega), lin_of (by omega), ?_⟩
      refine ⟨τ4, _, _, _, high, wide, 40, ws, rfl, rfl, ok4, by omega, so.wds, so.forty, h1, h9, wd40, by omega, fun τ5 T5 ls ok5 lo => ?_⟩
      walk_at "go"
      refine ⟨τ5, _, 12, _, rfl, rfl, ok5, by omega, by decide, by decide, fun τ6 r6 ok6 a6 b6 => ?_⟩
      walk_at "go"
      refine ⟨τ6, _, _, rfl, rfl, ok6, by omega, fun τ7 T7 h' w' ok7 h1' h9' w1' w20' => ?_⟩
      walk_at "go"
      refine ⟨lin_of (by omega), τ7, _, 2, _, rfl, rfl, ok7, by omega, by decide, by decide, fun τ8 r8 ok8 a8 b8 => ?_⟩
      walk_at "go"
      refine optD_in a8 (by show r8 < 2; omega) fun d hd => ?_
      have ec : cutD [D.str (Str.ofString "ann"), D.int high, D.int wide, D.tup (ws.map D.str)] (some 1) (some 3) = [.int high, .int wide] := Eq.trans rfl rfl
      have hm : ∃ h' w' : Int, d = .tup [.int h', .int w'] ∧ SecOk h' w' ws := by
        simp only [List.mem_cons, List.not_mem_nil, or_false] at hd
        rcases hd with rfl | rfl
        · exact ⟨h', w', rfl, h1', h9', w1', w20', so.some_, so.forty, so.wd⟩
        · exact ⟨high, wide, by rw [ec], h1, h9, w1, w20, so.some_, so.forty, so.wd⟩
      obtain ⟨h2, w2, rfl, so2⟩ := hm
      exact hR _ _ ⟨τ8, _, high, wide, h2, w2, 1 + r6, ws, ls, rfl, rfl, ok8.mono (by omega), so, so2, by omega, by omega, by omega, lo⟩
    rintro δ' S' ⟨τ2, X2, high, wide, h', w', width, ws, ls, rfl, rfl, ok2, so, so', h12, w1, w12, lo⟩
    have s1 := so.high1
    have s2 := so.high9
    have s3 := so.wide1
    have s4 := so.wide20
    have t1 := so'.high1
    have t2 := so'.high9
    have t3 := so'.wide1
    have t4 := so'.wide20
    have wk := so.wds
    have wd40 : ∀ x ∈ ws, (x.length : Int) ≤ 40 := fun x hx => by have := (so.wd x hx).2.1; omega
    have lm := lo.m so.forty
    refine cut2 (fun δ' S' => ∃ (X' : Store) (n : Nat), δ' = [some (.fz (ns.map D.int)), some (.ref 1), some (.int (0 + i)), some (secD (Str.ofString "ann") high wide ws), some (layN ls), some (.int width), some (.tup [.int h', .int w']), some (.ref (2 + X2.length)), some (.int (n : Nat)), h, j, k, l, none] ∧
      S' = τ2.S ++ (X2 ++ Cell.lst ((longs ws width).map fun n : Nat => D.int (n : Int)) :: X') ∧ n ≤ 21 ∧ 1 ≤ n ∧ (longs ws width = [] → First h' w' width ws n ∧ n ≤ h'.toNat + ws.length)) (fun R hR => ?_) ?_
    · walk_at "go"
      rw [List.length_map]
      let f : D → Option D := fun d => match d with | .int k => if width < ((ws.getD k.toNat "").length : Int) then some (.int k) else none | _ => none
      have fl : (rangeD 0 (((ws.length : Nat) : Int)).toNat).filterMap f = (longs ws width).map fun n : Nat => D.int (n : Int) := by
        rw [Int.toNat_natCast]
        unfold rangeD longs
        rw [List.filterMap_map]
        generalize List.range ws.length = L
        induction L with
        | nil => rfl
        | cons k L ih =>
          rw [List.filterMap_cons, List.filter_cons]
          have fk : (f ∘ fun i : Nat => D.int (0 + (i : Int))) k = if width < ((ws.getD k "").length : Int) then some (.int (k : Int)) else none := by
            show (if width < ((ws.getD ((0 : Int) + (k : Int)).toNat "").length : Int) then some (D.int (0 + (k : Int))) else none) = _
            rw [Int.zero_add, Int.toNat_natCast]
          by_cases z : width < ((ws.getD k "").length : Int)
          · rw [if_pos z] at fk
            rw [fk, if_pos (by simpa using z)]
            exact congrArg _ ih
          · rw [if_neg z] at fk
            rw [fk, if_neg (by simpa using z)]
            exact ih
      refine ⟨by omega, by omega, dComp_fm f trivial (by rw [rangeD_length]; exact lin_of (by omega)) (fun d hd R1 R0 r1 r0 => ?_) ?_⟩
      · obtain ⟨m, hm⟩ := List.mem_iff_getElem?.mp hd
        obtain ⟨hm, rfl⟩ := rangeD_get.mp hm
        have hm2 : m < ws.length := by omega
        have em := List.getElem?_eq_getElem hm2
        have fm : f (.int (0 + (m : Int))) = if width < (ws[m].length : Int) then some (.int (0 + (m : Int))) else none := by
          show (if width < ((ws.getD ((0 : Int) + (m : Int)).toNat "").length : Int) then some (D.int (0 + (m : Int))) else none) = _
          rw [show ((0 : Int) + (m : Int)).toNat = m by omega, List.getD_eq_getElem?_getD, em]
          rfl
        have wl := (so.wd _ (List.getElem_mem hm2)).2.1
        walk_at "go"
        rw [show (0 : Int) + (m : Int) = ((m : Nat) : Int) by omega] at fm r1 r0 ⊢
        rw [at_str em]
        walk_at "go"
        refine ⟨lin_of (by omega), bIf_dec (fun z => r1 _ ?_) fun z => r0 ?_⟩
        · rw [fm, if_pos z]
        · rw [fm, if_neg z]
      · rw [fl]
        walk_at "go"
        refine ⟨_, high, wide, h', w', ws, rfl, ?_⟩
        walk_at "go"
        have at1 : ∀ (c c' : Cell), (τ2.S ++ (X2 ++ [c, c']))[2 + X2.length]? = some c := fun c c' => by rw [feed_get, show X2.length = X2.length + 0 from rfl, app_get]; rfl
        have at2 : ∀ (c c' : Cell), (τ2.S ++ (X2 ++ [c, c']))[2 + (X2.length + 1)]? = some c' := fun c c' => by rw [feed_get, app_get]; rfl
        refine ⟨Nat.zero_le _, dNe_nil (at1 _ _) (at2 _ _) (longs_ga (by omega)) (by decide) (by decide) ?_⟩
        walk_at "go"
        refine bIf_both (fun h0 => ?_) fun h0 => ?_
        · have none_ : longs ws width = [] := by
            have := List.isEmpty_iff.mp h0
            exact List.map_eq_nil_iff.mp this
          refine ⟨_, h', w', width, ws, rfl, wk, so.forty, by omega, t1, by omega, longs_nil none_, fun n T3 fst hn => ?_⟩
          walk_at "go"
          rw [layD_length]
          exact hR _ _ ⟨_, n, rfl, rfl, by omega, by have := fst.1.1; omega, fun _ => ⟨fst, hn⟩⟩
        · have some_ : longs ws width ≠ [] := fun z => by rw [z] at h0; cases h0
          refine ⟨_, h', w', 40, ws, rfl, wk, so.forty, by omega, t1, by omega, wd40, fun n T3 fst hn => ?_⟩
          walk_at "go"
          rw [layD_length]
          exact hR _ _ ⟨_, n, rfl, rfl, by omega, by have := fst.1.1; omega, fun z => absurd z some_⟩
    rintro δ' S' ⟨X3, n, rfl, rfl, n21, n1, hn⟩
    have gaL : ∀ S : Store, GA 0 S 1000 ((longs ws width).map fun n : Nat => D.int (n : Int)) (40 * 204) 0 := fun S => longs_ga (by omega)
    refine cut3 (fun δ' S' => ∃ (τ' : Feed) (X' : Store) (mo : Option Nat) (u : Due), δ' = [some (.fz (ns.map D.int)), some (.ref 1), some (.int (0 + i)), some (secD (Str.ofString "ann") high wide ws), some (layN ls), some (.int width), some (.tup [.int h', .int w']), some (.ref (2 + X2.length)), some (.int (n : Nat)), some (mostD mo), some (dueD u), k, l, none] ∧
      S' = τ'.S ++ X' ∧ τ'.Ok (500 * i + 310) ∧ (∀ n, First h' w' width ws n → n ≤ h'.toNat + ws.length → mostN mo n ls ≤ 200) ∧ DueOk h' w' width ws ls mo u) (fun R hR => ?_) ?_
    · refine cut1 (fun δ' S' => ∃ (τ' : Feed) (X' : Store) (mo : Option Nat), δ' = [some (.fz (ns.map D.int)), some (.ref 1), some (.int (0 + i)), some (secD (Str.ofString "ann") high wide ws), some (layN ls), some (.int width), some (.tup [.int h', .int w']), some (.ref (2 + X2.length)), some (.int (n : Nat)), some (mostD mo), j, k, l, none] ∧
        S' = τ'.S ++ (X2 ++ Cell.lst ((longs ws width).map fun n : Nat => D.int (n : Int)) :: X') ∧ τ'.Ok (500 * i + 310) ∧ ∀ m, mo = some m → m ≤ 30) (fun R hR => ?_) ?_
      · walk_at "go"
        refine ⟨τ2, _, 3, _, rfl, rfl, ok2, by omega, by decide, by decide, fun τ3 r3 ok3 a3 b3 => ?_⟩
        walk_at "go"
        refine ⟨lin_of (by omega), τ3, _, 5, _, rfl, rfl, ok3, by omega, by decide, by decide, fun τ4 r4 ok4 a4 b4 => ?_⟩
        walk_at "go"
        refine optD_in a4 (by show r4 < 5; omega) fun d hd => ?_
        have hv : ∃ mo : Option Nat, d = mostD mo ∧ ∀ m, mo = some m → m ≤ 30 := by
          simp only [List.mem_cons, List.not_mem_nil, or_false] at hd
          rcases hd with rfl | rfl | rfl | rfl | rfl
          · exact ⟨none, rfl, fun m z => nomatch z⟩
          · exact ⟨some n, rfl, fun m z => by cases z; omega⟩
          · exact ⟨some (n - 1), by show D.int _ = D.int _; congr 1; omega, fun m z => by cases z; omega⟩
          · exact ⟨some (n + r3.toNat), by show D.int _ = D.int _; congr 1; omega, fun m z => by cases z; omega⟩
          · exact ⟨some 0, rfl, fun m z => by cases z; omega⟩
        obtain ⟨mo, rfl, hmo⟩ := hv
        exact hR _ _ ⟨τ4, _, mo, rfl, rfl, ok4.mono (by omega), hmo⟩
      rintro δ' S' ⟨τ3, X4, mo, rfl, rfl, ok3, hmo⟩
      have cap : ∀ n, First h' w' width ws n → n ≤ h'.toNat + ws.length → mostN mo n ls ≤ 200 := fun n _ hn => by
        have := lo.few
        cases mo with
        | none => show max n ls.length ≤ 200; omega
        | some m => have := hmo m rfl; show m ≤ 200; omega
      walk_at "go"
      have at1 : ∀ (c : Cell) (Z : Store), (τ3.S ++ (X2 ++ c :: Z))[2 + X2.length]? = some c := fun c Z => by rw [feed_get, show X2.length = X2.length + 0 from rfl, app_get]; rfl
      have at2 : ∀ (c c' : Cell), (τ3.S ++ (X2 ++ c :: (X4 ++ [c'])))[2 + (X2.length + (X4.length + 1))]? = some c' := fun c c' => by rw [feed_get, app_get, List.getElem?_cons_succ]; exact List.getElem?_concat_length
      refine ⟨lin_of (by decide), Nat.zero_le _, dNe_nil (at1 _ _) (at2 _ _) (gaL _) (by decide) (by decide) ?_⟩
      walk_at "go"
      refine bIf_both (fun h0 => ?_) fun h0 => ?_
      · have none_ : longs ws width = [] := List.map_eq_nil_iff.mp (List.isEmpty_iff.mp h0)
        obtain ⟨fst, hle⟩ := hn none_
        have fits := longs_nil none_
        cases mo with
        | none =>
          unfold mostD
          walk_at "go"
          exact hR _ _ ⟨τ3, _, none, .told, rfl, rfl, ok3, cap, fits, n, fst, hle, Nat.le_max_left _ _⟩
        | some m =>
          unfold mostD
          walk_at "go"
          refine bIf_dec (fun z => ⟨lin_of (by decide), hR _ _ ⟨τ3, _, some m, .most, rfl, rfl, ok3, cap, fits, n, fst, hle, by show m < n; omega⟩⟩) fun z => ?_
          exact hR _ _ ⟨τ3, _, some m, .told, rfl, rfl, ok3, cap, fits, n, fst, hle, by show n ≤ m; omega⟩
      · cases hL : longs ws width with
        | nil => rw [hL] at h0; cases h0
        | cons j0 r0 =>
          have lj := longs_head hL
          have fj := longs_few (ws := ws) (width := width) j0 (by rw [hL]; exact List.mem_cons_self)
          have e0 : atI ((j0 :: r0).map fun n : Nat => D.int (n : Int)) 0 = some (.int (j0 : Nat)) := by
            have := atI_nat (xs := (j0 :: r0).map fun n : Nat => D.int (n : Int)) (j := 0) (v := .int (j0 : Nat)) rfl
            exact this
          rw [e0]
          walk_at "go"
          exact ⟨lin_of (by decide), hR _ _ ⟨τ3, _, mo, .word j0, rfl, rfl, ok3, cap, lj, by omega⟩⟩
    rintro δ' S' ⟨τ3, X4, mo, u, rfl, rfl, ok3, cap, du⟩
    have al : AskL high wide h' w' width ws ls mo := ⟨wk, so.some_, so.forty, lm, t1, t2, by omega, cap⟩
    have uj := due_word du
    walk_at "go"
    refine told_due al du fun T => ?_
    have u1 := due_sh (S := τ3.S ++ X4 ++ T) uj
    refine ⟨_, _, dueP u, dueP u, rfl, u1.1, u1.1, u1.2.fit (by decide) (by decide), u1.2.fit (by decide) (by decide), ?_⟩
    walk_at "go"
    refine ⟨Nat.zero_le _, Nat.zero_le _, lin_of (by decide), lin_of (by decide), fun m δ' S' => ∃ (X' : Store) (x y : Option D), δ' = [some (.fz (ns.map D.int)), some (.ref 1), some (.int (0 + i)), some (secD (Str.ofString "ann") high wide ws), some (layN ls), some (.int width), some (.tup [.int h', .int w']), some (.ref (2 + X2.length)), some (.int (n : Nat)), some (mostD mo), some (dueD u), x, y, none] ∧ S' = τ3.S ++ X', ?_, ?_, ?_, ?_⟩
    · exact ⟨_, _, _, rfl, rfl⟩
    · exact fun _ _ _ _ _ => trivial
    · rintro m d δ' S' hd ⟨X', x, y, rfl, rfl⟩
      have hd2 : d = .non ∨ d = oddP := by
        have := List.mem_of_getElem? hd
        simp only [List.mem_cons, List.not_mem_nil, or_false] at this
        exact this
      walk_at "go"
      refine looked_due hd2 al du fun T => ?_
      walk_at "go"
      refine ⟨lin_of (by decide), due_told uj ?_⟩
      walk_at "go"
      obtain ⟨p1, h1⟩ := look_sh (S := τ3.S ++ (X' ++ T)) uj
      have fin : bIf (isTold u) (lookD u = .tup [.str (Str.ofString "paper")]) (lookD u = dueD u) := by cases u <;> exact rfl
      have go : ∀ v : D, lookD u = v → spSame [lookD u, v] (τ3.S ++ (X' ++ T)) (fun dd S1 => dTru S1 (fun c S1 => bIf c (∃ (X' : Store) (x y : Option D), [some (.fz (ns.map D.int)), some (.ref 1), some (.int (0 + (i : Int))), some (.tup [.str (Str.ofString "ann"), .int high, .int wide, .tup (ws.map .str)]), some (layN ls), some (.int width), some (.tup [.int h', .int w']), some (.ref (2 + X2.length)), some (.int (n : Nat)), some (mostD mo), some (dueD u), some d, some (lookD u), none] = [some (.fz (ns.map D.int)), some (.ref 1), some (.int (0 + (i : Int))), some (.tup [.str (Str.ofString "ann"), .int high, .int wide, .tup (ws.map .str)]), some (layN ls), some (.int width), some (.tup [.int h', .int w']), some (.ref (2 + X2.length)), some (.int (n : Nat)), some (mostD mo), some (dueD u), x, y, none] ∧ S1 = τ3.S ++ X') (PQ (.bl false) S1)) dd) noX := by
        rintro v rfl
        refine ⟨_, _, p1, p1, rfl, h1.1, h1.1, h1.2.fit (by decide) (by decide), h1.2.fit (by decide) (by decide), ?_⟩
        walk_at "go"
        exact ⟨_, _, _, rfl, rfl⟩
      cases hu : isTold u with
      | true =>
        rw [hu] at fin
        exact ⟨lin_of (by decide), go _ fin⟩
      | false =>
        rw [hu] at fin
        exact go _ fin
    · rintro δ' S' ⟨X', x, y, rfl, rfl⟩
      walk_at "go"
      exact ⟨τ3, _, _, _, _, _, _, _, _, _, _, _, _, rfl, rfl, ok3.mono (by omega)⟩
  · rintro δ S ⟨τ1, X, a, b, c, d, e, f, g, h, j, k, l, rfl, rfl, ok1⟩
    walk_at "go"
    exact q _
theorem facts_mk {h : Heap} (X : K.In h) (G : h.Ns mainGlobals mg)
    {f_law_feed : Addr} {oc_law_feed kV_law_feed dc_law_feed pm_law_feed cd_law_feed ct_law_feed : Value} {od_law_feed an_law_feed : Option Addr} {sl_law_feed : Array (Option Value)}
    (a_law_feed : PySem.W.nsIn K mainGlobals "_law_feed" = some (some (.ref f_law_feed)))
    (c_law_feed : PySem.W.codeIn K cd_law_feed "_law_feed" = true) (k_law_feed : PySem.W.keepIn K (.ref f_law_feed) = true)
    (l_law_feed : K.lookup f_law_feed = some ⟨oc_law_feed, od_law_feed, .func (PySem.W.fnOf "_law_feed" "_law_feed" (defArgs s_law_feed) (defBody s_law_feed) (defScope s_law_feed) .none kV_law_feed dc_law_feed pm_law_feed an_law_feed cd_law_feed ct_law_feed), sl_law_feed⟩)
    {f_law_draw : Addr} {oc_law_draw kV_law_draw dc_law_draw pm_law_draw cd_law_draw ct_law_draw : Value} {od_law_draw an_law_draw : Option Addr} {sl_law_draw : Array (Option Value)}
    (a_law_draw : PySem.W.nsIn K mainGlobals "_law_draw" = some (some (.ref f_law_draw)))
    (c_law_draw : PySem.W.codeIn K cd_law_draw "_law_draw" = true) (k_law_draw : PySem.W.keepIn K (.ref f_law_draw) = true)
    (l_law_draw : K.lookup f_law_draw = some ⟨oc_law_draw, od_law_draw, .func (PySem.W.fnOf "_law_draw" "_law_draw" (defArgs s_law_draw) (defBody s_law_draw) (defScope s_law_draw) .none kV_law_draw dc_law_draw pm_law_draw an_law_draw cd_law_draw ct_law_draw), sl_law_draw⟩)
    {f_law_same : Addr} {oc_law_same kV_law_same dc_law_same pm_law_same cd_law_same ct_law_same : Value} {od_law_same an_law_same : Option Addr} {sl_law_same : Array (Option Value)}
    (a_law_same : PySem.W.nsIn K mainGlobals "_law_same" = some (some (.ref f_law_same)))
    (c_law_same : PySem.W.codeIn K cd_law_same "_law_same" = true) (k_law_same : PySem.W.keepIn K (.ref f_law_same) = true)
    (l_law_same : K.lookup f_law_same = some ⟨oc_law_same, od_law_same, .func (PySem.W.fnOf "_law_same" "_law_same" (defArgs s_law_same) (defBody s_law_same) (defScope s_law_same) .none kV_law_same dc_law_same pm_law_same an_law_same cd_law_same ct_law_same), sl_law_same⟩)
    {f_law_words : Addr} {oc_law_words kV_law_words dc_law_words pm_law_words cd_law_words ct_law_words : Value} {od_law_words an_law_words : Option Addr} {sl_law_words : Array (Option Value)}
    (a_law_words : PySem.W.nsIn K mainGlobals "_law_words" = some (some (.ref f_law_words)))
    (c_law_words : PySem.W.codeIn K cd_law_words "_law_words" = true) (k_law_words : PySem.W.keepIn K (.ref f_law_words) = true)
    (l_law_words : K.lookup f_law_words = some ⟨oc_law_words, od_law_words, .func (PySem.W.fnOf "_law_words" "_law_words" (defArgs s_law_words) (defBody s_law_words) (defScope s_law_words) .none kV_law_words dc_law_words pm_law_words an_law_words cd_law_words ct_law_words), sl_law_words⟩)
    {f_law_size : Addr} {oc_law_size kV_law_size dc_law_size pm_law_size cd_law_size ct_law_size : Value} {od_law_size an_law_size : Option Addr} {sl_law_size : Array (Option Value)}
    (a_law_size : PySem.W.nsIn K mainGlobals "_law_size" = some (some (.ref f_law_size)))
    (c_law_size : PySem.W.codeIn K cd_law_size "_law_size" = true) (k_law_size : PySem.W.keepIn K (.ref f_law_size) = true)
    (l_law_size : K.lookup f_law_size = some ⟨oc_law_size, od_law_size, .func (PySem.W.fnOf "_law_size" "_law_size" (defArgs s_law_size) (defBody s_law_size) (defScope s_law_size) .none kV_law_size dc_law_size pm_law_size an_law_size cd_law_size ct_law_size), sl_law_size⟩)
    {f_law_end : Addr} {oc_law_end kV_law_end dc_law_end pm_law_end cd_law_end ct_law_end : Value} {od_law_end an_law_end : Option Addr} {sl_law_end : Array (Option Value)}
    (a_law_end : PySem.W.nsIn K mainGlobals "_law_end" = some (some (.ref f_law_end)))
    (c_law_end : PySem.W.codeIn K cd_law_end "_law_end" = true) (k_law_end : PySem.W.keepIn K (.ref f_law_end) = true)
    (l_law_end : K.lookup f_law_end = some ⟨oc_law_end, od_law_end, .func (PySem.W.fnOf "_law_end" "_law_end" (defArgs s_law_end) (defBody s_law_end) (defScope s_law_end) .none kV_law_end dc_law_end pm_law_end an_law_end cd_law_end ct_law_end), sl_law_end⟩)
    {f_law_space : Addr} {oc_law_space kV_law_space dc_law_space pm_law_space cd_law_space ct_law_space : Value} {od_law_space an_law_space : Option Addr} {sl_law_space : Array (Option Value)}
    (a_law_space : PySem.W.nsIn K mainGlobals "_law_space" = some (some (.ref f_law_space)))
    (c_law_space : PySem.W.codeIn K cd_law_space "_law_space" = true) (k_law_space : PySem.W.keepIn K (.ref f_law_space) = true)
    (l_law_space : K.lookup f_law_space = some ⟨oc_law_space, od_law_space, .func (PySem.W.fnOf "_law_space" "_law_space" (defArgs s_law_space) (defBody s_law_space) (defScope s_law_space) .none kV_law_space dc_law_space pm_law_space an_law_space cd_law_space ct_law_space), sl_law_space⟩)
    {f_law_lay : Addr} {oc_law_lay kV_law_lay dc_law_lay pm_law_lay cd_law_lay ct_law_lay : Value} {od_law_lay an_law_lay : Option Addr} {sl_law_lay : Array (Option Value)}
    (a_law_lay : PySem.W.nsIn K mainGlobals "_law_lay" = some (some (.ref f_law_lay)))
    (c_law_lay : PySem.W.codeIn K cd_law_lay "_law_lay" = true) (k_law_lay : PySem.W.keepIn K (.ref f_law_lay) = true)
    (l_law_lay : K.lookup f_law_lay = some ⟨oc_law_lay, od_law_lay, .func (PySem.W.fnOf "_law_lay" "_law_lay" (defArgs s_law_lay) (defBody s_law_lay) (defScope s_law_lay) .none kV_law_lay dc_law_lay pm_law_lay an_law_lay cd_law_lay ct_law_lay), sl_law_lay⟩)
    {f_law_sized : Addr} {oc_law_sized kV_law_sized dc_law_sized pm_law_sized cd_law_sized ct_law_sized : Value} {od_law_sized an_law_sized : Option Addr} {sl_law_sized : Array (Option Value)}
    (a_law_sized : PySem.W.nsIn K mainGlobals "_law_sized" = some (some (.ref f_law_sized)))
    (c_law_sized : PySem.W.codeIn K cd_law_sized "_law_sized" = true) (k_law_sized : PySem.W.keepIn K (.ref f_law_sized) = true)
    (l_law_sized : K.lookup f_law_sized = some ⟨oc_law_sized, od_law_sized, .func (PySem.W.fnOf "_law_sized" "_law_sized" (defArgs s_law_sized) (defBody s_law_sized) (defScope s_law_sized) .none kV_law_sized dc_law_sized pm_law_sized an_law_sized cd_law_sized ct_law_sized), sl_law_sized⟩)
    {f_law_bent : Addr} {oc_law_bent kV_law_bent dc_law_bent pm_law_bent cd_law_bent ct_law_bent : Value} {od_law_bent an_law_bent : Option Addr} {sl_law_bent : Array (Option Value)}
    (a_law_bent : PySem.W.nsIn K mainGlobals "_law_bent" = some (some (.ref f_law_bent)))
    (c_law_bent : PySem.W.codeIn K cd_law_bent "_law_bent" = true) (k_law_bent : PySem.W.keepIn K (.ref f_law_bent) = true)
    (l_law_bent : K.lookup f_law_bent = some ⟨oc_law_bent, od_law_bent, .func (PySem.W.fnOf "_law_bent" "_law_bent" (defArgs s_law_bent) (defBody s_law_bent) (defScope s_law_bent) .none kV_law_bent dc_law_bent pm_law_bent an_law_bent cd_law_bent ct_law_bent), sl_law_bent⟩)
    {f_resized : Addr} {oc_resized kV_resized dc_resized pm_resized cd_resized ct_resized : Value} {od_resized an_resized : Option Addr} {sl_resized : Array (Option Value)}
    (a_resized : PySem.W.nsIn K mainGlobals "resized" = some (some (.ref f_resized)))
    (c_resized : PySem.W.codeIn K cd_resized "resized" = true) (k_resized : PySem.W.keepIn K (.ref f_resized) = true)
    (l_resized : K.lookup f_resized = some ⟨oc_resized, od_resized, .func (PySem.W.fnOf "resized" "resized" (defArgs s_resized) (defBody s_resized) (defScope s_resized) .none kV_resized dc_resized pm_resized an_resized cd_resized ct_resized), sl_resized⟩)
    {f_begins : Addr} {oc_begins kV_begins dc_begins pm_begins cd_begins ct_begins : Value} {od_begins an_begins : Option Addr} {sl_begins : Array (Option Value)}
    (a_begins : PySem.W.nsIn K mainGlobals "begins" = some (some (.ref f_begins)))
    (c_begins : PySem.W.codeIn K cd_begins "begins" = true) (k_begins : PySem.W.keepIn K (.ref f_begins) = true)
    (l_begins : K.lookup f_begins = some ⟨oc_begins, od_begins, .func (PySem.W.fnOf "begins" "begins" (defArgs s_begins) (defBody s_begins) (defScope s_begins) .none kV_begins dc_begins pm_begins an_begins cd_begins ct_begins), sl_begins⟩)
    {f_room : Addr} {oc_room kV_room dc_room pm_room cd_room ct_room : Value} {od_room an_room : Option Addr} {sl_room : Array (Option Value)}
    (a_room : PySem.W.nsIn K mainGlobals "room" = some (some (.ref f_room)))
    (c_room : PySem.W.codeIn K cd_room "room" = true) (k_room : PySem.W.keepIn K (.ref f_room) = true)
    {T_room : Addr} {tc_room : Value} {td_room : Option Addr} {tn_room : Nat} {ts_room : Array (Option Value)}
    {tk_room_0 : Tok}
    (l_room : K.lookup f_room = some ⟨oc_room, od_room, .func (PySem.W.fnOf "room" "room" (defArgs s_room) (defBody s_room) (defScope s_room) (.ref T_room) kV_room dc_room pm_room an_room cd_room ct_room), sl_room⟩)
    (t_room : K.lookup T_room = some ⟨tc_room, td_room, .seq [.int 30 tk_room_0].toArray tn_room, ts_room⟩)
    {f_refuse_longer : Addr} {oc_refuse_longer kV_refuse_longer dc_refuse_longer pm_refuse_longer cd_refuse_longer ct_refuse_longer : Value} {od_refuse_longer an_refuse_longer : Option Addr} {sl_refuse_longer : Array (Option Value)}
    (a_refuse_longer : PySem.W.nsIn K mainGlobals "refuse_longer" = some (some (.ref f_refuse_longer)))
    (c_refuse_longer : PySem.W.codeIn K cd_refuse_longer "refuse_longer" = true) (k_refuse_longer : PySem.W.keepIn K (.ref f_refuse_longer) = true)
    (l_refuse_longer : K.lookup f_refuse_longer = some ⟨oc_refuse_longer, od_refuse_longer, .func (PySem.W.fnOf "refuse_longer" "refuse_longer" (defArgs s_refuse_longer) (defBody s_refuse_longer) (defScope s_refuse_longer) .none kV_refuse_longer dc_refuse_longer pm_refuse_longer an_refuse_longer cd_refuse_longer ct_refuse_longer), sl_refuse_longer⟩)
    {f_fill_line : Addr} {oc_fill_line kV_fill_line dc_fill_line pm_fill_line cd_fill_line ct_fill_line : Value} {od_fill_line an_fill_line : Option Addr} {sl_fill_line : Array (Option Value)}
    (a_fill_line : PySem.W.nsIn K mainGlobals "fill_line" = some (some (.ref f_fill_line)))
    (c_fill_line : PySem.W.codeIn K cd_fill_line "fill_line" = true) (k_fill_line : PySem.W.keepIn K (.ref f_fill_line) = true)
    (l_fill_line : K.lookup f_fill_line = some ⟨oc_fill_line, od_fill_line, .func (PySem.W.fnOf "fill_line" "fill_line" (defArgs s_fill_line) (defBody s_fill_line) (defScope s_fill_line) .none kV_fill_line dc_fill_line pm_fill_line an_fill_line cd_fill_line ct_fill_line), sl_fill_line⟩)
    {f_bent : Addr} {oc_bent kV_bent dc_bent pm_bent cd_bent ct_bent : Value} {od_bent an_bent : Option Addr} {sl_bent : Array (Option Value)}
    (a_bent : PySem.W.nsIn K mainGlobals "bent" = some (some (.ref f_bent)))
    (c_bent : PySem.W.codeIn K cd_bent "bent" = true) (k_bent : PySem.W.keepIn K (.ref f_bent) = true)
    {T_bent : Addr} {tc_bent : Value} {td_bent : Option Addr} {tn_bent : Nat} {ts_bent : Array (Option Value)}
    {tk_bent_0 : Tok}
    (l_bent : K.lookup f_bent = some ⟨oc_bent, od_bent, .func (PySem.W.fnOf "bent" "bent" (defArgs s_bent) (defBody s_bent) (defScope s_bent) (.ref T_bent) kV_bent dc_bent pm_bent an_bent cd_bent ct_bent), sl_bent⟩)
    (t_bent : K.lookup T_bent = some ⟨tc_bent, td_bent, .seq [.int 30 tk_bent_0].toArray tn_bent, ts_bent⟩)
    {f_most_lines : Addr} {oc_most_lines kV_most_lines dc_most_lines pm_most_lines cd_most_lines ct_most_lines : Value} {od_most_lines an_most_lines : Option Addr} {sl_most_lines : Array (Option Value)}
    (a_most_lines : PySem.W.nsIn K mainGlobals "most_lines" = some (some (.ref f_most_lines)))
    (c_most_lines : PySem.W.codeIn K cd_most_lines "most_lines" = true) (k_most_lines : PySem.W.keepIn K (.ref f_most_lines) = true)
    (l_most_lines : K.lookup f_most_lines = some ⟨oc_most_lines, od_most_lines, .func (PySem.W.fnOf "most_lines" "most_lines" (defArgs s_most_lines) (defBody s_most_lines) (defScope s_most_lines) .none kV_most_lines dc_most_lines pm_most_lines an_most_lines cd_most_lines ct_most_lines), sl_most_lines⟩)
    {f_first_word : Addr} {oc_first_word kV_first_word dc_first_word pm_first_word cd_first_word ct_first_word : Value} {od_first_word an_first_word : Option Addr} {sl_first_word : Array (Option Value)}
    (a_first_word : PySem.W.nsIn K mainGlobals "first_word" = some (some (.ref f_first_word)))
    (c_first_word : PySem.W.codeIn K cd_first_word "first_word" = true) (k_first_word : PySem.W.keepIn K (.ref f_first_word) = true)
    (l_first_word : K.lookup f_first_word = some ⟨oc_first_word, od_first_word, .func (PySem.W.fnOf "first_word" "first_word" (defArgs s_first_word) (defBody s_first_word) (defScope s_first_word) .none kV_first_word dc_first_word pm_first_word an_first_word cd_first_word ct_first_word), sl_first_word⟩)
    {f_line_step : Addr} {oc_line_step kV_line_step dc_line_step pm_line_step cd_line_step ct_line_step : Value} {od_line_step an_line_step : Option Addr} {sl_line_step : Array (Option Value)}
    (a_line_step : PySem.W.nsIn K mainGlobals "line_step" = some (some (.ref f_line_step)))
    (c_line_step : PySem.W.codeIn K cd_line_step "line_step" = true) (k_line_step : PySem.W.keepIn K (.ref f_line_step) = true)
    (l_line_step : K.lookup f_line_step = some ⟨oc_line_step, od_line_step, .func (PySem.W.fnOf "line_step" "line_step" (defArgs s_line_step) (defBody s_line_step) (defScope s_line_step) .none kV_line_step dc_line_step pm_line_step an_line_step cd_line_step ct_line_step), sl_line_step⟩)
    {f_is_void : Addr} {oc_is_void kV_is_void dc_is_void pm_is_void cd_is_void ct_is_void : Value} {od_is_void an_is_void : Option Addr} {sl_is_void : Array (Option Value)}
    (a_is_void : PySem.W.nsIn K mainGlobals "is_void" = some (some (.ref f_is_void)))
    (c_is_void : PySem.W.codeIn K cd_is_void "is_void" = true) (k_is_void : PySem.W.keepIn K (.ref f_is_void) = true)
    (l_is_void : K.lookup f_is_void = some ⟨oc_is_void, od_is_void, .func (PySem.W.fnOf "is_void" "is_void" (defArgs s_is_void) (defBody s_is_void) (defScope s_is_void) .none kV_is_void dc_is_void pm_is_void an_is_void cd_is_void ct_is_void), sl_is_void⟩)
    {f_is_kept : Addr} {oc_is_kept kV_is_kept dc_is_kept pm_is_kept cd_is_kept ct_is_kept : Value} {od_is_kept an_is_kept : Option Addr} {sl_is_kept : Array (Option Value)}
    (a_is_kept : PySem.W.nsIn K mainGlobals "is_kept" = some (some (.ref f_is_kept)))
    (c_is_kept : PySem.W.codeIn K cd_is_kept "is_kept" = true) (k_is_kept : PySem.W.keepIn K (.ref f_is_kept) = true)
    (l_is_kept : K.lookup f_is_kept = some ⟨oc_is_kept, od_is_kept, .func (PySem.W.fnOf "is_kept" "is_kept" (defArgs s_is_kept) (defBody s_is_kept) (defScope s_is_kept) .none kV_is_kept dc_is_kept pm_is_kept an_is_kept cd_is_kept ct_is_kept), sl_is_kept⟩)
    {f_priced_steps : Addr} {oc_priced_steps kV_priced_steps dc_priced_steps pm_priced_steps cd_priced_steps ct_priced_steps : Value} {od_priced_steps an_priced_steps : Option Addr} {sl_priced_steps : Array (Option Value)}
    (a_priced_steps : PySem.W.nsIn K mainGlobals "priced_steps" = some (some (.ref f_priced_steps)))
    (c_priced_steps : PySem.W.codeIn K cd_priced_steps "priced_steps" = true) (k_priced_steps : PySem.W.keepIn K (.ref f_priced_steps) = true)
    (l_priced_steps : K.lookup f_priced_steps = some ⟨oc_priced_steps, od_priced_steps, .func (PySem.W.fnOf "priced_steps" "priced_steps" (defArgs s_priced_steps) (defBody s_priced_steps) (defScope s_priced_steps) .none kV_priced_steps dc_priced_steps pm_priced_steps an_priced_steps cd_priced_steps ct_priced_steps), sl_priced_steps⟩)
    {f_prices_ahead : Addr} {oc_prices_ahead kV_prices_ahead dc_prices_ahead pm_prices_ahead cd_prices_ahead ct_prices_ahead : Value} {od_prices_ahead an_prices_ahead : Option Addr} {sl_prices_ahead : Array (Option Value)}
    (a_prices_ahead : PySem.W.nsIn K mainGlobals "prices_ahead" = some (some (.ref f_prices_ahead)))
    (c_prices_ahead : PySem.W.codeIn K cd_prices_ahead "prices_ahead" = true) (k_prices_ahead : PySem.W.keepIn K (.ref f_prices_ahead) = true)
    (l_prices_ahead : K.lookup f_prices_ahead = some ⟨oc_prices_ahead, od_prices_ahead, .func (PySem.W.fnOf "prices_ahead" "prices_ahead" (defArgs s_prices_ahead) (defBody s_prices_ahead) (defScope s_prices_ahead) .none kV_prices_ahead dc_prices_ahead pm_prices_ahead an_prices_ahead cd_prices_ahead ct_prices_ahead), sl_prices_ahead⟩)
    {f_least_prices : Addr} {oc_least_prices kV_least_prices dc_least_prices pm_least_prices cd_least_prices ct_least_prices : Value} {od_least_prices an_least_prices : Option Addr} {sl_least_prices : Array (Option Value)}
    (a_least_prices : PySem.W.nsIn K mainGlobals "least_prices" = some (some (.ref f_least_prices)))
    (c_least_prices : PySem.W.codeIn K cd_least_prices "least_prices" = true) (k_least_prices : PySem.W.keepIn K (.ref f_least_prices) = true)
    (l_least_prices : K.lookup f_least_prices = some ⟨oc_least_prices, od_least_prices, .func (PySem.W.fnOf "least_prices" "least_prices" (defArgs s_least_prices) (defBody s_least_prices) (defScope s_least_prices) .none kV_least_prices dc_least_prices pm_least_prices an_least_prices cd_least_prices ct_least_prices), sl_least_prices⟩)
    {f_cheapest_lay : Addr} {oc_cheapest_lay kV_cheapest_lay dc_cheapest_lay pm_cheapest_lay cd_cheapest_lay ct_cheapest_lay : Value} {od_cheapest_lay an_cheapest_lay : Option Addr} {sl_cheapest_lay : Array (Option Value)}
    (a_cheapest_lay : PySem.W.nsIn K mainGlobals "cheapest_lay" = some (some (.ref f_cheapest_lay)))
    (c_cheapest_lay : PySem.W.codeIn K cd_cheapest_lay "cheapest_lay" = true) (k_cheapest_lay : PySem.W.keepIn K (.ref f_cheapest_lay) = true)
    (l_cheapest_lay : K.lookup f_cheapest_lay = some ⟨oc_cheapest_lay, od_cheapest_lay, .func (PySem.W.fnOf "cheapest_lay" "cheapest_lay" (defArgs s_cheapest_lay) (defBody s_cheapest_lay) (defScope s_cheapest_lay) .none kV_cheapest_lay dc_cheapest_lay pm_cheapest_lay an_cheapest_lay cd_cheapest_lay ct_cheapest_lay), sl_cheapest_lay⟩)
    {f_fewest_anew : Addr} {oc_fewest_anew kV_fewest_anew dc_fewest_anew pm_fewest_anew cd_fewest_anew ct_fewest_anew : Value} {od_fewest_anew an_fewest_anew : Option Addr} {sl_fewest_anew : Array (Option Value)}
    (a_fewest_anew : PySem.W.nsIn K mainGlobals "fewest_anew" = some (some (.ref f_fewest_anew)))
    (c_fewest_anew : PySem.W.codeIn K cd_fewest_anew "fewest_anew" = true) (k_fewest_anew : PySem.W.keepIn K (.ref f_fewest_anew) = true)
    {T_fewest_anew : Addr} {tc_fewest_anew : Value} {td_fewest_anew : Option Addr} {tn_fewest_anew : Nat} {ts_fewest_anew : Array (Option Value)}
    {tk_fewest_anew_0 : Tok}
    (l_fewest_anew : K.lookup f_fewest_anew = some ⟨oc_fewest_anew, od_fewest_anew, .func (PySem.W.fnOf "fewest_anew" "fewest_anew" (defArgs s_fewest_anew) (defBody s_fewest_anew) (defScope s_fewest_anew) (.ref T_fewest_anew) kV_fewest_anew dc_fewest_anew pm_fewest_anew an_fewest_anew cd_fewest_anew ct_fewest_anew), sl_fewest_anew⟩)
    (t_fewest_anew : K.lookup T_fewest_anew = some ⟨tc_fewest_anew, td_fewest_anew, .seq [.int 30 tk_fewest_anew_0, .none].toArray tn_fewest_anew, ts_fewest_anew⟩)
    {f_law_word : Addr} {oc_law_word kV_law_word dc_law_word pm_law_word cd_law_word ct_law_word : Value} {od_law_word an_law_word : Option Addr} {sl_law_word : Array (Option Value)}
    (a_law_word : PySem.W.nsIn K mainGlobals "_law_word" = some (some (.ref f_law_word)))
    (c_law_word : PySem.W.codeIn K cd_law_word "_law_word" = true) (k_law_word : PySem.W.keepIn K (.ref f_law_word) = true)
    (l_law_word : K.lookup f_law_word = some ⟨oc_law_word, od_law_word, .func (PySem.W.fnOf "_law_word" "_law_word" (defArgs s_law_word) (defBody s_law_word) (defScope s_law_word) .none kV_law_word dc_law_word pm_law_word an_law_word cd_law_word ct_law_word), sl_law_word⟩)
    {f_law_told : Addr} {oc_law_told kV_law_told dc_law_told pm_law_told cd_law_told ct_law_told : Value} {od_law_told an_law_told : Option Addr} {sl_law_told : Array (Option Value)}
    (a_law_told : PySem.W.nsIn K mainGlobals "_law_told" = some (some (.ref f_law_told)))
    (c_law_told : PySem.W.codeIn K cd_law_told "_law_told" = true) (k_law_told : PySem.W.keepIn K (.ref f_law_told) = true)
    (l_law_told : K.lookup f_law_told = some ⟨oc_law_told, od_law_told, .func (PySem.W.fnOf "_law_told" "_law_told" (defArgs s_law_told) (defBody s_law_told) (defScope s_law_told) .none kV_law_told dc_law_told pm_law_told an_law_told cd_law_told ct_law_told), sl_law_told⟩)
    {f_anew_lines : Addr} {oc_anew_lines kV_anew_lines dc_anew_lines pm_anew_lines cd_anew_lines ct_anew_lines : Value} {od_anew_lines an_anew_lines : Option Addr} {sl_anew_lines : Array (Option Value)}
    (a_anew_lines : PySem.W.nsIn K mainGlobals "anew_lines" = some (some (.ref f_anew_lines)))
    (c_anew_lines : PySem.W.codeIn K cd_anew_lines "anew_lines" = true) (k_anew_lines : PySem.W.keepIn K (.ref f_anew_lines) = true)
    (l_anew_lines : K.lookup f_anew_lines = some ⟨oc_anew_lines, od_anew_lines, .func (PySem.W.fnOf "anew_lines" "anew_lines" (defArgs s_anew_lines) (defBody s_anew_lines) (defScope s_anew_lines) .none kV_anew_lines dc_anew_lines pm_anew_lines an_anew_lines cd_anew_lines ct_anew_lines), sl_anew_lines⟩)
    {f_is_number : Addr} {oc_is_number kV_is_number dc_is_number pm_is_number cd_is_number ct_is_number : Value} {od_is_number an_is_number : Option Addr} {sl_is_number : Array (Option Value)}
    (a_is_number : PySem.W.nsIn K mainGlobals "is_number" = some (some (.ref f_is_number)))
    (c_is_number : PySem.W.codeIn K cd_is_number "is_number" = true) (k_is_number : PySem.W.keepIn K (.ref f_is_number) = true)
    (l_is_number : K.lookup f_is_number = some ⟨oc_is_number, od_is_number, .func (PySem.W.fnOf "is_number" "is_number" (defArgs s_is_number) (defBody s_is_number) (defScope s_is_number) .none kV_is_number dc_is_number pm_is_number an_is_number cd_is_number ct_is_number), sl_is_number⟩)
    {f_are_numbers : Addr} {oc_are_numbers kV_are_numbers dc_are_numbers pm_are_numbers cd_are_numbers ct_are_numbers : Value} {od_are_numbers an_are_numbers : Option Addr} {sl_are_numbers : Array (Option Value)}
    (a_are_numbers : PySem.W.nsIn K mainGlobals "are_numbers" = some (some (.ref f_are_numbers)))
    (c_are_numbers : PySem.W.codeIn K cd_are_numbers "are_numbers" = true) (k_are_numbers : PySem.W.keepIn K (.ref f_are_numbers) = true)
    (l_are_numbers : K.lookup f_are_numbers = some ⟨oc_are_numbers, od_are_numbers, .func (PySem.W.fnOf "are_numbers" "are_numbers" (defArgs s_are_numbers) (defBody s_are_numbers) (defScope s_are_numbers) .none kV_are_numbers dc_are_numbers pm_are_numbers an_are_numbers cd_are_numbers ct_are_numbers), sl_are_numbers⟩)
    {f_line_fits : Addr} {oc_line_fits kV_line_fits dc_line_fits pm_line_fits cd_line_fits ct_line_fits : Value} {od_line_fits an_line_fits : Option Addr} {sl_line_fits : Array (Option Value)}
    (a_line_fits : PySem.W.nsIn K mainGlobals "line_fits" = some (some (.ref f_line_fits)))
    (c_line_fits : PySem.W.codeIn K cd_line_fits "line_fits" = true) (k_line_fits : PySem.W.keepIn K (.ref f_line_fits) = true)
    {T_line_fits : Addr} {tc_line_fits : Value} {td_line_fits : Option Addr} {tn_line_fits : Nat} {ts_line_fits : Array (Option Value)}
    {tk_line_fits_0 : Tok}
    (l_line_fits : K.lookup f_line_fits = some ⟨oc_line_fits, od_line_fits, .func (PySem.W.fnOf "line_fits" "line_fits" (defArgs s_line_fits) (defBody s_line_fits) (defScope s_line_fits) (.ref T_line_fits) kV_line_fits dc_line_fits pm_line_fits an_line_fits cd_line_fits ct_line_fits), sl_line_fits⟩)
    (t_line_fits : K.lookup T_line_fits = some ⟨tc_line_fits, td_line_fits, .seq [.int 30 tk_line_fits_0].toArray tn_line_fits, ts_line_fits⟩)
    {f_check_line : Addr} {oc_check_line kV_check_line dc_check_line pm_check_line cd_check_line ct_check_line : Value} {od_check_line an_check_line : Option Addr} {sl_check_line : Array (Option Value)}
    (a_check_line : PySem.W.nsIn K mainGlobals "check_line" = some (some (.ref f_check_line)))
    (c_check_line : PySem.W.codeIn K cd_check_line "check_line" = true) (k_check_line : PySem.W.keepIn K (.ref f_check_line) = true)
    (l_check_line : K.lookup f_check_line = some ⟨oc_check_line, od_check_line, .func (PySem.W.fnOf "check_line" "check_line" (defArgs s_check_line) (defBody s_check_line) (defScope s_check_line) .none kV_check_line dc_check_line pm_check_line an_check_line cd_check_line ct_check_line), sl_check_line⟩)
    {f_check_end : Addr} {oc_check_end kV_check_end dc_check_end pm_check_end cd_check_end ct_check_end : Value} {od_check_end an_check_end : Option Addr} {sl_check_end : Array (Option Value)}
    (a_check_end : PySem.W.nsIn K mainGlobals "check_end" = some (some (.ref f_check_end)))
    (c_check_end : PySem.W.codeIn K cd_check_end "check_end" = true) (k_check_end : PySem.W.keepIn K (.ref f_check_end) = true)
    (l_check_end : K.lookup f_check_end = some ⟨oc_check_end, od_check_end, .func (PySem.W.fnOf "check_end" "check_end" (defArgs s_check_end) (defBody s_check_end) (defScope s_check_end) .none kV_check_end dc_check_end pm_check_end an_check_end cd_check_end ct_check_end), sl_check_end⟩)
    {f_lets_lay : Addr} {oc_lets_lay kV_lets_lay dc_lets_lay pm_lets_lay cd_lets_lay ct_lets_lay : Value} {od_lets_lay an_lets_lay : Option Addr} {sl_lets_lay : Array (Option Value)}
    (a_lets_lay : PySem.W.nsIn K mainGlobals "lets_lay" = some (some (.ref f_lets_lay)))
    (c_lets_lay : PySem.W.codeIn K cd_lets_lay "lets_lay" = true) (k_lets_lay : PySem.W.keepIn K (.ref f_lets_lay) = true)
    {T_lets_lay : Addr} {tc_lets_lay : Value} {td_lets_lay : Option Addr} {tn_lets_lay : Nat} {ts_lets_lay : Array (Option Value)}
    {tk_lets_lay_0 : Tok}
    (l_lets_lay : K.lookup f_lets_lay = some ⟨oc_lets_lay, od_lets_lay, .func (PySem.W.fnOf "lets_lay" "lets_lay" (defArgs s_lets_lay) (defBody s_lets_lay) (defScope s_lets_lay) (.ref T_lets_lay) kV_lets_lay dc_lets_lay pm_lets_lay an_lets_lay cd_lets_lay ct_lets_lay), sl_lets_lay⟩)
    (t_lets_lay : K.lookup T_lets_lay = some ⟨tc_lets_lay, td_lets_lay, .seq [.int 30 tk_lets_lay_0].toArray tn_lets_lay, ts_lets_lay⟩)
    {f_is_lay : Addr} {oc_is_lay kV_is_lay dc_is_lay pm_is_lay cd_is_lay ct_is_lay : Value} {od_is_lay an_is_lay : Option Addr} {sl_is_lay : Array (Option Value)}
    (a_is_lay : PySem.W.nsIn K mainGlobals "is_lay" = some (some (.ref f_is_lay)))
    (c_is_lay : PySem.W.codeIn K cd_is_lay "is_lay" = true) (k_is_lay : PySem.W.keepIn K (.ref f_is_lay) = true)
    (l_is_lay : K.lookup f_is_lay = some ⟨oc_is_lay, od_is_lay, .func (PySem.W.fnOf "is_lay" "is_lay" (defArgs s_is_lay) (defBody s_is_lay) (defScope s_is_lay) .none kV_is_lay dc_is_lay pm_is_lay an_is_lay cd_is_lay ct_is_lay), sl_is_lay⟩)
    {f_is_anew_shape : Addr} {oc_is_anew_shape kV_is_anew_shape dc_is_anew_shape pm_is_anew_shape cd_is_anew_shape ct_is_anew_shape : Value} {od_is_anew_shape an_is_anew_shape : Option Addr} {sl_is_anew_shape : Array (Option Value)}
    (a_is_anew_shape : PySem.W.nsIn K mainGlobals "is_anew_shape" = some (some (.ref f_is_anew_shape)))
    (c_is_anew_shape : PySem.W.codeIn K cd_is_anew_shape "is_anew_shape" = true) (k_is_anew_shape : PySem.W.keepIn K (.ref f_is_anew_shape) = true)
    (l_is_anew_shape : K.lookup f_is_anew_shape = some ⟨oc_is_anew_shape, od_is_anew_shape, .func (PySem.W.fnOf "is_anew_shape" "is_anew_shape" (defArgs s_is_anew_shape) (defBody s_is_anew_shape) (defScope s_is_anew_shape) .none kV_is_anew_shape dc_is_anew_shape pm_is_anew_shape an_is_anew_shape cd_is_anew_shape ct_is_anew_shape), sl_is_anew_shape⟩)
    {f_check_rows : Addr} {oc_check_rows kV_check_rows dc_check_rows pm_check_rows cd_check_rows ct_check_rows : Value} {od_check_rows an_check_rows : Option Addr} {sl_check_rows : Array (Option Value)}
    (a_check_rows : PySem.W.nsIn K mainGlobals "check_rows" = some (some (.ref f_check_rows)))
    (c_check_rows : PySem.W.codeIn K cd_check_rows "check_rows" = true) (k_check_rows : PySem.W.keepIn K (.ref f_check_rows) = true)
    (l_check_rows : K.lookup f_check_rows = some ⟨oc_check_rows, od_check_rows, .func (PySem.W.fnOf "check_rows" "check_rows" (defArgs s_check_rows) (defBody s_check_rows) (defScope s_check_rows) .none kV_check_rows dc_check_rows pm_check_rows an_check_rows cd_check_rows ct_check_rows), sl_check_rows⟩)
    {f_check_prices : Addr} {oc_check_prices kV_check_prices dc_check_prices pm_check_prices cd_check_prices ct_check_prices : Value} {od_check_prices an_check_prices : Option Addr} {sl_check_prices : Array (Option Value)}
    (a_check_prices : PySem.W.nsIn K mainGlobals "check_prices" = some (some (.ref f_check_prices)))
    (c_check_prices : PySem.W.codeIn K cd_check_prices "check_prices" = true) (k_check_prices : PySem.W.keepIn K (.ref f_check_prices) = true)
    (l_check_prices : K.lookup f_check_prices = some ⟨oc_check_prices, od_check_prices, .func (PySem.W.fnOf "check_prices" "check_prices" (defArgs s_check_prices) (defBody s_check_prices) (defScope s_check_prices) .none kV_check_prices dc_check_prices pm_check_prices an_check_prices cd_check_prices ct_check_prices), sl_check_prices⟩)
    {f_lets_anew : Addr} {oc_lets_anew kV_lets_anew dc_lets_anew pm_lets_anew cd_lets_anew ct_lets_anew : Value} {od_lets_anew an_lets_anew : Option Addr} {sl_lets_anew : Array (Option Value)}
    (a_lets_anew : PySem.W.nsIn K mainGlobals "lets_anew" = some (some (.ref f_lets_anew)))
    (c_lets_anew : PySem.W.codeIn K cd_lets_anew "lets_anew" = true) (k_lets_anew : PySem.W.keepIn K (.ref f_lets_anew) = true)
    {T_lets_anew : Addr} {tc_lets_anew : Value} {td_lets_anew : Option Addr} {tn_lets_anew : Nat} {ts_lets_anew : Array (Option Value)}
    {tk_lets_anew_0 : Tok}
    (l_lets_anew : K.lookup f_lets_anew = some ⟨oc_lets_anew, od_lets_anew, .func (PySem.W.fnOf "lets_anew" "lets_anew" (defArgs s_lets_anew) (defBody s_lets_anew) (defScope s_lets_anew) (.ref T_lets_anew) kV_lets_anew dc_lets_anew pm_lets_anew an_lets_anew cd_lets_anew ct_lets_anew), sl_lets_anew⟩)
    (t_lets_anew : K.lookup T_lets_anew = some ⟨tc_lets_anew, td_lets_anew, .seq [.int 30 tk_lets_anew_0, .none].toArray tn_lets_anew, ts_lets_anew⟩)
    {f_law_looked : Addr} {oc_law_looked kV_law_looked dc_law_looked pm_law_looked cd_law_looked ct_law_looked : Value} {od_law_looked an_law_looked : Option Addr} {sl_law_looked : Array (Option Value)}
    (a_law_looked : PySem.W.nsIn K mainGlobals "_law_looked" = some (some (.ref f_law_looked)))
    (c_law_looked : PySem.W.codeIn K cd_law_looked "_law_looked" = true) (k_law_looked : PySem.W.keepIn K (.ref f_law_looked) = true)
    (l_law_looked : K.lookup f_law_looked = some ⟨oc_law_looked, od_law_looked, .func (PySem.W.fnOf "_law_looked" "_law_looked" (defArgs s_law_looked) (defBody s_law_looked) (defScope s_law_looked) .none kV_law_looked dc_law_looked pm_law_looked an_law_looked cd_law_looked ct_law_looked), sl_law_looked⟩)
    {f_law : Addr} {oc_law kV_law dc_law pm_law cd_law ct_law : Value} {od_law an_law : Option Addr} {sl_law : Array (Option Value)}
    (a_law : PySem.W.nsIn K mainGlobals "law" = some (some (.ref f_law)))
    (c_law : PySem.W.codeIn K cd_law "law" = true) (k_law : PySem.W.keepIn K (.ref f_law) = true)
    (l_law : K.lookup f_law = some ⟨oc_law, od_law, .func (PySem.W.fnOf "law" "law" (defArgs s_law) (defBody s_law) (defScope s_law) .none kV_law dc_law pm_law an_law cd_law ct_law), sl_law⟩)
    (z_ValueError : PySem.W.nsIn K mainGlobals "ValueError" = some none)
    (z_all : PySem.W.nsIn K mainGlobals "all" = some none)
    (z_bool : PySem.W.nsIn K mainGlobals "bool" = some none)
    (z_enumerate : PySem.W.nsIn K mainGlobals "enumerate" = some none)
    (z_int : PySem.W.nsIn K mainGlobals "int" = some none)
    (z_isinstance : PySem.W.nsIn K mainGlobals "isinstance" = some none)
    (z_len : PySem.W.nsIn K mainGlobals "len" = some none)
    (z_max : PySem.W.nsIn K mainGlobals "max" = some none)
    (z_min : PySem.W.nsIn K mainGlobals "min" = some none)
    (z_range : PySem.W.nsIn K mainGlobals "range" = some none)
    (z_repr : PySem.W.nsIn K mainGlobals "repr" = some none)
    (z_reversed : PySem.W.nsIn K mainGlobals "reversed" = some none)
    (z_tuple : PySem.W.nsIn K mainGlobals "tuple" = some none)
    {C_NoLay fI_NoLay : Addr} {nm_NoLay q_NoLay : Str} {N_NoLay : Addr} {bs_NoLay : List Value} {sn_NoLay : List Str} {sub_NoLay : List Value} {ab_NoLay : Bool} {col_NoLay : Option Bool} {dd_NoLay : Option Addr} {m0_NoLay m1_NoLay m2_NoLay m3_NoLay m5_NoLay : Option Value} {oci_NoLay kVi_NoLay dci_NoLay pmi_NoLay cdi_NoLay cti_NoLay : Value} {odi_NoLay ani_NoLay : Option Addr} {sli_NoLay : Array (Option Value)}
    {B0_NoLay : Addr}
    (xa_NoLay : PySem.W.nsIn K mainGlobals "NoLay" = some (some (.ref C_NoLay)))
    (xL_NoLay : K.lookup C_NoLay = some (excClassObj nm_NoLay q_NoLay C_NoLay N_NoLay bs_NoLay [.ref B0_NoLay, .type "ValueError", .type "Exception", .type "BaseException", .type "object"] true sn_NoLay sub_NoLay ab_NoLay col_NoLay dd_NoLay m0_NoLay m1_NoLay m2_NoLay m3_NoLay m5_NoLay "ValueError.__new__"))
    (xs_NoLay : PySem.W.findIn K (.ref C_NoLay) "__setattr__" = some (some (.builtin "object.__setattr__"))) (xg_NoLay : PySem.W.findIn K (.ref C_NoLay) "__getattribute__" = some (some (.builtin "BaseException.__getattribute__"))) (xh_NoLay : PySem.W.findIn K (.ref C_NoLay) "__getattr__" = some none)
    (xn_NoLay_word : PySem.W.findIn K (.ref C_NoLay) "word" = some none)
    (xi_NoLay : PySem.W.findIn K (.ref C_NoLay) "__init__" = some (some (.ref fI_NoLay))) (xt_NoLay : PySem.W.typeIn K (.ref fI_NoLay) = some (.type "function"))
    (xl_NoLay : K.lookup fI_NoLay = some ⟨oci_NoLay, odi_NoLay, .func (PySem.W.fnOf "__init__" "NoLay.__init__" (defArgs si_NoLay) (defBody si_NoLay) (defScope si_NoLay) .none kVi_NoLay dci_NoLay pmi_NoLay ani_NoLay cdi_NoLay cti_NoLay), sli_NoLay⟩) (xc_NoLay : PySem.W.codeIn K cdi_NoLay "NoLay.__init__" = true) (xf_NoLay : PySem.W.keepIn K (.ref fI_NoLay) = true)
    (xk_NoLay : PySem.W.keepIn K (.ref C_NoLay) = true) (xe_NoLay : PySem.W.subIn K (.ref C_NoLay) (.type "BaseException") = some true) (xy_NoLay : PySem.W.typeIn K (.ref C_NoLay) = some (.type "type")) (xd_NoLay : PySem.W.hasDictIn K C_NoLay = true) (xo_NoLay : PySem.W.isClsIn K C_NoLay = true) (xz_NoLay : PySem.W.subIn K (.ref C_NoLay) (.ref C_NoLay) = some true)
    {C_NoPaper fI_NoPaper : Addr} {nm_NoPaper q_NoPaper : Str} {N_NoPaper : Addr} {bs_NoPaper : List Value} {sn_NoPaper : List Str} {sub_NoPaper : List Value} {ab_NoPaper : Bool} {col_NoPaper : Option Bool} {dd_NoPaper : Option Addr} {m0_NoPaper m1_NoPaper m2_NoPaper m3_NoPaper m5_NoPaper : Option Value} {oci_NoPaper kVi_NoPaper dci_NoPaper pmi_NoPaper cdi_NoPaper cti_NoPaper : Value} {odi_NoPaper ani_NoPaper : Option Addr} {sli_NoPaper : Array (Option Value)}
    {B0_NoPaper : Addr}
    (xa_NoPaper : PySem.W.nsIn K mainGlobals "NoPaper" = some (some (.ref C_NoPaper)))
    (xL_NoPaper : K.lookup C_NoPaper = some (excClassObj nm_NoPaper q_NoPaper C_NoPaper N_NoPaper bs_NoPaper [.ref B0_NoPaper, .type "ValueError", .type "Exception", .type "BaseException", .type "object"] true sn_NoPaper sub_NoPaper ab_NoPaper col_NoPaper dd_NoPaper m0_NoPaper m1_NoPaper m2_NoPaper m3_NoPaper m5_NoPaper "ValueError.__new__"))
    (xs_NoPaper : PySem.W.findIn K (.ref C_NoPaper) "__setattr__" = some (some (.builtin "object.__setattr__"))) (xg_NoPaper : PySem.W.findIn K (.ref C_NoPaper) "__getattribute__" = some (some (.builtin "BaseException.__getattribute__"))) (xh_NoPaper : PySem.W.findIn K (.ref C_NoPaper) "__getattr__" = some none)
    (xn_NoPaper_word : PySem.W.findIn K (.ref C_NoPaper) "word" = some none)
    (xn_NoPaper_at : PySem.W.findIn K (.ref C_NoPaper) "at" = some none)
    (xi_NoPaper : PySem.W.findIn K (.ref C_NoPaper) "__init__" = some (some (.ref fI_NoPaper))) (xt_NoPaper : PySem.W.typeIn K (.ref fI_NoPaper) = some (.type "function"))
    (xl_NoPaper : K.lookup fI_NoPaper = some ⟨oci_NoPaper, odi_NoPaper, .func (PySem.W.fnOf "__init__" "NoPaper.__init__" (defArgs si_NoPaper) (defBody si_NoPaper) (defScope si_NoPaper) .none kVi_NoPaper dci_NoPaper pmi_NoPaper ani_NoPaper cdi_NoPaper cti_NoPaper), sli_NoPaper⟩) (xc_NoPaper : PySem.W.codeIn K cdi_NoPaper "NoPaper.__init__" = true) (xf_NoPaper : PySem.W.keepIn K (.ref fI_NoPaper) = true)
    (xk_NoPaper : PySem.W.keepIn K (.ref C_NoPaper) = true) (xe_NoPaper : PySem.W.subIn K (.ref C_NoPaper) (.type "BaseException") = some true) (xy_NoPaper : PySem.W.typeIn K (.ref C_NoPaper) = some (.type "type")) (xd_NoPaper : PySem.W.hasDictIn K C_NoPaper = true) (xo_NoPaper : PySem.W.isClsIn K C_NoPaper = true) (xz_NoPaper : PySem.W.subIn K (.ref C_NoPaper) (.ref C_NoPaper) = some true)
    {C_LackError : Addr} (w_LackError : PySem.W.nsIn K mainGlobals "LackError" = some (some (.ref C_LackError)))
    {C_LeftError : Addr} (w_LeftError : PySem.W.nsIn K mainGlobals "LeftError" = some (some (.ref C_LeftError)))
    (en : PySem.W.specialIn K (.builtin "object.__class__") "__get__" = some (some (.builtin "getset_descriptor.__get__"))) (et : PySem.W.takesIn K (.builtin "object.__class__") = some true)
    (ic_NoLay : PySem.W.isClsIn K C_NoLay = true) (iy_NoLay : PySem.W.typeIn K (.ref C_NoLay) = some (.type "type"))
    (ic_NoPaper : PySem.W.isClsIn K C_NoPaper = true) (iy_NoPaper : PySem.W.typeIn K (.ref C_NoPaper) = some (.type "type"))
    (ic_LackError : PySem.W.isClsIn K C_LackError = true) (iy_LackError : PySem.W.typeIn K (.ref C_LackError) = some (.type "type"))
    (ic_LeftError : PySem.W.isClsIn K C_LeftError = true) (iy_LeftError : PySem.W.typeIn K (.ref C_LeftError) = some (.type "type"))
    (ie_LeftError : PySem.W.subIn K (.ref C_LeftError) (.type "BaseException") = some true)
    (ea : PySem.W.findIn K (.ref C_NoLay) "__class__" = some (some (.builtin "object.__class__"))) (em : PySem.W.mroIn K C_NoLay (.type "object") = some true)
    (is_NoLay : PySem.W.subIn K (.ref C_NoLay) (.ref C_NoLay) = some true)
    (is_NoPaper : PySem.W.subIn K (.ref C_NoLay) (.ref C_NoPaper) = some false)
    (is_LackError : PySem.W.subIn K (.ref C_NoLay) (.ref C_LackError) = some false)
    (is_LeftError : PySem.W.subIn K (.ref C_NoLay) (.ref C_LeftError) = some true)
    (is_ValueError : PySem.W.subIn K (.ref C_NoLay) (.type "ValueError") = some true)
    (ea_NoPaper : PySem.W.findIn K (.ref C_NoPaper) "__class__" = some (some (.builtin "object.__class__"))) (em_NoPaper : PySem.W.mroIn K C_NoPaper (.type "object") = some true)
    (is_NoPaper_NoLay : PySem.W.subIn K (.ref C_NoPaper) (.ref C_NoLay) = some false)
    (is_NoPaper_NoPaper : PySem.W.subIn K (.ref C_NoPaper) (.ref C_NoPaper) = some true)
    (is_NoPaper_LackError : PySem.W.subIn K (.ref C_NoPaper) (.ref C_LackError) = some false)
    (is_NoPaper_LeftError : PySem.W.subIn K (.ref C_NoPaper) (.ref C_LeftError) = some true)
    (is_NoPaper_ValueError : PySem.W.subIn K (.ref C_NoPaper) (.type "ValueError") = some true)
    : ∃ T : Facts K mg, T.f_law = f_law := by
  have oe_NoLay : OexC K C_NoLay := ⟨⟨nm_NoLay, q_NoLay, N_NoLay, bs_NoLay, _, sn_NoLay, sub_NoLay, ab_NoLay, col_NoLay, dd_NoLay, m0_NoLay, m1_NoLay, m2_NoLay, m3_NoLay, m5_NoLay, xL_NoLay, by first | rfl | (show PySem.HandSPX.refsVE [.type "ValueError", .type "Exception", .type "BaseException", .type "object"] = true; decide +kernel)⟩, xs_NoLay, xe_NoLay, xy_NoLay, xk_NoLay⟩
  have oe_NoPaper : OexC K C_NoPaper := ⟨⟨nm_NoPaper, q_NoPaper, N_NoPaper, bs_NoPaper, _, sn_NoPaper, sub_NoPaper, ab_NoPaper, col_NoPaper, dd_NoPaper, m0_NoPaper, m1_NoPaper, m2_NoPaper, m3_NoPaper, m5_NoPaper, xL_NoPaper, by first | rfl | (show PySem.HandSPX.refsVE [.type "ValueError", .type "Exception", .type "BaseException", .type "object"] = true; decide +kernel)⟩, xs_NoPaper, xe_NoPaper, xy_NoPaper, xk_NoPaper⟩
  refine ⟨{
    f_law_feed := f_law_feed, fd_law_feed := _, F_law_feed := fun_mk (st := s_law_feed) l_law_feed c_law_feed k_law_feed, g_law_feed := PySem.W.mg_of X G a_law_feed
    b_law_feed := (fun_mk (st := s_law_feed) l_law_feed c_law_feed k_law_feed).binds (ps := ["_law_script"]) fun _ _ _ _ _ _ us hl => match us, hl with | [_], _ => rfl
    f_law_draw := f_law_draw, fd_law_draw := _, F_law_draw := fun_mk (st := s_law_draw) l_law_draw c_law_draw k_law_draw, g_law_draw := PySem.W.mg_of X G a_law_draw
    b_law_draw := (fun_mk (st := s_law_draw) l_law_draw c_law_draw k_law_draw).binds (ps := ["_law_feed_here", "_law_many"]) fun _ _ _ _ _ _ us hl => match us, hl with | [_, _], _ => rfl
    f_law_same := f_law_same, fd_law_same := _, F_law_same := fun_mk (st := s_law_same) l_law_same c_law_same k_law_same, g_law_same := PySem.W.mg_of X G a_law_same
    b_law_same := (fun_mk (st := s_law_same) l_law_same c_law_same k_law_same).binds (ps := ["_law_found", "_law_due"]) fun _ _ _ _ _ _ us hl => match us, hl with | [_, _], _ => rfl
    f_law_words := f_law_words, fd_law_words := _, F_law_words := fun_mk (st := s_law_words) l_law_words c_law_words k_law_words, g_law_words := PySem.W.mg_of X G a_law_words
    b_law_words := (fun_mk (st := s_law_words) l_law_words c_law_words k_law_words).binds (ps := ["_law_feed_here", "_law_many"]) fun _ _ _ _ _ _ us hl => match us, hl with | [_, _], _ => rfl
    f_law_size := f_law_size, fd_law_size := _, F_law_size := fun_mk (st := s_law_size) l_law_size c_law_size k_law_size, g_law_size := PySem.W.mg_of X G a_law_size
    b_law_size := (fun_mk (st := s_law_size) l_law_size c_law_size k_law_size).binds (ps := ["_law_feed_here"]) fun _ _ _ _ _ _ us hl => match us, hl with | [_], _ => rfl
    f_law_end := f_law_end, fd_law_end := _, F_law_end := fun_mk (st := s_law_end) l_law_end c_law_end k_law_end, g_law_end := PySem.W.mg_of X G a_law_end
    b_law_end := (fun_mk (st := s_law_end) l_law_end c_law_end k_law_end).binds (ps := ["_law_words_here", "_law_first", "_law_space_here"]) fun _ _ _ _ _ _ us hl => match us, hl with | [_, _, _], _ => rfl
    f_law_space := f_law_space, fd_law_space := _, F_law_space := fun_mk (st := s_law_space) l_law_space c_law_space k_law_space, g_law_space := PySem.W.mg_of X G a_law_space
    b_law_space := (fun_mk (st := s_law_space) l_law_space c_law_space k_law_space).binds (ps := ["_law_section", "_law_i", "_law_width"]) fun _ _ _ _ _ _ us hl => match us, hl with | [_, _, _], _ => rfl
    f_law_lay := f_law_lay, fd_law_lay := _, F_law_lay := fun_mk (st := s_law_lay) l_law_lay c_law_lay k_law_lay, g_law_lay := PySem.W.mg_of X G a_law_lay
    b_law_lay := (fun_mk (st := s_law_lay) l_law_lay c_law_lay k_law_lay).binds (ps := ["_law_feed_here", "_law_section", "_law_width"]) fun _ _ _ _ _ _ us hl => match us, hl with | [_, _, _], _ => rfl
    f_law_sized := f_law_sized, fd_law_sized := _, F_law_sized := fun_mk (st := s_law_sized) l_law_sized c_law_sized k_law_sized, g_law_sized := PySem.W.mg_of X G a_law_sized
    b_law_sized := (fun_mk (st := s_law_sized) l_law_sized c_law_sized k_law_sized).binds (ps := ["_law_section", "_law_size_here"]) fun _ _ _ _ _ _ us hl => match us, hl with | [_, _], _ => rfl
    f_law_bent := f_law_bent, fd_law_bent := _, F_law_bent := fun_mk (st := s_law_bent) l_law_bent c_law_bent k_law_bent, g_law_bent := PySem.W.mg_of X G a_law_bent
    b_law_bent := (fun_mk (st := s_law_bent) l_law_bent c_law_bent k_law_bent).binds (ps := ["_law_section", "_law_width"]) fun _ _ _ _ _ _ us hl => match us, hl with | [_, _], _ => rfl
    f_resized := f_resized, fd_resized := _, F_resized := fun_mk (st := s_resized) l_resized c_resized k_resized, g_resized := PySem.W.mg_of X G a_resized
    b_resized := (fun_mk (st := s_resized) l_resized c_resized k_resized).binds (ps := ["section", "high", "wide"]) fun _ _ _ _ _ _ us hl => match us, hl with | [_, _, _], _ => rfl
    f_begins := f_begins, fd_begins := _, F_begins := fun_mk (st := s_begins) l_begins c_begins k_begins, g_begins := PySem.W.mg_of X G a_begins
    b_begins := (fun_mk (st := s_begins) l_begins c_begins k_begins).binds (ps := ["section", "i"]) fun _ _ _ _ _ _ us hl => match us, hl with | [_, _], _ => rfl
    f_room := f_room, fd_room := _, F_room := (fund_mk (st := s_room) (dvs := [.int 30]) l_room c_room k_room t_room (fun z => nomatch z) (.cons ⟨_, rfl⟩ .nil)), g_room := PySem.W.mg_of X G a_room
    b_room := bnd_full (ps := ["section", "i", "width"]) (fund_mk (st := s_room) (dvs := [.int 30]) l_room c_room k_room t_room (fun z => nomatch z) (.cons ⟨_, rfl⟩ .nil)) 3 (fun z => nomatch z) rfl fun _ _ _ _ _ _ _ us its hl hi => match us, hl, its, hi with | [_, _, _], _, [_], _ => ⟨_, rfl, rfl⟩
    e1_room := FunD.binds1 (ps := ["section", "i", "width"]) (fund_mk (st := s_room) (dvs := [.int 30]) l_room c_room k_room t_room (fun z => nomatch z) (.cons ⟨_, rfl⟩ .nil)) 2 0 (fun z => nomatch z) rfl fun _ _ _ _ _ _ _ us its hl hi => match us, hl, its, hi with | [_, _], _, [_], _ => ⟨_, rfl, rfl⟩
    f_refuse_longer := f_refuse_longer, fd_refuse_longer := _, F_refuse_longer := fun_mk (st := s_refuse_longer) l_refuse_longer c_refuse_longer k_refuse_longer, g_refuse_longer := PySem.W.mg_of X G a_refuse_longer
    b_refuse_longer := (fun_mk (st := s_refuse_longer) l_refuse_longer c_refuse_longer k_refuse_longer).binds (ps := ["words", "width"]) fun _ _ _ _ _ _ us hl => match us, hl with | [_, _], _ => rfl
    f_fill_line := f_fill_line, fd_fill_line := _, F_fill_line := fun_mk (st := s_fill_line) l_fill_line c_fill_line k_fill_line, g_fill_line := PySem.W.mg_of X G a_fill_line
    b_fill_line := (fun_mk (st := s_fill_line) l_fill_line c_fill_line k_fill_line).binds (ps := ["words", "first", "signs"]) fun _ _ _ _ _ _ us hl => match us, hl with | [_, _, _], _ => rfl
    f_bent := f_bent, fd_bent := _, F_bent := (fund_mk (st := s_bent) (dvs := [.int 30]) l_bent c_bent k_bent t_bent (fun z => nomatch z) (.cons ⟨_, rfl⟩ .nil)), g_bent := PySem.W.mg_of X G a_bent
    b_bent := bnd_full (ps := ["section", "width"]) (fund_mk (st := s_bent) (dvs := [.int 30]) l_bent c_bent k_bent t_bent (fun z => nomatch z) (.cons ⟨_, rfl⟩ .nil)) 2 (fun z => nomatch z) rfl fun _ _ _ _ _ _ _ us its hl hi => match us, hl, its, hi with | [_, _], _, [_], _ => ⟨_, rfl, rfl⟩
    e1_bent := FunD.binds1 (ps := ["section", "width"]) (fund_mk (st := s_bent) (dvs := [.int 30]) l_bent c_bent k_bent t_bent (fun z => nomatch z) (.cons ⟨_, rfl⟩ .nil)) 1 0 (fun z => nomatch z) rfl fun _ _ _ _ _ _ _ us its hl hi => match us, hl, its, hi with | [_], _, [_], _ => ⟨_, rfl, rfl⟩
    f_most_lines := f_most_lines, fd_most_lines := _, F_most_lines := fun_mk (st := s_most_lines) l_most_lines c_most_lines k_most_lines, g_most_lines := PySem.W.mg_of X G a_most_lines
    b_most_lines := (fun_mk (st := s_most_lines) l_most_lines c_most_lines k_most_lines).binds (ps := ["other", "lay", "width", "most"]) fun _ _ _ _ _ _ us hl => match us, hl with | [_, _, _, _], _ => rfl
    f_first_word := f_first_word, fd_first_word := _, F_first_word := fun_mk (st := s_first_word) l_first_word c_first_word k_first_word, g_first_word := PySem.W.mg_of X G a_first_word
    b_first_word := (fun_mk (st := s_first_word) l_first_word c_first_word k_first_word).binds (ps := ["lay", "i"]) fun _ _ _ _ _ _ us hl => match us, hl with | [_, _], _ => rfl
    f_line_step := f_line_step, fd_line_step := _, F_line_step := fun_mk (st := s_line_step) l_line_step c_line_step k_line_step, g_line_step := PySem.W.mg_of X G a_line_step
    b_line_step := (fun_mk (st := s_line_step) l_line_step c_line_step k_line_step).binds (ps := ["lay", "i"]) fun _ _ _ _ _ _ us hl => match us, hl with | [_, _], _ => rfl
    f_is_void := f_is_void, fd_is_void := _, F_is_void := fun_mk (st := s_is_void) l_is_void c_is_void k_is_void, g_is_void := PySem.W.mg_of X G a_is_void
    b_is_void := (fun_mk (st := s_is_void) l_is_void c_is_void k_is_void).binds (ps := ["step"]) fun _ _ _ _ _ _ us hl => match us, hl with | [_], _ => rfl
    f_is_kept := f_is_kept, fd_is_kept := _, F_is_kept := fun_mk (st := s_is_kept) l_is_kept c_is_kept k_is_kept, g_is_kept := PySem.W.mg_of X G a_is_kept
    b_is_kept := (fun_mk (st := s_is_kept) l_is_kept c_is_kept k_is_kept).binds (ps := ["section", "lay", "other", "i", "step"]) fun _ _ _ _ _ _ us hl => match us, hl with | [_, _, _, _, _], _ => rfl
    f_priced_steps := f_priced_steps, fd_priced_steps := _, F_priced_steps := fun_mk (st := s_priced_steps) l_priced_steps c_priced_steps k_priced_steps, g_priced_steps := PySem.W.mg_of X G a_priced_steps
    b_priced_steps := (fun_mk (st := s_priced_steps) l_priced_steps c_priced_steps k_priced_steps).binds (ps := ["section", "lay", "other", "i", "width", "most"]) fun _ _ _ _ _ _ us hl => match us, hl with | [_, _, _, _, _, _], _ => rfl
    f_prices_ahead := f_prices_ahead, fd_prices_ahead := _, F_prices_ahead := fun_mk (st := s_prices_ahead) l_prices_ahead c_prices_ahead k_prices_ahead, g_prices_ahead := PySem.W.mg_of X G a_prices_ahead
    b_prices_ahead := (fun_mk (st := s_prices_ahead) l_prices_ahead c_prices_ahead k_prices_ahead).binds (ps := ["steps", "behind"]) fun _ _ _ _ _ _ us hl => match us, hl with | [_, _], _ => rfl
    f_least_prices := f_least_prices, fd_least_prices := _, F_least_prices := fun_mk (st := s_least_prices) l_least_prices c_least_prices k_least_prices, g_least_prices := PySem.W.mg_of X G a_least_prices
    b_least_prices := (fun_mk (st := s_least_prices) l_least_prices c_least_prices k_least_prices).binds (ps := ["lines", "many"]) fun _ _ _ _ _ _ us hl => match us, hl with | [_, _], _ => rfl
    f_cheapest_lay := f_cheapest_lay, fd_cheapest_lay := _, F_cheapest_lay := fun_mk (st := s_cheapest_lay) l_cheapest_lay c_cheapest_lay k_cheapest_lay, g_cheapest_lay := PySem.W.mg_of X G a_cheapest_lay
    b_cheapest_lay := (fun_mk (st := s_cheapest_lay) l_cheapest_lay c_cheapest_lay k_cheapest_lay).binds (ps := ["lines", "prices", "high"]) fun _ _ _ _ _ _ us hl => match us, hl with | [_, _, _], _ => rfl
    f_fewest_anew := f_fewest_anew, fd_fewest_anew := _, F_fewest_anew := (fund_mk (st := s_fewest_anew) (dvs := [.int 30, .non]) l_fewest_anew c_fewest_anew k_fewest_anew t_fewest_anew (fun z => nomatch z) (.cons ⟨_, rfl⟩ (.cons rfl .nil))), g_fewest_anew := PySem.W.mg_of X G a_fewest_anew
    b_fewest_anew := bnd_full (ps := ["section", "lay", "high", "wide", "width", "most"]) (fund_mk (st := s_fewest_anew) (dvs := [.int 30, .non]) l_fewest_anew c_fewest_anew k_fewest_anew t_fewest_anew (fun z => nomatch z) (.cons ⟨_, rfl⟩ (.cons rfl .nil))) 6 (fun z => nomatch z) rfl fun _ _ _ _ _ _ _ us its hl hi => match us, hl, its, hi with | [_, _, _, _, _, _], _, [_, _], _ => ⟨_, rfl, rfl⟩
    e1_fewest_anew := FunD.binds1 (ps := ["section", "lay", "high", "wide", "width", "most"]) (fund_mk (st := s_fewest_anew) (dvs := [.int 30, .non]) l_fewest_anew c_fewest_anew k_fewest_anew t_fewest_anew (fun z => nomatch z) (.cons ⟨_, rfl⟩ (.cons rfl .nil))) 5 1 (fun z => nomatch z) rfl fun _ _ _ _ _ _ _ us its hl hi => match us, hl, its, hi with | [_, _, _, _, _], _, [_, _], _ => ⟨_, rfl, rfl⟩
    e2_fewest_anew := FunD.binds1 (ps := ["section", "lay", "high", "wide", "width", "most"]) (fund_mk (st := s_fewest_anew) (dvs := [.int 30, .non]) l_fewest_anew c_fewest_anew k_fewest_anew t_fewest_anew (fun z => nomatch z) (.cons ⟨_, rfl⟩ (.cons rfl .nil))) 4 0 (fun z => nomatch z) rfl fun _ _ _ _ _ _ _ us its hl hi => match us, hl, its, hi with | [_, _, _, _], _, [_, _], _ => ⟨_, rfl, rfl⟩
    f_law_word := f_law_word, fd_law_word := _, F_law_word := fun_mk (st := s_law_word) l_law_word c_law_word k_law_word, g_law_word := PySem.W.mg_of X G a_law_word
    b_law_word := (fun_mk (st := s_law_word) l_law_word c_law_word k_law_word).binds (ps := ["_law_e"]) fun _ _ _ _ _ _ us hl => match us, hl with | [_], _ => rfl
    f_law_told := f_law_told, fd_law_told := _, F_law_told := fun_mk (st := s_law_told) l_law_told c_law_told k_law_told, g_law_told := PySem.W.mg_of X G a_law_told
    b_law_told := (fun_mk (st := s_law_told) l_law_told c_law_told k_law_told).binds (ps := ["_law_section", "_law_lay_here", "_law_size_here", "_law_width", "_law_most"]) fun _ _ _ _ _ _ us hl => match us, hl with | [_, _, _, _, _], _ => rfl
    f_anew_lines := f_anew_lines, fd_anew_lines := _, F_anew_lines := fun_mk (st := s_anew_lines) l_anew_lines c_anew_lines k_anew_lines, g_anew_lines := PySem.W.mg_of X G a_anew_lines
    b_anew_lines := (fun_mk (st := s_anew_lines) l_anew_lines c_anew_lines k_anew_lines).binds (ps := ["section", "lay", "high", "wide", "newer"]) fun _ _ _ _ _ _ us hl => match us, hl with | [_, _, _, _, _], _ => rfl
    f_is_number := f_is_number, fd_is_number := _, F_is_number := fun_mk (st := s_is_number) l_is_number c_is_number k_is_number, g_is_number := PySem.W.mg_of X G a_is_number
    b_is_number := (fun_mk (st := s_is_number) l_is_number c_is_number k_is_number).binds (ps := ["thing"]) fun _ _ _ _ _ _ us hl => match us, hl with | [_], _ => rfl
    f_are_numbers := f_are_numbers, fd_are_numbers := _, F_are_numbers := fun_mk (st := s_are_numbers) l_are_numbers c_are_numbers k_are_numbers, g_are_numbers := PySem.W.mg_of X G a_are_numbers
    b_are_numbers := (fun_mk (st := s_are_numbers) l_are_numbers c_are_numbers k_are_numbers).binds (ps := ["thing"]) fun _ _ _ _ _ _ us hl => match us, hl with | [_], _ => rfl
    f_line_fits := f_line_fits, fd_line_fits := _, F_line_fits := (fund_mk (st := s_line_fits) (dvs := [.int 30]) l_line_fits c_line_fits k_line_fits t_line_fits (fun z => nomatch z) (.cons ⟨_, rfl⟩ .nil)), g_line_fits := PySem.W.mg_of X G a_line_fits
    b_line_fits := bnd_full (ps := ["section", "i", "words", "width"]) (fund_mk (st := s_line_fits) (dvs := [.int 30]) l_line_fits c_line_fits k_line_fits t_line_fits (fun z => nomatch z) (.cons ⟨_, rfl⟩ .nil)) 4 (fun z => nomatch z) rfl fun _ _ _ _ _ _ _ us its hl hi => match us, hl, its, hi with | [_, _, _, _], _, [_], _ => ⟨_, rfl, rfl⟩
    e1_line_fits := FunD.binds1 (ps := ["section", "i", "words", "width"]) (fund_mk (st := s_line_fits) (dvs := [.int 30]) l_line_fits c_line_fits k_line_fits t_line_fits (fun z => nomatch z) (.cons ⟨_, rfl⟩ .nil)) 3 0 (fun z => nomatch z) rfl fun _ _ _ _ _ _ _ us its hl hi => match us, hl, its, hi with | [_, _, _], _, [_], _ => ⟨_, rfl, rfl⟩
    f_check_line := f_check_line, fd_check_line := _, F_check_line := fun_mk (st := s_check_line) l_check_line c_check_line k_check_line, g_check_line := PySem.W.mg_of X G a_check_line
    b_check_line := (fun_mk (st := s_check_line) l_check_line c_check_line k_check_line).binds (ps := ["section", "i", "ahead", "many", "width"]) fun _ _ _ _ _ _ us hl => match us, hl with | [_, _, _, _, _], _ => rfl
    f_check_end := f_check_end, fd_check_end := _, F_check_end := fun_mk (st := s_check_end) l_check_end c_check_end k_check_end, g_check_end := PySem.W.mg_of X G a_check_end
    b_check_end := (fun_mk (st := s_check_end) l_check_end c_check_end k_check_end).binds (ps := ["section", "lay"]) fun _ _ _ _ _ _ us hl => match us, hl with | [_, _], _ => rfl
    f_lets_lay := f_lets_lay, fd_lets_lay := _, F_lets_lay := (fund_mk (st := s_lets_lay) (dvs := [.int 30]) l_lets_lay c_lets_lay k_lets_lay t_lets_lay (fun z => nomatch z) (.cons ⟨_, rfl⟩ .nil)), g_lets_lay := PySem.W.mg_of X G a_lets_lay
    b_lets_lay := bnd_full (ps := ["section", "thing", "width"]) (fund_mk (st := s_lets_lay) (dvs := [.int 30]) l_lets_lay c_lets_lay k_lets_lay t_lets_lay (fun z => nomatch z) (.cons ⟨_, rfl⟩ .nil)) 3 (fun z => nomatch z) rfl fun _ _ _ _ _ _ _ us its hl hi => match us, hl, its, hi with | [_, _, _], _, [_], _ => ⟨_, rfl, rfl⟩
    e1_lets_lay := FunD.binds1 (ps := ["section", "thing", "width"]) (fund_mk (st := s_lets_lay) (dvs := [.int 30]) l_lets_lay c_lets_lay k_lets_lay t_lets_lay (fun z => nomatch z) (.cons ⟨_, rfl⟩ .nil)) 2 0 (fun z => nomatch z) rfl fun _ _ _ _ _ _ _ us its hl hi => match us, hl, its, hi with | [_, _], _, [_], _ => ⟨_, rfl, rfl⟩
    f_is_lay := f_is_lay, fd_is_lay := _, F_is_lay := fun_mk (st := s_is_lay) l_is_lay c_is_lay k_is_lay, g_is_lay := PySem.W.mg_of X G a_is_lay
    b_is_lay := (fun_mk (st := s_is_lay) l_is_lay c_is_lay k_is_lay).binds (ps := ["section", "thing", "width"]) fun _ _ _ _ _ _ us hl => match us, hl with | [_, _, _], _ => rfl
    f_is_anew_shape := f_is_anew_shape, fd_is_anew_shape := _, F_is_anew_shape := fun_mk (st := s_is_anew_shape) l_is_anew_shape c_is_anew_shape k_is_anew_shape, g_is_anew_shape := PySem.W.mg_of X G a_is_anew_shape
    b_is_anew_shape := (fun_mk (st := s_is_anew_shape) l_is_anew_shape c_is_anew_shape k_is_anew_shape).binds (ps := ["thing"]) fun _ _ _ _ _ _ us hl => match us, hl with | [_], _ => rfl
    f_check_rows := f_check_rows, fd_check_rows := _, F_check_rows := fun_mk (st := s_check_rows) l_check_rows c_check_rows k_check_rows, g_check_rows := PySem.W.mg_of X G a_check_rows
    b_check_rows := (fun_mk (st := s_check_rows) l_check_rows c_check_rows k_check_rows).binds (ps := ["prices", "rows", "counts"]) fun _ _ _ _ _ _ us hl => match us, hl with | [_, _, _], _ => rfl
    f_check_prices := f_check_prices, fd_check_prices := _, F_check_prices := fun_mk (st := s_check_prices) l_check_prices c_check_prices k_check_prices, g_check_prices := PySem.W.mg_of X G a_check_prices
    b_check_prices := (fun_mk (st := s_check_prices) l_check_prices c_check_prices k_check_prices).binds (ps := ["prices", "i", "steps"]) fun _ _ _ _ _ _ us hl => match us, hl with | [_, _, _], _ => rfl
    f_lets_anew := f_lets_anew, fd_lets_anew := _, F_lets_anew := (fund_mk (st := s_lets_anew) (dvs := [.int 30, .non]) l_lets_anew c_lets_anew k_lets_anew t_lets_anew (fun z => nomatch z) (.cons ⟨_, rfl⟩ (.cons rfl .nil))), g_lets_anew := PySem.W.mg_of X G a_lets_anew
    b_lets_anew := bnd_full (ps := ["section", "lay", "high", "wide", "thing", "width", "most"]) (fund_mk (st := s_lets_anew) (dvs := [.int 30, .non]) l_lets_anew c_lets_anew k_lets_anew t_lets_anew (fun z => nomatch z) (.cons ⟨_, rfl⟩ (.cons rfl .nil))) 7 (fun z => nomatch z) rfl fun _ _ _ _ _ _ _ us its hl hi => match us, hl, its, hi with | [_, _, _, _, _, _, _], _, [_, _], _ => ⟨_, rfl, rfl⟩
    e1_lets_anew := FunD.binds1 (ps := ["section", "lay", "high", "wide", "thing", "width", "most"]) (fund_mk (st := s_lets_anew) (dvs := [.int 30, .non]) l_lets_anew c_lets_anew k_lets_anew t_lets_anew (fun z => nomatch z) (.cons ⟨_, rfl⟩ (.cons rfl .nil))) 6 1 (fun z => nomatch z) rfl fun _ _ _ _ _ _ _ us its hl hi => match us, hl, its, hi with | [_, _, _, _, _, _], _, [_, _], _ => ⟨_, rfl, rfl⟩
    e2_lets_anew := FunD.binds1 (ps := ["section", "lay", "high", "wide", "thing", "width", "most"]) (fund_mk (st := s_lets_anew) (dvs := [.int 30, .non]) l_lets_anew c_lets_anew k_lets_anew t_lets_anew (fun z => nomatch z) (.cons ⟨_, rfl⟩ (.cons rfl .nil))) 5 0 (fun z => nomatch z) rfl fun _ _ _ _ _ _ _ us its hl hi => match us, hl, its, hi with | [_, _, _, _, _], _, [_, _], _ => ⟨_, rfl, rfl⟩
    f_law_looked := f_law_looked, fd_law_looked := _, F_law_looked := fun_mk (st := s_law_looked) l_law_looked c_law_looked k_law_looked, g_law_looked := PySem.W.mg_of X G a_law_looked
    b_law_looked := (fun_mk (st := s_law_looked) l_law_looked c_law_looked k_law_looked).binds (ps := ["_law_section", "_law_lay_here", "_law_size_here", "_law_thing", "_law_width", "_law_most"]) fun _ _ _ _ _ _ us hl => match us, hl with | [_, _, _, _, _, _], _ => rfl
    f_law := f_law, fd_law := _, F_law := fun_mk (st := s_law) l_law c_law k_law, g_law := PySem.W.mg_of X G a_law
    b_law := (fun_mk (st := s_law) l_law c_law k_law).binds (ps := ["_law_script"]) fun _ _ _ _ _ _ us hl => match us, hl with | [_], _ => rfl
    m_ValueError := PySem.W.mg_none_of X G z_ValueError
    m_all := PySem.W.mg_none_of X G z_all
    m_bool := PySem.W.mg_none_of X G z_bool
    m_enumerate := PySem.W.mg_none_of X G z_enumerate
    m_int := PySem.W.mg_none_of X G z_int
    m_isinstance := PySem.W.mg_none_of X G z_isinstance
    m_len := PySem.W.mg_none_of X G z_len
    m_max := PySem.W.mg_none_of X G z_max
    m_min := PySem.W.mg_none_of X G z_min
    m_range := PySem.W.mg_none_of X G z_range
    m_repr := PySem.W.mg_none_of X G z_repr
    m_reversed := PySem.W.mg_none_of X G z_reversed
    m_tuple := PySem.W.mg_none_of X G z_tuple
    C_NoLay := C_NoLay, fI_NoLay := fI_NoLay, fdI_NoLay := _
    X_NoLay := { gC := PySem.W.mg_of X G xa_NoLay, oe := .inl oe_NoLay, xf := ⟨xg_NoLay, xh_NoLay, xe_NoLay, xd_NoLay⟩, no := (fun f hf => by simp only [List.mem_cons, List.not_mem_nil, or_false] at hf; first | (subst hf; assumption) | (rcases hf with rfl | rfl <;> assumption)), iC := xi_NoLay, tI := xt_NoLay, ex := exm_self xe_NoLay xo_NoLay xy_NoLay xz_NoLay, b := (fun_mk (st := si_NoLay) xl_NoLay xc_NoLay xf_NoLay).binds (ps := ["self", "word"]) fun _ _ _ _ _ _ us hl => match us, hl with | [_, _], _ => rfl, ok := fun P w base => (fun_mk (st := si_NoLay) xl_NoLay xc_NoLay xf_NoLay).ok sci_NoLay (fun _ _ _ _ h => spInit_len h) fun cdv A outer s H vs Q E hr h => ⟨_, (pss_cons (ps_ostG (pe_var (i := 0) rfl (Or.inl rfl)) (pe_var (i := 1) rfl (Or.inl rfl))) pss_nil), init_red1 (.inl oe_NoLay) xn_NoLay_word h⟩ }
    C_NoPaper := C_NoPaper, fI_NoPaper := fI_NoPaper, fdI_NoPaper := _
    X_NoPaper := { gC := PySem.W.mg_of X G xa_NoPaper, oe := .inl oe_NoPaper, xf := ⟨xg_NoPaper, xh_NoPaper, xe_NoPaper, xd_NoPaper⟩, no := (fun f hf => by simp only [List.mem_cons, List.not_mem_nil, or_false] at hf; first | (subst hf; assumption) | (rcases hf with rfl | rfl <;> assumption)), iC := xi_NoPaper, tI := xt_NoPaper, ex := exm_self xe_NoPaper xo_NoPaper xy_NoPaper xz_NoPaper, b := (fun_mk (st := si_NoPaper) xl_NoPaper xc_NoPaper xf_NoPaper).binds (ps := ["self", "word", "at"]) fun _ _ _ _ _ _ us hl => match us, hl with | [_, _, _], _ => rfl, ok := fun P w base => (fun_mk (st := si_NoPaper) xl_NoPaper xc_NoPaper xf_NoPaper).ok sci_NoPaper (fun _ _ _ _ h => spInit_len h) fun cdv A outer s H vs Q E hr h => ⟨_, (pss_cons (ps_ostG (pe_var (i := 0) rfl (Or.inl rfl)) (pe_var (i := 1) rfl (Or.inl rfl))) (pss_cons (ps_ostG (pe_var (i := 0) rfl (Or.inl rfl)) (pe_var (i := 2) rfl (Or.inl rfl))) pss_nil)), init_red2 oe_NoPaper xn_NoPaper_word xn_NoPaper_at h⟩ }
    C_LackError := C_LackError, gC_LackError := PySem.W.mg_of X G w_LackError
    C_LeftError := C_LeftError, gC_LeftError := PySem.W.mg_of X G w_LeftError
    E_NoLay := ⟨⟨xg_NoLay, xh_NoLay, xe_NoLay, xd_NoLay⟩, xo_NoLay, ea, en, et, em⟩
    k_NoLay := kit_of_sub ic_NoLay iy_NoLay is_NoLay xz_NoLay
    k_NoPaper := kit_of_sub ic_NoPaper iy_NoPaper is_NoPaper xz_NoLay
    k_LackError := kit_of_sub ic_LackError iy_LackError is_LackError xz_NoLay
    k_ValueError := kit_type (by decide +kernel) is_ValueError
    x_LeftError := exm_of ie_LeftError ic_LeftError iy_LeftError is_LeftError
    E_NoPaper := ⟨⟨xg_NoPaper, xh_NoPaper, xe_NoPaper, xd_NoPaper⟩, xo_NoPaper, ea_NoPaper, en, et, em_NoPaper⟩
    k_NoPaper_NoLay := kit_of_sub ic_NoLay iy_NoLay is_NoPaper_NoLay xz_NoPaper
    k_NoPaper_NoPaper := kit_of_sub ic_NoPaper iy_NoPaper is_NoPaper_NoPaper xz_NoPaper
    k_NoPaper_LackError := kit_of_sub ic_LackError iy_LackError is_NoPaper_LackError xz_NoPaper
    k_NoPaper_ValueError := kit_type (by decide +kernel) is_NoPaper_ValueError
    x_NoPaper_LeftError := exm_of ie_LeftError ic_LeftError iy_LeftError is_NoPaper_LeftError
  }, rfl⟩
theorem law_mk {l : PySem.W.OpenLaw} {fa : Addr} (T : Facts K mg) (hfa : mg "law" = some (.ref fa)) :
    ∃ fd : FuncData, (∀ (s : Shared) (v : Value), BindsTo s fd ⟨[v], []⟩ [("_law_script", v)]) ∧ ∀ base : Heap, K.In base → base.Ns mainGlobals mg → DFn l.prog w K mg base CX0 9 fa fd ["_law_script"] spLaw := by
  have e := hfa.symm.trans T.g_law
  cases e
  refine ⟨T.fd_law, fun s v => ?_, fun base _ _ => ok_law T⟩
  obtain ⟨oc, od, kV, doc, pm, an, cdv, ct, osl, e, lk, hcd⟩ := T.F_law.ex
  rw [e]
  exact .of_eq rfl
end
end Law61
open PySem PySem.W PyProof.Rows
set_option maxHeartbeats 0 in
theorem PySem.Challenge.cw_leftspaces_k61_no_lay_in_so_many_holds : PySem.Challenge.rw_leftspaces_k61_no_lay_in_so_many.Holds := by
  w_on; o_law; k_head; (case hw => w_witness2)
  k_fill
  refine DL.walk_law (l := PySem.Challenge.rw_leftspaces_k61_no_lay_in_so_many) (k := 9) (x := "_law_script") rfl rfl ⟨rfl, by decide, by decide⟩ (fun w h Y => PySem.W.kIn_of Y) ?F
  case F =>
    intro w mg fa h KX G hmg
    refine' Exists.elim (Law61.facts_mk KX G (a_law_feed := ?a_law_feed) (l_law_feed := ?l_law_feed) (c_law_feed := ?c_law_feed) (k_law_feed := ?k_law_feed) (a_law_draw := ?a_law_draw) (l_law_draw := ?l_law_draw) (c_law_draw := ?c_law_draw) (k_law_draw := ?k_law_draw) (a_law_same := ?a_law_same) (l_law_same := ?l_law_same) (c_law_same := ?c_law_same) (k_law_same := ?k_law_same) (a_law_words := ?a_law_words) (l_law_words := ?l_law_words) (c_law_words := ?c_law_words) (k_law_words := ?k_law_words) (a_law_size := ?a_law_size) (l_law_size := ?l_law_size) (c_law_size := ?c_law_size) (k_law_size := ?k_law_size) (a_law_end := ?a_law_end) (l_law_end := ?l_law_end) (c_law_end := ?c_law_end) (k_law_end := ?k_law_end) (a_law_space := ?a_law_space) (l_law_space := ?l_law_space) (c_law_space := ?c_law_space) (k_law_space := ?k_law_space) (a_law_lay := ?a_law_lay) (l_law_lay := ?l_law_lay) (c_law_lay := ?c_law_lay) (k_law_lay := ?k_law_lay) (a_law_sized := ?a_law_sized) (l_law_sized := ?l_law_sized) (c_law_sized := ?c_law_sized) (k_law_sized := ?k_law_sized) (a_law_bent := ?a_law_bent) (l_law_bent := ?l_law_bent) (c_law_bent := ?c_law_bent) (k_law_bent := ?k_law_bent) (a_resized := ?a_resized) (l_resized := ?l_resized) (c_resized := ?c_resized) (k_resized := ?k_resized) (a_begins := ?a_begins) (l_begins := ?l_begins) (c_begins := ?c_begins) (k_begins := ?k_begins) (a_room := ?a_room) (l_room := ?l_room) (c_room := ?c_room) (k_room := ?k_room) (t_room := ?t_room) (a_refuse_longer := ?a_refuse_longer) (l_refuse_longer := ?l_refuse_longer) (c_refuse_longer := ?c_refuse_longer) (k_refuse_longer := ?k_refuse_longer) (a_fill_line := ?a_fill_line) (l_fill_line := ?l_fill_line) (c_fill_line := ?c_fill_line) (k_fill_line := ?k_fill_line) (a_bent := ?a_bent) (l_bent := ?l_bent) (c_bent := ?c_bent) (k_bent := ?k_bent) (t_bent := ?t_bent) (a_most_lines := ?a_most_lines) (l_most_lines := ?l_most_lines) (c_most_lines := ?c_most_lines) (k_most_lines := ?k_most_lines) (a_first_word := ?a_first_word) (l_first_word := ?l_first_word) (c_first_word := ?c_first_word) (k_first_word := ?k_first_word) (a_line_step := ?a_line_step) (l_line_step := ?l_line_step) (c_line_step := ?c_line_step) (k_line_step := ?k_line_step) (a_is_void := ?a_is_void) (l_is_void := ?l_is_void) (c_is_void := ?c_is_void) (k_is_void := ?k_is_void) (a_is_kept := ?a_is_kept) (l_is_kept := ?l_is_kept) (c_is_kept := ?c_is_kept) (k_is_kept := ?k_is_kept) (a_priced_steps := ?a_priced_steps) (l_priced_steps := ?l_priced_steps) (c_priced_steps := ?c_priced_steps) (k_priced_steps := ?k_priced_steps) (a_prices_ahead := ?a_prices_ahead) (l_prices_ahead := ?l_prices_ahead) (c_prices_ahead := ?c_prices_ahead) (k_prices_ahead := ?k_prices_ahead) (a_least_prices := ?a_least_prices) (l_least_prices := ?l_least_prices) (c_least_prices := ?c_least_prices) (k_least_prices := ?k_least_prices) (a_cheapest_lay := ?a_cheapest_lay) (l_cheapest_lay := ?l_cheapest_lay) (c_cheapest_lay := ?c_cheapest_lay) (k_cheapest_lay := ?k_cheapest_lay) (a_fewest_anew := ?a_fewest_anew) (l_fewest_anew := ?l_fewest_anew) (c_fewest_anew := ?c_fewest_anew) (k_fewest_anew := ?k_fewest_anew) (t_fewest_anew := ?t_fewest_anew) (a_law_word := ?a_law_word) (l_law_word := ?l_law_word) (c_law_word := ?c_law_word) (k_law_word := ?k_law_word) (a_law_told := ?a_law_told) (l_law_told := ?l_law_told) (c_law_told := ?c_law_told) (k_law_told := ?k_law_told) (a_anew_lines := ?a_anew_lines) (l_anew_lines := ?l_anew_lines) (c_anew_lines := ?c_anew_lines) (k_anew_lines := ?k_anew_lines) (a_is_number := ?a_is_number) (l_is_number := ?l_is_number) (c_is_number := ?c_is_number) (k_is_number := ?k_is_number) (a_are_numbers := ?a_are_numbers) (l_are_numbers := ?l_are_numbers) (c_are_numbers := ?c_are_numbers) (k_are_numbers := ?k_are_numbers) (a_line_fits := ?a_line_fits) (l_line_fits := ?l_line_fits) (c_line_fits := ?c_line_fits) (k_line_fits := ?k_line_fits) (t_line_fits := ?t_line_fits) (a_check_line := ?a_check_line) (l_check_line := ?l_check_line) (c_check_line := ?c_check_line) (k_check_line := ?k_check_line) (a_check_end := ?a_check_end) (l_check_end := ?l_check_end) (c_check_end := ?c_check_end) (k_check_end := ?k_check_end) (a_lets_lay := ?a_lets_lay) (l_lets_lay := ?l_lets_lay) (c_lets_lay := ?c_lets_lay) (k_lets_lay := ?k_lets_lay) (t_lets_lay := ?t_lets_lay) (a_is_lay := ?a_is_lay) (l_is_lay := ?l_is_lay) (c_is_lay := ?c_is_lay) (k_is_lay := ?k_is_lay) (a_is_anew_shape := ?a_is_anew_shape) (l_is_anew_shape := ?l_is_anew_shape) (c_is_anew_shape := ?c_is_anew_shape) (k_is_anew_shape := ?k_is_anew_shape) (a_check_rows := ?a_check_rows) (l_check_rows := ?l_check_rows) (c_check_rows := ?c_check_rows) (k_check_rows := ?k_check_rows) (a_check_prices := ?a_check_prices) (l_check_prices := ?l_check_prices) (c_check_prices := ?c_check_prices) (k_check_prices := ?k_check_prices) (a_lets_anew := ?a_lets_anew) (l_lets_anew := ?l_lets_anew) (c_lets_anew := ?c_lets_anew) (k_lets_anew := ?k_lets_anew) (t_lets_anew := ?t_lets_anew) (a_law_looked := ?a_law_looked) (l_law_looked := ?l_law_looked) (c_law_looked := ?c_law_looked) (k_law_looked := ?k_law_looked) (a_law := ?a_law) (l_law := ?l_law) (c_law := ?c_law) (k_law := ?k_law) (z_ValueError := ?z_ValueError) (z_all := ?z_all) (z_bool := ?z_bool) (z_enumerate := ?z_enumerate) (z_int := ?z_int) (z_isinstance := ?z_isinstance) (z_len := ?z_len) (z_max := ?z_max) (z_min := ?z_min) (z_range := ?z_range) (z_repr := ?z_repr) (z_reversed := ?z_reversed) (z_tuple := ?z_tuple) (xa_NoLay := ?xa_NoLay) (xL_NoLay := ?xL_NoLay) (xs_NoLay := ?xs_NoLay) (xg_NoLay := ?xg_NoLay) (xh_NoLay := ?xh_NoLay) (xn_NoLay_word := ?xn_NoLay_word) (xi_NoLay := ?xi_NoLay) (xt_NoLay := ?xt_NoLay) (xl_NoLay := ?xl_NoLay) (xc_NoLay := ?xc_NoLay) (xf_NoLay := ?xf_NoLay) (xk_NoLay := ?xk_NoLay) (xe_NoLay := ?xe_NoLay) (xy_NoLay := ?xy_NoLay) (xd_NoLay := ?xd_NoLay) (xo_NoLay := ?xo_NoLay) (xz_NoLay := ?xz_NoLay) (xa_NoPaper := ?xa_NoPaper) (xL_NoPaper := ?xL_NoPaper) (xs_NoPaper := ?xs_NoPaper) (xg_NoPaper := ?xg_NoPaper) (xh_NoPaper := ?xh_NoPaper) (xn_NoPaper_word := ?xn_NoPaper_word) (xn_NoPaper_at := ?xn_NoPaper_at) (xi_NoPaper := ?xi_NoPaper) (xt_NoPaper := ?xt_NoPaper) (xl_NoPaper := ?xl_NoPaper) (xc_NoPaper := ?xc_NoPaper) (xf_NoPaper := ?xf_NoPaper) (xk_NoPaper := ?xk_NoPaper) (xe_NoPaper := ?xe_NoPaper) (xy_NoPaper := ?xy_NoPaper) (xd_NoPaper := ?xd_NoPaper) (xo_NoPaper := ?xo_NoPaper) (xz_NoPaper := ?xz_NoPaper) (w_LackError := ?w_LackError) (w_LeftError := ?w_LeftError) (en := ?en) (et := ?et) (ic_NoLay := ?ic_NoLay) (iy_NoLay := ?iy_NoLay) (ic_NoPaper := ?ic_NoPaper) (iy_NoPaper := ?iy_NoPaper) (ic_LackError := ?ic_LackError) (iy_LackError := ?iy_LackError) (ic_LeftError := ?ic_LeftError) (iy_LeftError := ?iy_LeftError) (ie_LeftError := ?ie_LeftError) (ea := ?ea) (em := ?em) (is_NoLay := ?is_NoLay) (is_NoPaper := ?is_NoPaper) (is_LackError := ?is_LackError) (is_LeftError := ?is_LeftError) (is_ValueError := ?is_ValueError) (ea_NoPaper := ?ea_NoPaper) (em_NoPaper := ?em_NoPaper) (is_NoPaper_NoLay := ?is_NoPaper_NoLay) (is_NoPaper_NoPaper := ?is_NoPaper_NoPaper) (is_NoPaper_LackError := ?is_NoPaper_LackError) (is_NoPaper_LeftError := ?is_NoPaper_LeftError) (is_NoPaper_ValueError := ?is_NoPaper_ValueError)) (fun T _ => Law61.law_mk T hmg)
    case a_law_feed => k_is
    case l_law_feed => k_is
    case c_law_feed => k_is
    case k_law_feed => k_is
    case a_law_draw => k_is
    case l_law_draw => k_is
    case c_law_draw => k_is
    case k_law_draw => k_is
    case a_law_same => k_is
    case l_law_same => k_is
    case c_law_same => k_is
    case k_law_same => k_is
    case a_law_words => k_is
    case l_law_words => k_is
    case c_law_words => k_is
    case k_law_words => k_is
    case a_law_size => k_is
    case l_law_size => k_is
    case c_law_size => k_is
    case k_law_size => k_is
    case a_law_end => k_is
    case l_law_end => k_is
    case c_law_end => k_is
    case k_law_end => k_is
    case a_law_space => k_is
    case l_law_space => k_is
    case c_law_space => k_is
    case k_law_space => k_is
    case a_law_lay => k_is
    case l_law_lay => k_is
    case c_law_lay => k_is
    case k_law_lay => k_is
    case a_law_sized => k_is
    case l_law_sized => k_is
    case c_law_sized => k_is
    case k_law_sized => k_is
    case a_law_bent => k_is
    case l_law_bent => k_is
    case c_law_bent => k_is
    case k_law_bent => k_is
    case a_resized => k_is
    case l_resized => k_is
    case c_resized => k_is
    case k_resized => k_is
    case a_begins => k_is
    case l_begins => k_is
    case c_begins => k_is
    case k_begins => k_is
    case a_room => k_is
    case l_room => k_is
    case c_room => k_is
    case k_room => k_is
    case t_room => k_is
    case a_refuse_longer => k_is
    case l_refuse_longer => k_is
    case c_refuse_longer => k_is
    case k_refuse_longer => k_is
    case a_fill_line => k_is
    case l_fill_line => k_is
    case c_fill_line => k_is
    case k_fill_line => k_is
    case a_bent => k_is
    case l_bent => k_is
    case c_bent => k_is
    case k_bent => k_is
    case t_bent => k_is
    case a_most_lines => k_is
    case l_most_lines => k_is
    case c_most_lines => k_is
    case k_most_lines => k_is
    case a_first_word => k_is
    case l_first_word => k_is
    case c_first_word => k_is
    case k_first_word => k_is
    case a_line_step => k_is
    case l_line_step => k_is
    case c_line_step => k_is
    case k_line_step => k_is
    case a_is_void => k_is
    case l_is_void => k_is
    case c_is_void => k_is
    case k_is_void => k_is
    case a_is_kept => k_is
    case l_is_kept => k_is
    case c_is_kept => k_is
    case k_is_kept => k_is
    case a_priced_steps => k_is
    case l_priced_steps => k_is
    case c_priced_steps => k_is
    case k_priced_steps => k_is
    case a_prices_ahead => k_is
    case l_prices_ahead => k_is
    case c_prices_ahead => k_is
    case k_prices_ahead => k_is
    case a_least_prices => k_is
    case l_least_prices => k_is
    case c_least_prices => k_is
    case k_least_prices => k_is
    case a_cheapest_lay => k_is
    case l_cheapest_lay => k_is
    case c_cheapest_lay => k_is
    case k_cheapest_lay => k_is
    case a_fewest_anew => k_is
    case l_fewest_anew => k_is
    case c_fewest_anew => k_is
    case k_fewest_anew => k_is
    case t_fewest_anew => k_is
    case a_law_word => k_is
    case l_law_word => k_is
    case c_law_word => k_is
    case k_law_word => k_is
    case a_law_told => k_is
    case l_law_told => k_is
    case c_law_told => k_is
    case k_law_told => k_is
    case a_anew_lines => k_is
    case l_anew_lines => k_is
    case c_anew_lines => k_is
    case k_anew_lines => k_is
    case a_is_number => k_is
    case l_is_number => k_is
    case c_is_number => k_is
    case k_is_number => k_is
    case a_are_numbers => k_is
    case l_are_numbers => k_is
    case c_are_numbers => k_is
    case k_are_numbers => k_is
    case a_line_fits => k_is
    case l_line_fits => k_is
    case c_line_fits => k_is
    case k_line_fits => k_is
    case t_line_fits => k_is
    case a_check_line => k_is
    case l_check_line => k_is
    case c_check_line => k_is
    case k_check_line => k_is
    case a_check_end => k_is
    case l_check_end => k_is
    case c_check_end => k_is
    case k_check_end => k_is
    case a_lets_lay => k_is
    case l_lets_lay => k_is
    case c_lets_lay => k_is
    case k_lets_lay => k_is
    case t_lets_lay => k_is
    case a_is_lay => k_is
    case l_is_lay => k_is
    case c_is_lay => k_is
    case k_is_lay => k_is
    case a_is_anew_shape => k_is
    case l_is_anew_shape => k_is
    case c_is_anew_shape => k_is
    case k_is_anew_shape => k_is
    case a_check_rows => k_is
    case l_check_rows => k_is
    case c_check_rows => k_is
    case k_check_rows => k_is
    case a_check_prices => k_is
    case l_check_prices => k_is
    case c_check_prices => k_is
    case k_check_prices => k_is
    case a_lets_anew => k_is
    case l_lets_anew => k_is
    case c_lets_anew => k_is
    case k_lets_anew => k_is
    case t_lets_anew => k_is
    case a_law_looked => k_is
    case l_law_looked => k_is
    case c_law_looked => k_is
    case k_law_looked => k_is
    case a_law => k_is
    case l_law => k_is
    case c_law => k_is
    case k_law => k_is
    case z_ValueError => k_is
    case z_all => k_is
    case z_bool => k_is
    case z_enumerate => k_is
    case z_int => k_is
    case z_isinstance => k_is
    case z_len => k_is
    case z_max => k_is
    case z_min => k_is
    case z_range => k_is
    case z_repr => k_is
    case z_reversed => k_is
    case z_tuple => k_is
    case xa_NoLay => k_is
    case xL_NoLay => k_is
    case xs_NoLay => k_is
    case xg_NoLay => k_is
    case xh_NoLay => k_is
    case xn_NoLay_word => k_is
    case xi_NoLay => k_is
    case xt_NoLay => k_is
    case xl_NoLay => k_is
    case xc_NoLay => k_is
    case xf_NoLay => k_is
    case xk_NoLay => k_is
    case xe_NoLay => k_is
    case xy_NoLay => k_is
    case xd_NoLay => k_is
    case xo_NoLay => k_is
    case xz_NoLay => k_is
    case xa_NoPaper => k_is
    case xL_NoPaper => k_is
    case xs_NoPaper => k_is
    case xg_NoPaper => k_is
    case xh_NoPaper => k_is
    case xn_NoPaper_word => k_is
    case xn_NoPaper_at => k_is
    case xi_NoPaper => k_is
    case xt_NoPaper => k_is
    case xl_NoPaper => k_is
    case xc_NoPaper => k_is
    case xf_NoPaper => k_is
    case xk_NoPaper => k_is
    case xe_NoPaper => k_is
    case xy_NoPaper => k_is
    case xd_NoPaper => k_is
    case xo_NoPaper => k_is
    case xz_NoPaper => k_is
    case w_LackError => k_is
    case w_LeftError => k_is
    case en => k_is
    case et => k_is
    case ic_NoLay => k_is
    case iy_NoLay => k_is
    case ic_NoPaper => k_is
    case iy_NoPaper => k_is
    case ic_LackError => k_is
    case iy_LackError => k_is
    case ic_LeftError => k_is
    case iy_LeftError => k_is
    case ie_LeftError => k_is
    case ea => k_is
    case em => k_is
    case is_NoLay => k_is
    case is_NoPaper => k_is
    case is_LackError => k_is
    case is_LeftError => k_is
    case is_ValueError => k_is
    case ea_NoPaper => k_is
    case em_NoPaper => k_is
    case is_NoPaper_NoLay => k_is
    case is_NoPaper_NoPaper => k_is
    case is_NoPaper_LackError => k_is
    case is_NoPaper_LeftError => k_is
    case is_NoPaper_ValueError => k_is
