import PyProof.Rows.All
import Wide.All
import OpenK.AllK
import Wide.FinOn
import HandS.ForMost
import HandS.ForExc
import HandS.Evl
import HandS.IsInst
import HandS.ExcIs
import HandS.Conv
import HandS.TupMul
import HandS.TupAny
import HandS.CallSlots
import HandS.SetBool
import HandS.Strs
import HandS.Zip
import HandS.Style
import HandS.Comp
import HandS.DictComp
import HandS.Iter
import HandS.TupLe
import HandS.Text
import HandS.Walk
import HandS.Dict
import HandS.SetFor
import PyProof.EnumMake
import PyProof.Draws
import HandS.WordsDict
import PySem.Challenge.RW_alikeread_k10_what_must_come
set_option Elab.async false
set_option linter.all false
set_option maxRecDepth 100000
set_option maxHeartbeats 4000000
namespace Mini
open PySem L2 Evl

/-! ### the heap in two parts: B what stays, M what is owned and may change -/
def jn (B M : Hp) : Hp := fun a => match M a with
  | some o => some o
  | none => B a
def Dj (B M : Hp) : Prop := ∀ a o, B a = some o → M a = none
theorem jn_M {B M : Hp} {a : Addr} {o : HO} (h : M a = some o) : jn B M a = some o := by unfold jn; rw [h]
theorem jn_N {B M : Hp} {a : Addr} (h : M a = none) : jn B M a = B a := by unfold jn; rw [h]
theorem jn_B {B M : Hp} {a : Addr} {o : HO} (d : Dj B M) (h : B a = some o) : jn B M a = some o := by rw [jn_N (d a o h), h]
theorem jn_free {B M : Hp} {a : Addr} (h : jn B M a = none) : B a = none ∧ M a = none := by
  unfold jn at h
  cases e : M a with
  | some o => rw [e] at h; cases h
  | none => rw [e] at h; exact ⟨h, rfl⟩
theorem jn_ex {B M : Hp} (d : Dj B M) : Ex B (jn B M) := fun a o h => jn_B d h
theorem jn_mono {B B' M : Hp} (e : Ex B B') (d : Dj B' M) : Ex (jn B M) (jn B' M) := fun a o h => by
  unfold jn at h ⊢
  cases q : M a with
  | some u => rw [q] at h; exact h
  | none => rw [q] at h; exact e a o h
theorem upd_new {B M : Hp} {p : Addr} {o : HO} (h : jn B M p = none) : upd (jn B M) p o = jn (upd B p o) M := by
  obtain ⟨_, hM⟩ := jn_free h
  funext a
  unfold upd jn
  dsimp only
  by_cases e : a = p
  · rw [if_pos e, e, hM]; simp
  · rw [if_neg e, if_neg e]
theorem dj_new {B M : Hp} {p : Addr} {o : HO} (d : Dj B M) (h : jn B M p = none) : Dj (upd B p o) M := fun a u e => by
  by_cases q : a = p
  · rw [q]; exact (jn_free h).2
  · rw [upd_ne q] at e; exact d a u e
theorem ex_new {B M : Hp} {p : Addr} {o : HO} (h : jn B M p = none) : Ex B (upd B p o) := Ex.new (jn_free h).1
theorem upd_own {B M : Hp} {p : Addr} {o : HO} : upd (jn B M) p o = jn B (upd M p o) := by
  funext a
  unfold upd jn
  dsimp only
  by_cases e : a = p
  · rw [if_pos e, if_pos e]
  · rw [if_neg e, if_neg e]
theorem dj_own {B M : Hp} {p : Addr} {o : HO} (d : Dj B M) (h : B p = none) : Dj B (upd M p o) := fun a u e => by
  by_cases q : a = p
  · rw [q, h] at e; cases e
  · rw [upd_ne q]; exact d a u e
theorem dj_free {B M : Hp} {p : Addr} {o : HO} (d : Dj B M) (h : M p = some o) : B p = none := by
  cases e : B p with
  | none => rfl
  | some u => rw [d p u e] at h; cases h

/-! ### data: what a value is, read out of the heap -/
mutual
inductive Dq (H : Hp) : V → PyData → Prop
  | non : Dq H .non .none
  | bl (b : Bool) : Dq H (.bl b) (.bool b)
  | int (i : Int) : Dq H (.int i) (.int i)
  | str (x : Str) : Dq H (.str x) (.str x)
  | lst {a : Addr} {xs : List V} {ds : List PyData} : H a = some (.lst xs) → DqAll H xs ds → Dq H (.ref a) (.list ds)
  | tup {a : Addr} {xs : List V} {ds : List PyData} : H a = some (.tup xs) → DqAll H xs ds → Dq H (.ref a) (.tuple ds)
inductive DqAll (H : Hp) : List V → List PyData → Prop
  | nil : DqAll H [] []
  | cons {v : V} {vs : List V} {d : PyData} {ds : List PyData} : Dq H v d → DqAll H vs ds → DqAll H (v :: vs) (d :: ds)
end
theorem Dq_ex {H H' : Hp} (e : Ex H H') : ∀ (d : PyData) (v : V), Dq H v d → Dq H' v d
  | .none, _, h => by cases h; exact .non
  | .bool b, _, h => by cases h; exact .bl b
  | .int i, _, h => by cases h; exact .int i
  | .str x, _, h => by cases h; exact .str x
  | .list ds, _, h => by
    cases h with
    | lst hs ha => exact .lst (e _ _ hs) (go e ds _ ha)
  | .tuple ds, _, h => by
    cases h with
    | tup hs ha => exact .tup (e _ _ hs) (go e ds _ ha)
  | .dict _, _, h => by cases h
where
  go {H H' : Hp} (e : Ex H H') : ∀ (ds : List PyData) (vs : List V), DqAll H vs ds → DqAll H' vs ds
  | [], _, h => by cases h; exact .nil
  | d :: ds, _, h => by
    cases h with
    | cons a b => exact .cons (Dq_ex e d _ a) (go e ds _ b)
theorem Dq_dp {K : PySem.W.Frag} {H : Hp} : ∀ (d : PyData) (v : V), Dq H v d → Dp K H v d
  | .none, _, h => by cases h; exact .non
  | .bool b, _, h => by cases h; exact .bl b
  | .int i, _, h => by cases h; exact .int i
  | .str x, _, h => by cases h; exact .str x
  | .list ds, _, h => by
    cases h with
    | lst hs ha => exact .lst (sq_of hs) (go ds _ ha)
  | .tuple ds, _, h => by
    cases h with
    | tup hs ha => exact .tup (st_of hs) (go ds _ ha)
  | .dict _, _, h => by cases h
where
  go {K : PySem.W.Frag} {H : Hp} : ∀ (ds : List PyData) (vs : List V), DqAll H vs ds → DpAll K H vs ds
  | [], _, h => by cases h; exact .nil
  | d :: ds, _, h => by
    cases h with
    | cons a b => exact .cons (Dq_dp d _ a) (go ds _ b)
theorem DqAll_ex {H H' : Hp} (e : Ex H H') {ds : List PyData} {vs : List V} (h : DqAll H vs ds) : DqAll H' vs ds := Dq_ex.go e ds vs h
theorem DqAll_len {H : Hp} : ∀ {ds : List PyData} {vs : List V}, DqAll H vs ds → vs.length = ds.length
  | [], _, h => by cases h; rfl
  | d :: ds, _, h => by cases h with | cons a b => simp [DqAll_len b]
theorem DqAll_get {H : Hp} : ∀ {ds : List PyData} {vs : List V} {i : Nat} {d : PyData}, DqAll H vs ds → ds[i]? = some d → ∃ v, vs[i]? = some v ∧ Dq H v d
  | [], _, i, d, h, e => by simp at e
  | x :: ds, _, 0, d, h, e => by
    cases h with | cons a b => simp at e; subst e; exact ⟨_, rfl, a⟩
  | x :: ds, _, i + 1, d, h, e => by
    cases h with | cons a b => simpa using DqAll_get (i := i) b (by simpa using e)
theorem DqAll_getV {H : Hp} : ∀ {ds : List PyData} {vs : List V} {i : Nat} {v : V}, DqAll H vs ds → vs[i]? = some v → ∃ d, ds[i]? = some d ∧ Dq H v d
  | [], _, i, d, h, e => by cases h; simp at e
  | x :: ds, _, 0, d, h, e => by
    cases h with | cons a b => simp at e; subst e; exact ⟨_, rfl, a⟩
  | x :: ds, _, i + 1, d, h, e => by
    cases h with | cons a b => simpa using DqAll_getV (i := i) b (by simpa using e)
theorem DqAll_append {H : Hp} : ∀ {ds es : List PyData} {vs us : List V}, DqAll H vs ds → DqAll H us es → DqAll H (vs ++ us) (ds ++ es)
  | [], _, _, _, h, g => by cases h; exact g
  | x :: ds, _, _, _, h, g => by cases h with | cons a b => exact .cons a (DqAll_append b g)
theorem DqAll_take {H : Hp} : ∀ {ds : List PyData} {vs : List V} (n : Nat), DqAll H vs ds → DqAll H (vs.take n) (ds.take n)
  | _, _, 0, _ => by simpa using DqAll.nil
  | [], _, n + 1, h => by cases h; simpa using DqAll.nil
  | x :: ds, _, n + 1, h => by cases h with | cons a b => simpa using DqAll.cons a (DqAll_take n b)
theorem DqAll_drop {H : Hp} : ∀ {ds : List PyData} {vs : List V} (n : Nat), DqAll H vs ds → DqAll H (vs.drop n) (ds.drop n)
  | _, _, 0, h => by simpa using h
  | [], _, n + 1, h => by cases h; simpa using DqAll.nil
  | x :: ds, _, n + 1, h => by cases h with | cons a b => simpa using DqAll_drop n b
theorem DqAll_set {H : Hp} {v : V} {d : PyData} (hv : Dq H v d) : ∀ {ds : List PyData} {vs : List V} (n : Nat), DqAll H vs ds → DqAll H (vs.set n v) (ds.set n d)
  | [], _, n, h => by cases h; simpa using DqAll.nil
  | x :: ds, _, 0, h => by cases h with | cons a b => simpa using DqAll.cons hv b
  | x :: ds, _, n + 1, h => by cases h with | cons a b => simpa using DqAll.cons a (DqAll_set hv n b)
theorem DqAll_eraseIdx {H : Hp} : ∀ {ds : List PyData} {vs : List V} (n : Nat), DqAll H vs ds → DqAll H (vs.eraseIdx n) (ds.eraseIdx n)
  | [], _, n, h => by cases h; simpa using DqAll.nil
  | x :: ds, _, 0, h => by cases h with | cons a b => simpa using b
  | x :: ds, _, n + 1, h => by cases h with | cons a b => simpa using DqAll.cons a (DqAll_eraseIdx n b)
theorem DqAll_dropLast {H : Hp} {ds : List PyData} {vs : List V} (h : DqAll H vs ds) : DqAll H vs.dropLast ds.dropLast := by
  rw [List.dropLast_eq_take, List.dropLast_eq_take, DqAll_len h]
  exact DqAll_take _ h
theorem DqAll_rep {H : Hp} {ds : List PyData} {vs : List V} (h : DqAll H vs ds) : ∀ n, DqAll H (List.replicate n vs).flatten (List.replicate n ds).flatten
  | 0 => by simpa using DqAll.nil
  | n + 1 => by simpa [List.replicate_succ] using DqAll_append h (DqAll_rep h n)
theorem DqAll_reverse {H : Hp} : ∀ {ds : List PyData} {vs : List V}, DqAll H vs ds → DqAll H vs.reverse ds.reverse
  | [], _, h => by cases h; exact .nil
  | x :: ds, _, h => by cases h with | cons a b => simpa using DqAll_append (DqAll_reverse b) (.cons a .nil)
theorem DqAll_ints {H : Hp} : ∀ {ns : List Int} {vs : List V}, DqAll H vs (ns.map PyData.int) → vs = ns.map V.int
  | [], _, h => by cases h; rfl
  | n :: ns, _, h => by
    cases h with
    | cons a b => cases a; rw [DqAll_ints b]; rfl
theorem DqAll_ofInts {H : Hp} : ∀ (ns : List Int), DqAll H (ns.map V.int) (ns.map PyData.int)
  | [] => .nil
  | n :: ns => .cons (.int n) (DqAll_ofInts ns)
theorem DqAll_bools {H : Hp} : ∀ {ns : List Bool} {vs : List V}, DqAll H vs (ns.map PyData.bool) → vs = ns.map V.bl
  | [], _, h => by cases h; rfl
  | n :: ns, _, h => by
    cases h with
    | cons a b => cases a; rw [DqAll_bools b]; rfl

/-! ### types of slots -/
structure Ty where
  p : V → Hp → Prop
  mono : ∀ {v : V} {B B' : Hp}, Ex B B' → p v B → p v B'
structure Ow where
  r : Addr → HO → Hp → Prop
  mono : ∀ {a : Addr} {o : HO} {B B' : Hp}, Ex B B' → r a o B → r a o B'
def isD (d : PyData) : Ty := ⟨fun v B => Dq B v d, fun e h => Dq_ex e d _ h⟩
/-- an owned list -/
def isL (ds : List PyData) : Ow := ⟨fun _ o B => ∃ vs, o = .lst vs ∧ DqAll B vs ds, fun e ⟨vs, h, q⟩ => ⟨vs, h, DqAll_ex e q⟩⟩
/-- an instance of the class at C, its attributes as R says -/
def isO (C : Addr) (R : List (Str × V) → Hp → Prop) (mono : ∀ {fs : List (Str × V)} {B B' : Hp}, Ex B B' → R fs B → R fs B') : Ty :=
  ⟨fun v B => ∃ p dx fs, v = .ref p ∧ B p = some (.ins C dx fs) ∧ R fs B, fun e ⟨p, dx, fs, h1, h2, h3⟩ => ⟨p, dx, fs, h1, e _ _ h2, mono e h3⟩⟩
/-- a value of the built-in class or of a class of one's own, as a value -/
def isV (v : V) : Ty := ⟨fun u _ => u = v, fun _ h => h⟩
inductive Sl where
  | no
  | im (P : Ty)
  | ow (R : Ow)
  | bw (R : Ow)
abbrev Gm := List Sl
structure Holds (M0 : Hp) (G : Gm) (σ : L2.St) (B M : Hp) : Prop where
  len : σ.length = G.length
  dj : Dj B M
  cal : Ex M0 M
  im : ∀ (i : Nat) P, G[i]? = some (.im P) → ∃ v, σ[i]? = some (some v) ∧ P.p v B
  ow : ∀ (i : Nat) R, G[i]? = some (.ow R) → ∃ l o, σ[i]? = some (some (.ref l)) ∧ M l = some o ∧ R.r l o B ∧ M0 l = none
  bw : ∀ (i : Nat) R, G[i]? = some (.bw R) → ∃ l o, σ[i]? = some (some (.ref l)) ∧ M0 l = some o ∧ R.r l o B
  ne : ∀ (i j : Nat) R R' l, G[i]? = some (.ow R) → G[j]? = some (.ow R') → σ[i]? = some (some (.ref l)) → σ[j]? = some (some (.ref l)) → i = j
theorem Holds.ext {M0 : Hp} {G : Gm} {σ : L2.St} {B B' M : Hp} (h : Holds M0 G σ B M) (e : Ex B B') (d : Dj B' M) : Holds M0 G σ B' M where
  len := h.len
  dj := d
  cal := h.cal
  im := fun i P q => by obtain ⟨v, a, b⟩ := h.im i P q; exact ⟨v, a, P.mono e b⟩
  ow := fun i R q => by obtain ⟨l, o, a, b, c, f⟩ := h.ow i R q; exact ⟨l, o, a, b, R.mono e c, f⟩
  bw := fun i R q => by obtain ⟨l, o, a, b, c⟩ := h.bw i R q; exact ⟨l, o, a, b, R.mono e c⟩
  ne := h.ne

/-! ### what an expression is worth -/
def Sv (te : TE) (G : Gm) (P : Ty) : Prop := ∀ (M0 : Hp) (σ : L2.St) (B M : Hp), Holds M0 G σ B M → ∀ Q : VK, (∀ v B', Ex B B' → Dj B' M → P.p v B' → Q v (jn B' M)) → te σ (jn B M) Q
/-- a new list -/
def Svl (te : TE) (G : Gm) (ds : List PyData) : Prop := ∀ (M0 : Hp) (σ : L2.St) (B M : Hp), Holds M0 G σ B M → ∀ Q : VK,
  (∀ p vs B', Ex B B' → Dj B' M → jn B' M p = none → DqAll B' vs ds → Q (.ref p) (upd (jn B' M) p (.lst vs))) → te σ (jn B M) Q
/-- a list that can be read -/
def Rl (te : TE) (G : Gm) (ds : List PyData) : Prop := ∀ (M0 : Hp) (σ : L2.St) (B M : Hp), Holds M0 G σ B M → ∀ Q : VK,
  (∀ a vs B', Ex B B' → Dj B' M → jn B' M a = some (.lst vs) → DqAll B' vs ds → Q (.ref a) (jn B' M)) → te σ (jn B M) Q
/-- a test -/
def St' (tt : TT) (G : Gm) (b : Bool) : Prop := ∀ (M0 : Hp) (σ : L2.St) (B M : Hp), Holds M0 G σ B M → ∀ Q : Bool → Hp → Prop, (∀ B', Ex B B' → Dj B' M → Q b (jn B' M)) → tt σ (jn B M) Q
/-- arguments -/
inductive Ar where
  | im (P : Ty)
  | ow (R : Ow)
def ArOk (a : Ar) (v : V) (B M : Hp) : Prop := match a with
  | .im P => P.p v B
  | .ow R => ∃ l o, v = .ref l ∧ M l = some o ∧ R.r l o B
inductive ArsOk : List Ar → List V → Hp → Hp → Prop where
  | nil {B M} : ArsOk [] [] B M
  | cons {a as v vs B M} : ArOk a v B M → ArsOk as vs B M → ArsOk (a :: as) (v :: vs) B M
theorem ArOk.ext {a : Ar} {v : V} {B B' M : Hp} (e : Ex B B') (h : ArOk a v B M) : ArOk a v B' M := by
  cases a with
  | im P => exact P.mono e h
  | ow R => obtain ⟨l, o, h1, h2, h3⟩ := h; exact ⟨l, o, h1, h2, R.mono e h3⟩
theorem ArsOk.ext {as : List Ar} {vs : List V} {B B' M : Hp} (e : Ex B B') (h : ArsOk as vs B M) : ArsOk as vs B' M := by
  induction h with
  | nil => exact .nil
  | cons a _ ih => exact .cons (a.ext e) (ih e)
theorem ArsOk.len {as : List Ar} {vs : List V} {B M : Hp} (h : ArsOk as vs B M) : vs.length = as.length := by
  induction h with
  | nil => rfl
  | cons a _ ih => simp [ih]
def Sa (ta : TA) (G : Gm) (as : List Ar) : Prop := ∀ (M0 : Hp) (σ : L2.St) (B M : Hp), Holds M0 G σ B M → ∀ Q : List V → Hp → Prop, (∀ vs B', Ex B B' → Dj B' M → ArsOk as vs B' M → Q vs (jn B' M)) → ta σ (jn B M) Q
/-- an optional part of a slice -/
def So (to : TO) (G : Gm) (o : Option Int) : Prop := ∀ (M0 : Hp) (σ : L2.St) (B M : Hp), Holds M0 G σ B M → ∀ Q : Option Int → Hp → Prop, (∀ B', Ex B B' → Dj B' M → Q o (jn B' M)) → to σ (jn B M) Q

section
variable {G : Gm} {te ta tb tl : TE} {tt tu : TT} {tas : TA} {P Pa Pb : Ty} {R : Ow} {d e : PyData} {ds es : List PyData} {b c : Bool} {i j : Int} {r : R2}

theorem sv_is (h : Sv te G (isD d)) (q : d = e) : Sv te G (isD e) := q ▸ h
theorem st_is (h : St' tt G b) (q : b = c) : St' tt G c := q ▸ h
theorem svl_is (h : Svl te G ds) (q : ds = es) : Svl te G es := q ▸ h
theorem rl_is (h : Rl te G ds) (q : ds = es) : Rl te G es := q ▸ h
theorem sv_svl (h : Svl te G ds) : Sv te G (isD (.list ds)) := fun M0 σ B M H Q q => h M0 σ B M H Q fun p vs B' e dj hn ha => by
  rw [upd_new hn]
  exact q _ _ (e.trans (ex_new hn)) (dj_new dj hn) (.lst upd_same (DqAll_ex (ex_new hn) ha))
theorem rl_sv (h : Sv te G (isD (.list ds))) : Rl te G ds := fun M0 σ B M H Q q => h M0 σ B M H Q fun v B' e dj hv => by
  cases (show Dq B' v (.list ds) from hv) with
  | lst hs ha => exact q _ _ _ e dj (jn_B dj hs) ha
theorem rl_svl (h : Svl te G ds) : Rl te G ds := rl_sv (sv_svl h)
theorem sv_var {n : Nat} (h : G[n]? = some (.im P)) : Sv (tVar n) G P := fun M0 σ B M H Q q => by
  obtain ⟨v, a, b⟩ := H.im n P h
  exact ⟨v, a, q v B (Ex.refl B) H.dj b⟩
theorem rl_ow {n : Nat} (h : G[n]? = some (.ow (isL ds))) : Rl (tVar n) G ds := fun M0 σ B M H Q q => by
  obtain ⟨l, o, a, b, ⟨vs, rfl, c⟩, _⟩ := H.ow n _ h
  exact ⟨_, a, q l vs B (Ex.refl B) H.dj (jn_M b) c⟩
theorem rl_bw {n : Nat} (h : G[n]? = some (.bw (isL ds))) : Rl (tVar n) G ds := fun M0 σ B M H Q q => by
  obtain ⟨l, o, a, b, ⟨vs, rfl, c⟩⟩ := H.bw n _ h
  exact ⟨_, a, q l vs B (Ex.refl B) H.dj (jn_M (H.cal _ _ b)) c⟩
theorem sv_cV {v : V} (h : ∀ B, P.p v B) : Sv (tC v) G P := fun M0 σ B M H Q q => q v B (Ex.refl B) H.dj (h B)
theorem sv_int : Sv (tC (.int i)) G (isD (.int i)) := sv_cV fun _ => .int i
theorem sv_bl : Sv (tC (.bl b)) G (isD (.bool b)) := sv_cV fun _ => .bl b
theorem sv_non : Sv (tC .non) G (isD .none) := sv_cV fun _ => .non
theorem sv_str {x : Str} : Sv (tC (.str x)) G (isD (.str x)) := sv_cV fun _ => .str x
theorem sv_val {v : V} : Sv (tC v) G (isV v) := sv_cV fun _ => rfl

/-! arguments -/
theorem sa_nil : Sa tNil G [] := fun M0 σ B M H Q q => q [] B (Ex.refl B) H.dj .nil
theorem sa_im {tr : TA} {as : List Ar} (h : Sv te G P) (hr : Sa tr G as) : Sa (tCons te tr) G (.im P :: as) := fun M0 σ B M H Q q =>
  h M0 σ B M H _ fun v B1 e1 d1 p1 => hr M0 σ B1 M (H.ext e1 d1) _ fun vs B2 e2 d2 p2 => q _ B2 (e1.trans e2) d2 (.cons (P.mono e2 p1) p2)
theorem sa_ow {tr : TA} {as : List Ar} {n : Nat} (h : G[n]? = some (.ow R)) (hr : Sa tr G as) : Sa (tCons (tVar n) tr) G (.ow R :: as) := fun M0 σ B M H Q q => by
  obtain ⟨l, o, a, b, c, _⟩ := H.ow n _ h
  exact ⟨_, a, hr M0 σ B M H _ fun vs B2 e2 d2 p2 => q _ B2 e2 d2 (.cons ⟨l, o, rfl, b, R.mono e2 c⟩ p2)⟩
theorem sa_bw {tr : TA} {as : List Ar} {n : Nat} (h : G[n]? = some (.bw R)) (hr : Sa tr G as) : Sa (tCons (tVar n) tr) G (.ow R :: as) := fun M0 σ B M H Q q => by
  obtain ⟨l, o, a, b, c⟩ := H.bw n _ h
  exact ⟨_, a, hr M0 σ B M H _ fun vs B2 e2 d2 p2 => q _ B2 e2 d2 (.cons ⟨l, o, rfl, H.cal _ _ b, R.mono e2 c⟩ p2)⟩

/-! operators by values: x and y as they stand -/
/-- r, from x and y of these types, gives a value of type P -/
def Rv (r : R2) (Pa Pb P : Ty) : Prop := ∀ (B M : Hp) (x y : V), Dj B M → Pa.p x B → Pb.p y B → ∀ Q : VK, (∀ v B', Ex B B' → Dj B' M → P.p v B' → Q v (jn B' M)) → r x y (jn B M) Q
theorem sv_op (ha : Sv ta G Pa) (hb : Sv tb G Pb) (hr : Rv r Pa Pb P) : Sv (tOp r ta tb) G P := fun M0 σ B M H Q q =>
  ha M0 σ B M H _ fun x B1 e1 d1 p1 => hb M0 σ B1 M (H.ext e1 d1) _ fun y B2 e2 d2 p2 => hr B2 M x y d2 (Pa.mono e2 p1) p2 Q fun v B3 e3 d3 p3 => q v B3 ((e1.trans e2).trans e3) d3 p3
theorem rv_or1 {r' : R2} (h : Rv r Pa Pb P) : Rv (fun x y H Q => r x y H Q ∨ r' x y H Q) Pa Pb P := fun B M x y dj p1 p2 Q q => .inl (h B M x y dj p1 p2 Q q)
theorem rv_or2 {r' : R2} (h : Rv r' Pa Pb P) : Rv (fun x y H Q => r x y H Q ∨ r' x y H Q) Pa Pb P := fun B M x y dj p1 p2 Q q => .inr (h B M x y dj p1 p2 Q q)
/-- where the answer is at hand, the heap as it is -/
theorem rv_at {C : V → V → Hp → Prop} {f : V → V → V} (h : ∀ x y (H : Hp) (Q : VK), C x y H → Q (f x y) H → r x y H Q) (hc : ∀ B M x y, Dj B M → Pa.p x B → Pb.p y B → C x y (jn B M) ∧ P.p (f x y) B) : Rv r Pa Pb P := fun B M x y dj p1 p2 Q q =>
  h x y _ Q (hc B M x y dj p1 p2).1 (q _ B (Ex.refl B) dj (hc B M x y dj p1 p2).2)
theorem dp_int {B : Hp} {v : V} (h : (isD (.int i)).p v B) : v = .int i := by cases (show Dq B v (.int i) from h); rfl
theorem dp_bool {B : Hp} {v : V} (h : (isD (.bool b)).p v B) : v = .bl b := by cases (show Dq B v (.bool b) from h); rfl
theorem dp_str {B : Hp} {x : Str} {v : V} (h : (isD (.str x)).p v B) : v = .str x := by cases (show Dq B v (.str x) from h); rfl
theorem dp_none {B : Hp} {v : V} (h : (isD .none).p v B) : v = .non := by cases (show Dq B v .none from h); rfl
theorem rv_I {C : Int → Int → Prop} {g : Int → Int → Int} (hc : C i j) : Rv (rI C fun i j => .int (g i j)) (isD (.int i)) (isD (.int j)) (isD (.int (g i j))) := fun B M x y dj p1 p2 Q q => by
  rw [dp_int p1, dp_int p2]
  exact ⟨i, j, rfl, rfl, hc, q _ B (Ex.refl B) dj (.int _)⟩
theorem rv_I0 {g : Int → Int → Int} : Rv (rI0 fun i j => .int (g i j)) (isD (.int i)) (isD (.int j)) (isD (.int (g i j))) := fun B M x y dj p1 p2 Q q => by
  rw [dp_int p1, dp_int p2]
  exact ⟨i, j, rfl, rfl, q _ B (Ex.refl B) dj (.int _)⟩
theorem rv_B0 {g : Int → Int → Bool} : Rv (rI0 fun i j => .bl (g i j)) (isD (.int i)) (isD (.int j)) (isD (.bool (g i j))) := fun B M x y dj p1 p2 Q q => by
  rw [dp_int p1, dp_int p2]
  exact ⟨i, j, rfl, rfl, q _ B (Ex.refl B) dj (.bl _)⟩
end
end Mini

namespace Mini
open PySem L2 Evl

/-! ### callees in one piece, what they raise told at the caller's slots -/
structure FnC (P : Program) (w : World) (K : PySem.W.Frag) (mg : Str → Option Value) (base : Heap) (k : Nat) (x : Str) (sp : Sp) : Prop where
  ex : ∃ (f : Addr) (fd : FuncData) (ps : List Str), FnOk P w K mg base (L2.CX P w) k f fd ps sp ∧ mg x = some (.ref f) ∧ PySem.W.keepIn K (.ref f) = true ∧ Binds K fd ps []
structure MtC (P : Program) (w : World) (K : PySem.W.Frag) (mg : Str → Option Value) (base : Heap) (k : Nat) (C : Addr) (m : Str) (sp : Sp) : Prop where
  ex : ∃ (f : Addr) (fd : FuncData) (ps : List Str), FnOk P w K mg base (L2.CX P w) k f fd ps sp ∧ Cls K C ∧ Meth K C m f ∧ Binds K fd ps []
structure MkC (P : Program) (w : World) (K : PySem.W.Frag) (mg : Str → Option Value) (base : Heap) (k : Nat) (C : Addr) (x : Str) (sp : Sp) : Prop where
  ex : ∃ (f : Addr) (fd : FuncData) (ps : List Str), FnOk P w K mg base (L2.CX P w) k f fd ps sp ∧ Mk K C f ∧ mg x = some (.ref C) ∧ Binds K fd ps []
def tMt (C : Addr) (m : Str) (sp : Sp) (E : L2.St → XK) (ta : TE) (t : TA) : TE := fun σ H Q => ta σ H fun x H1 => ∃ a dx fs, x = .ref a ∧ H1 a = some (.ins C dx fs) ∧ fs.lookup m = none ∧ t σ H1 fun vs H2 => sp (x :: vs) H2 Q (E σ)
def tMk (C : Addr) (sp : Sp) (E : L2.St → XK) (t : TA) : TE := fun σ H Q => t σ H fun vs H1 => ∀ x dx, H1 x = none → H1 dx = none → dx ≠ x → sp (.ref x :: vs) (upd (upd H1 dx (.own x)) x (.ins C dx [])) (fun v H2 => v = .non ∧ Q (.ref x) H2) (E σ)
section
open PyProof.Rows
variable {X : Cx} {k : Nat} {x m : Str} {C : Addr} {sp : Sp} {E : L2.St → XK} {p pos apos : Pos} {e o : Expr} {es : List Expr} {ta : TE} {t : TA}
theorem pe_fn (c : FnC X.prog X.w X.K X.mg X.base k x sp) {j : Nat} (hr : Room j X.A) (hx : ∀ σ, PassesAt (L2.CX X.prog X.w) X σ (E σ)) (ha : PA X (e :: es) t) (hk : k ≤ j := by decide) (hg : Gl X x := by rfl)
    (hdb : (x == ("__debug__" : Str)) = false := by decide) (he : starEach (e :: es) X.env = (false, eval e X.env) :: starEach es X.env := by rfl) (hpl : (backTo pos (starEach es X.env)).any (·.1) = false := by rfl) :
    PE X (.Call (.Name x p) (e :: es) [] pos) (tCallS sp E t) := by
  obtain ⟨f, fd, ps, F, hm, kp, hb⟩ := c.ex
  exact pe_callS F (hr.mono hk) hg hm kp hb hx ha hdb he hpl
theorem pe_mt {pl : Sem Bool} (he : PE X o ta) (c : MtC X.prog X.w X.K X.mg X.base k C m sp) {j : Nat} (hr : Room j X.A) (hx : ∀ σ, PassesAt (L2.CX X.prog X.w) X σ (E σ)) (ha : PA X (e :: es) t) (hk : k ≤ j := by decide)
    (hst : starEach (e :: es) X.env = (false, eval e X.env) :: starEach es X.env := by rfl) (hpl : (backTo pos (starEach es X.env)).any (·.1) = false := by rfl)
    (ht : eval (.Call (.Attribute o m apos) (e :: es) [] pos) X.env = (do
      let ov ← eval o X.env
      standAt apos.atName
      let (f, first) ← holding [ov] (getMethod ov m pl)
      callWith pos f first (backTo pos (starEach (e :: es) X.env)) (backToKw pos (keywordEach [] X.env))) := by rfl) :
    PE X (.Call (.Attribute o m apos) (e :: es) [] pos) (tMt C m sp E ta t) := by
  obtain ⟨f, fd, ps, F, cl, hm, hb⟩ := c.ex
  refine ⟨fun pins s σ H Q I h => ?_⟩
  refine PySem.W.methodCall_KW (pl := pl) (thn (he.run pins s σ H _ I h) fun u s1 hh => ?_) ht
  obtain ⟨x, H1, I1, rx, a, dx, fs, ex, ea, l, q⟩ := hh
  subst ex
  obtain rfl : u = Value.ref a := rx
  refine getmeth_ok I1 ea cl hm l ?_
  refine PySem.W.callWith_K (first := [.ref a]) (h₀ := X.base) I.ok.mod.kin hm.kp (thn (ha.run pos pins s1 σ H1 _ I1 q) fun us s2 hh => ?_) hst hpl
  obtain ⟨vs, H2, I2, r, q2⟩ := hh
  exact ⟨I2.kIn, run_fnS (us := .ref a :: us) (vs := .ref a :: vs) F (hr.mono hk) hb (hx σ) I2 (.cons rfl r) q2⟩
theorem pe_mt0 {pl : Sem Bool} (he : PE X o ta) (c : MtC X.prog X.w X.K X.mg X.base k C m sp) {j : Nat} (hr : Room j X.A) (hx : ∀ σ, PassesAt (L2.CX X.prog X.w) X σ (E σ)) (hk : k ≤ j := by decide)
    (ht : eval (.Call (.Attribute o m apos) [] [] pos) X.env = (do
      let ov ← eval o X.env
      standAt apos.atName
      let (f, first) ← holding [ov] (getMethod ov m pl)
      callWith pos f first (backTo pos (starEach [] X.env)) (backToKw pos (keywordEach [] X.env))) := by rfl) :
    PE X (.Call (.Attribute o m apos) [] [] pos) (tMt C m sp E ta tNil) := by
  obtain ⟨f, fd, ps, F, cl, hm, hb⟩ := c.ex
  refine ⟨fun pins s σ H Q I h => ?_⟩
  refine PySem.W.methodCall_KW (pl := pl) (thn (he.run pins s σ H _ I h) fun u s1 hh => ?_) ht
  obtain ⟨x, H1, I1, rx, a, dx, fs, ex, ea, l, q⟩ := hh
  subst ex
  obtain rfl : u = Value.ref a := rx
  refine getmeth_ok I1 ea cl hm l ?_
  exact PySem.W.callWith_K0 (first := [.ref a]) I1.kIn hm.kp (run_fnS (us := [.ref a]) (vs := [.ref a]) F (hr.mono hk) hb (hx σ) I1 (.cons rfl .nil) q)
theorem run_mkS {pins : List (Addr × Obj)} {f : Addr} {fd : FuncData} {ps : List Str} {σ : L2.St} {H : Hp} {s : Shared} {Q : VK} {us : List Value} {vs : List V} (M : Mk X.K C f) (F : FnOk X.prog X.w X.K X.mg X.base (L2.CX X.prog X.w) k f fd ps sp) (hr : Room (k + 1) X.A)
    (hb : Binds X.K fd ps []) (hx : PassesAt (L2.CX X.prog X.w) X σ (E σ)) (I : Inv X pins σ H s) (r : Vals vs us)
    (h : ∀ x dx, H x = none → H dx = none → dx ≠ x → sp (.ref x :: vs) (upd (upd H dx (.own x)) x (.ins C dx [])) (fun v H2 => v = .non ∧ Q (.ref x) H2) (E σ)) :
    wpAny (model X.prog X.w) X.A (call (.ref C) us) (EP X pins σ Q) X.xe s := by
  have hq := h (s.heap.objs.size + 1) s.heap.objs.size (I.hok.fresh (Nat.le_succ _)) (I.hok.fresh (Nat.le_refl _)) (Nat.ne_of_lt (Nat.lt_succ_self _))
  have I2 := Inv.made (C := C) I
  have r2 : Vals (V.ref (s.heap.objs.size + 1) :: vs) (Value.ref (s.heap.objs.size + 1) :: us) := .cons rfl r
  have hl : (Value.ref (s.heap.objs.size + 1) :: us ++ []).length = ps.length := by
    have e := r2.length
    rw [F.len _ _ _ _ hq] at e
    rw [List.append_nil]
    exact e.symm
  have b := hb _ (Value.ref (s.heap.objs.size + 1) :: us) I2.kIn hl
  rw [List.append_nil] at b
  refine wpAny_call (make_map (f := f) I.kIn M.makes M.init (beq_iff_eq.mp M.fn) (codeAny_mono (F.run _ X.stack _ _ ⟨Value.ref (s.heap.objs.size + 1) :: us, []⟩ (Value.ref (s.heap.objs.size + 1) :: us) _ _ (E σ) (hr.make C us []) (I2.env0.make C us []) b r2 hq) fun res s' hq' => ?_))
  cases res with
  | error e => exact hx pins _ _ e s' I2 hq'
  | ok fl =>
    cases fl with
    | ret u =>
      obtain ⟨v, H', I3, rv, ev, q3⟩ := I2.after hq'
      subst ev
      exact ⟨rv, ⟨V.ref (s.heap.objs.size + 1), H', I3, rfl, q3⟩⟩
    | next => exact False.elim hq'
    | brk => exact False.elim hq'
    | cont => exact False.elim hq'
theorem pe_mk (c : MkC X.prog X.w X.K X.mg X.base k C x sp) {j : Nat} (hr : Room j X.A) (hx : ∀ σ, PassesAt (L2.CX X.prog X.w) X σ (E σ)) (ha : PA X (e :: es) t) (hk : k + 1 ≤ j := by decide) (hg : Gl X x := by rfl)
    (hdb : (x == ("__debug__" : Str)) = false := by decide) (he : starEach (e :: es) X.env = (false, eval e X.env) :: starEach es X.env := by rfl) (hpl : (backTo pos (starEach es X.env)).any (·.1) = false := by rfl) :
    PE X (.Call (.Name x p) (e :: es) [] pos) (tMk C sp E t) := by
  obtain ⟨f, fd, ps, F, M, hm, hb⟩ := c.ex
  refine ⟨fun pins s σ H Q I h => ?_⟩
  refine wpAny_Call_Name_kw (ld_glob I hg hm ?_ hdb)
  refine PySem.W.callWith_K (h₀ := X.base) I.ok.mod.kin M.kp (thn (ha.run pos pins s σ H _ I h) fun us s1 hh => ?_) he hpl
  obtain ⟨vs, H1, I1, r, q⟩ := hh
  exact ⟨I1.kIn, run_mkS M F (hr.mono hk) hb (hx σ) I1 r q⟩
end
/-- where nothing is raised -/
theorem px0 {X : Cx} : ∀ σ : L2.St, PassesAt (L2.CX X.prog X.w) X σ ((fun _ => E0 : L2.St → XK) σ) := fun σ pins H s e s' I c => passL pins σ H s e s' I c
/-- in a def's own body -/
theorem pxM {X : Cx} {E : XK} (tk : Takes X (fun cls d _ H => E cls d H)) : ∀ σ : L2.St, PassesAt (L2.CX X.prog X.w) X σ ((fun _ => E : L2.St → XK) σ) := fun σ pins H s e s' I c => passes_call tk (fun _ _ _ _ h => h) pins σ H s e s' I c

/-! ### what a def promises -/
inductive Rs where
  | ok (P : Ty)
  | ol (ds : List PyData)
  | bad (C : Addr)
def Rs.wp (r : Rs) (B M : Hp) (Q : VK) (E : XK) : Prop := match r with
  | .ok P => ∀ v B', Ex B B' → Dj B' M → P.p v B' → Q v (jn B' M)
  | .ol ds => ∀ p vs B', Ex B B' → Dj B' M → jn B' M p = none → DqAll B' vs ds → Q (.ref p) (upd (jn B' M) p (.lst vs))
  | .bad C => ∀ B', Ex B B' → Dj B' M → E (.ref C) none (jn B' M)
structure Fs where
  α : Type
  n : Nat
  ars : α → List Ar
  len : ∀ x, (ars x).length = n
  res : α → Rs
def spF (S : Fs) : Sp := fun vs H Q E => ∃ (x : S.α) (B M : Hp), H = jn B M ∧ Dj B M ∧ ArsOk (S.ars x) vs B M ∧ (S.res x).wp B M Q E
theorem spF_len {S : Fs} {vs H Q E} (h : spF S vs H Q E) : vs.length = S.n := by
  obtain ⟨x, B, M, _, _, a, _⟩ := h
  rw [a.len, S.len]
/-- an __init__ -/
structure Is where
  α : Type
  n : Nat
  ars : α → List Ar
  len : ∀ x, (ars x).length = n
  res : α → (List (Str × V) → Hp → Prop) ⊕ Addr
def spI (C : Addr) (S : Is) : Sp := fun vs H Q E => ∃ (x : S.α) (B M : Hp) (p dx : Addr) (us : List V), vs = .ref p :: us ∧ H = jn B M ∧ Dj B M ∧ M p = some (.ins C dx []) ∧ ArsOk (S.ars x) us B M ∧
  match S.res x with
  | .inl R => ∀ B' fs, Ex B B' → Dj B' M → R fs B' → Q .non (jn B' (upd M p (.ins C dx fs)))
  | .inr X => ∀ B', Ex B B' → Dj B' M → E (.ref X) none (jn B' M)

/-! ### what follows a statement -/
inductive Out where
  | nx (G : Gm)
  | rt (P : Ty)
  | rl (ds : List PyData)
  | bk (G : Gm)
  | ct (G : Gm)
  | bad (C : Addr) (G : Gm)
def Out.ok (o : Out) (E : L2.St → XK) (D : Ends) (M0 B : Hp) : Prop := match o with
  | .nx G => ∀ σ' B' M', Ex B B' → Holds M0 G σ' B' M' → D.nx σ' (jn B' M')
  | .rt P => ∀ v B' M', Ex B B' → Dj B' M' → Ex M0 M' → P.p v B' → D.rt v (jn B' M')
  | .rl ds => ∀ p vs B' M', Ex B B' → Dj B' M' → Ex M0 M' → M0 p = none → M' p = some (.lst vs) → DqAll B' vs ds → D.rt (.ref p) (jn B' M')
  | .bk G => ∀ σ' B' M', Ex B B' → Holds M0 G σ' B' M' → D.bk σ' (jn B' M')
  | .ct G => ∀ σ' B' M', Ex B B' → Holds M0 G σ' B' M' → D.ct σ' (jn B' M')
  | .bad C G => ∀ σ' B' M', Ex B B' → Holds M0 G σ' B' M' → E σ' (.ref C) none (jn B' M')
theorem Out.ok.ext {o : Out} {E : L2.St → XK} {D : Ends} {M0 B B1 : Hp} (h : o.ok E D M0 B) (e : Ex B B1) : o.ok E D M0 B1 := by
  cases o with
  | nx G => exact fun σ' B' M' e' H => h σ' B' M' (e.trans e') H
  | rt P => exact fun v B' M' e' => h v B' M' (e.trans e')
  | rl ds => exact fun p vs B' M' e' => h p vs B' M' (e.trans e')
  | bk G => exact fun σ' B' M' e' H => h σ' B' M' (e.trans e') H
  | ct G => exact fun σ' B' M' e' H => h σ' B' M' (e.trans e') H
  | bad C G => exact fun σ' B' M' e' H => h σ' B' M' (e.trans e') H
def Ss (E : L2.St → XK) (ts : TS) (G : Gm) (o : Out) : Prop := ∀ (M0 : Hp) (D : Ends) (σ : L2.St) (B M : Hp), Holds M0 G σ B M → o.ok E D M0 B → ts D σ (jn B M)

section
variable {E : L2.St → XK} {ts tu : TS} {te ta tb : TE} {tt : TT} {G G1 G2 : Gm} {o : Out} {P : Ty} {R : Ow} {d e : PyData} {ds es : List PyData} {b : Bool}
theorem ss_seq (h : Ss E ts G (.nx G1)) (k : Ss E tu G1 o) : Ss E (tSeq ts tu) G o := fun M0 D σ B M H q => h M0 { D with nx := tu D } σ B M H fun σ' B' M' e H' => k M0 D σ' B' M' H' (q.ext e)
theorem ss_seqRt (h : Ss E ts G (.rt P)) : Ss E (tSeq ts tu) G (.rt P) := fun M0 D σ B M H q => h M0 { D with nx := tu D } σ B M H q
theorem ss_seqRl (h : Ss E ts G (.rl ds)) : Ss E (tSeq ts tu) G (.rl ds) := fun M0 D σ B M H q => h M0 { D with nx := tu D } σ B M H q
theorem ss_seqBk (h : Ss E ts G (.bk G1)) : Ss E (tSeq ts tu) G (.bk G1) := fun M0 D σ B M H q => h M0 { D with nx := tu D } σ B M H q
theorem ss_seqCt (h : Ss E ts G (.ct G1)) : Ss E (tSeq ts tu) G (.ct G1) := fun M0 D σ B M H q => h M0 { D with nx := tu D } σ B M H q
theorem ss_seqBad {C : Addr} (h : Ss E ts G (.bad C G1)) : Ss E (tSeq ts tu) G (.bad C G1) := fun M0 D σ B M H q => h M0 { D with nx := tu D } σ B M H q
theorem ss_next : Ss E tNext G (.nx G) := fun M0 D σ B M H q => q σ B M (Ex.refl B) H
theorem ss_break : Ss E tBreak G (.bk G) := fun M0 D σ B M H q => q σ B M (Ex.refl B) H
theorem ss_cont : Ss E tCont G (.ct G) := fun M0 D σ B M H q => q σ B M (Ex.refl B) H
theorem ss_ret (h : Sv te G P) : Ss E (tRet te) G (.rt P) := fun M0 D σ B M H q => h M0 σ B M H _ fun v B' e d p => q v B' M e d H.cal p
theorem ss_retN : Ss E tRetN G (.rt (isD .none)) := fun M0 D σ B M H q => q .non B M (Ex.refl B) H.dj H.cal .non
theorem ss_retL (h : Svl te G ds) : Ss E (tRet te) G (.rl ds) := fun M0 D σ B M H q => h M0 σ B M H _ fun p vs B' e d hn ha => by
  rw [upd_own]
  refine q p vs B' (upd M p (.lst vs)) e (dj_own d (jn_free hn).1) (fun a o h => ?_) ?_ upd_same ha
  · have q1 := H.cal a o h
    rw [upd_ne (ne_of_none q1 (jn_free hn).2)]
    exact q1
  · cases h0 : M0 p with
    | none => rfl
    | some o => have q1 := H.cal p o h0; rw [(jn_free hn).2] at q1; cases q1
theorem ss_retOw {n : Nat} (h : G[n]? = some (.ow (isL ds))) : Ss E (tRet (tVar n)) G (.rl ds) := fun M0 D σ B M H q => by
  obtain ⟨l, o, a, c, ⟨vs, rfl, r⟩, f⟩ := H.ow n _ h
  exact ⟨_, a, q l vs B M (Ex.refl B) H.dj H.cal f c r⟩
theorem ss_drop (h : Sv te G P) : Ss E (tDrop te) G (.nx G) := fun M0 D σ B M H q => h M0 σ B M H _ fun v B' e d _ => q σ B' M e (H.ext e d)
theorem ss_if (h : St' tt G b) (h1 : b = true → Ss E ts G o) (h2 : b = false → Ss E tu G o) : Ss E (tIfS tt ts tu) G o := fun M0 D σ B M H q => h M0 σ B M H _ fun B' e d => by
  cases b with
  | true => exact h1 rfl M0 D σ B' M (H.ext e d) (q.ext e)
  | false => exact h2 rfl M0 D σ B' M (H.ext e d) (q.ext e)
theorem ss_if1 (h : St' tt G true) (h1 : Ss E ts G o) : Ss E (tIfS tt ts tu) G o := ss_if h (fun _ => h1) (fun q => by cases q)
theorem ss_if0 (h : St' tt G false) (h1 : Ss E tu G o) : Ss E (tIfS tt ts tu) G o := ss_if h (fun q => by cases q) (fun _ => h1)
end
end Mini

namespace Mini
open PySem L2 Evl

/-! ### slots that are stored -/
theorem get_set_cases {α : Type} {l : List α} {n i : Nat} {x y : α} (h : (l.set n x)[i]? = some y) : (i = n ∧ y = x) ∨ (i ≠ n ∧ l[i]? = some y) := by
  by_cases e : n = i
  · subst e
    by_cases hl : n < l.length
    · rw [List.getElem?_set_self hl] at h; exact .inl ⟨rfl, (Option.some.inj h).symm⟩
    · rw [List.getElem?_eq_none (by simpa using hl)] at h; cases h
  · rw [List.getElem?_set_ne e] at h; exact .inr ⟨fun q => e q.symm, h⟩
section
variable {M0 B M : Hp} {G : Gm} {σ : L2.St} {n : Nat} {v : V} {P : Ty} {R R' : Ow}
theorem Holds.lt (H : Holds M0 G σ B M) {S : Sl} (h : G[n]? = some S) : n < σ.length := by rw [H.len]; exact (List.getElem?_eq_some_iff.mp h).1
theorem Holds.setIm (H : Holds M0 G σ B M) (hn : n < G.length) (hp : P.p v B) : Holds M0 (G.set n (.im P)) (σ.set n (some v)) B M where
  len := by rw [List.length_set, List.length_set]; exact H.len
  dj := H.dj
  cal := H.cal
  im := fun i P' q => by
    rcases get_set_cases q with ⟨rfl, e⟩ | ⟨e, q⟩
    · cases e; exact ⟨v, List.getElem?_set_self (by rw [H.len]; exact hn), hp⟩
    · rw [List.getElem?_set_ne (Ne.symm e)]; exact H.im i P' q
  ow := fun i R q => by
    rcases get_set_cases q with ⟨rfl, e⟩ | ⟨e, q⟩
    · cases e
    · rw [List.getElem?_set_ne (Ne.symm e)]; exact H.ow i R q
  bw := fun i R q => by
    rcases get_set_cases q with ⟨rfl, e⟩ | ⟨e, q⟩
    · cases e
    · rw [List.getElem?_set_ne (Ne.symm e)]; exact H.bw i R q
  ne := fun i j R R' l q q' a b => by
    rcases get_set_cases q with ⟨rfl, e⟩ | ⟨e, q⟩
    · cases e
    rcases get_set_cases q' with ⟨rfl, e'⟩ | ⟨e', q'⟩
    · cases e'
    rw [List.getElem?_set_ne (Ne.symm e)] at a
    rw [List.getElem?_set_ne (Ne.symm e')] at b
    exact H.ne i j R R' l q q' a b
/-- a new object of one's own at slot n -/
theorem Holds.setOw (H : Holds M0 G σ B M) (hn : n < G.length) {p : Addr} {o : HO} (hf : jn B M p = none) (hr : R.r p o B) : Holds M0 (G.set n (.ow R)) (σ.set n (some (.ref p))) B (upd M p o) where
  len := by rw [List.length_set, List.length_set]; exact H.len
  dj := dj_own H.dj (jn_free hf).1
  cal := fun a o h => by
    have q := H.cal a o h
    rw [upd_ne (ne_of_none q (jn_free hf).2)]; exact q
  im := fun i P' q => by
    rcases get_set_cases q with ⟨rfl, e⟩ | ⟨e, q⟩
    · cases e
    · rw [List.getElem?_set_ne (Ne.symm e)]; exact H.im i P' q
  ow := fun i R q => by
    rcases get_set_cases q with ⟨rfl, e⟩ | ⟨e, q⟩
    · cases e
      refine ⟨p, o, List.getElem?_set_self (by rw [H.len]; exact hn), upd_same, hr, ?_⟩
      cases h0 : M0 p with
      | none => rfl
      | some u => have q1 := H.cal p u h0; rw [(jn_free hf).2] at q1; cases q1
    · rw [List.getElem?_set_ne (Ne.symm e)]
      obtain ⟨l, o', a, b, c, d⟩ := H.ow i R q
      refine ⟨l, o', a, ?_, c, d⟩
      rw [upd_ne (ne_of_none b (jn_free hf).2)]; exact b
  bw := fun i R q => by
    rcases get_set_cases q with ⟨rfl, e⟩ | ⟨e, q⟩
    · cases e
    · rw [List.getElem?_set_ne (Ne.symm e)]; exact H.bw i R q
  ne := fun i j R R' l q q' a b => by
    have old : ∀ (i : Nat) (S : Ow), G[i]? = some (.ow S) → σ[i]? ≠ some (some (.ref p)) := fun i S hi z => by
      obtain ⟨l, o', a, b, _⟩ := H.ow i S hi
      rw [z] at a; cases a
      rw [(jn_free hf).2] at b; cases b
    rcases get_set_cases q with ⟨rfl, e⟩ | ⟨e, q⟩
    · rcases get_set_cases q' with ⟨rfl, e'⟩ | ⟨e', q'⟩
      · rfl
      · rw [List.getElem?_set_self (by rw [H.len]; exact hn)] at a; cases a
        rw [List.getElem?_set_ne (Ne.symm e')] at b
        exact absurd b (old j R' q')
    · rw [List.getElem?_set_ne (Ne.symm e)] at a
      have q0 := q
      rcases get_set_cases q' with ⟨rfl, e'⟩ | ⟨e', q'⟩
      · rw [List.getElem?_set_self (by rw [H.len]; exact hn)] at b; cases b
        exact absurd a (old i R q0)
      · rw [List.getElem?_set_ne (Ne.symm e')] at b
        exact H.ne i j R R' l q0 q' a b
/-- one's own object changes -/
theorem Holds.change (H : Holds M0 G σ B M) (h : G[n]? = some (.ow R)) {l : Addr} {o o' : HO} (hl : σ[n]? = some (some (.ref l))) (ho : M l = some o) (hr : R'.r l o' B) : Holds M0 (G.set n (.ow R')) σ B (upd M l o') where
  len := by rw [List.length_set]; exact H.len
  dj := fun a u e => by
    by_cases q : a = l
    · rw [q, dj_free H.dj ho] at e; cases e
    · rw [upd_ne q]; exact H.dj a u e
  cal := fun a u q => by
    have e : a ≠ l := fun z => by
      obtain ⟨l', o2, a1, b1, c1, d1⟩ := H.ow n R h
      rw [hl] at a1; cases a1
      rw [z, d1] at q; cases q
    rw [upd_ne e]; exact H.cal a u q
  im := fun i P' q => by
    rcases get_set_cases q with ⟨rfl, e⟩ | ⟨e, q⟩
    · cases e
    · exact H.im i P' q
  ow := fun i S q => by
    obtain ⟨l', o2, a1, b1, c1, d1⟩ := H.ow n R h
    rw [hl] at a1; cases a1
    rcases get_set_cases q with ⟨rfl, e⟩ | ⟨e, q⟩
    · cases e
      exact ⟨l, o', hl, upd_same, hr, d1⟩
    · obtain ⟨l2, o3, a, b, c, d⟩ := H.ow i S q
      have hne : l2 ≠ l := fun z => by subst z; exact e (H.ne i n S R l2 q h a hl)
      exact ⟨l2, o3, a, by rw [upd_ne hne]; exact b, c, d⟩
  bw := fun i S q => by
    rcases get_set_cases q with ⟨rfl, e⟩ | ⟨e, q⟩
    · cases e
    · exact H.bw i S q
  ne := fun i j S S' l2 q q' a b => by
    rcases get_set_cases q with ⟨rfl, e⟩ | ⟨e, q⟩
    · rcases get_set_cases q' with ⟨rfl, e'⟩ | ⟨e', q'⟩
      · rfl
      · exact H.ne i j R S' l2 h q' a b
    · have q0 := q
      rcases get_set_cases q' with ⟨rfl, e'⟩ | ⟨e', q'⟩
      · exact H.ne i j S R l2 q0 h a b
      · exact H.ne i j S S' l2 q0 q' a b
/-- a slot is forgotten -/
def Le (G1 G2 : Gm) : Prop := G1.length = G2.length ∧ ∀ (i : Nat) S, G2[i]? = some S → S = .no ∨ G1[i]? = some S
theorem Le.refl (G : Gm) : Le G G := ⟨rfl, fun _ _ h => .inr h⟩
theorem Holds.le {G' : Gm} (H : Holds M0 G σ B M) (h : Le G G') : Holds M0 G' σ B M where
  len := H.len.trans h.1
  dj := H.dj
  cal := H.cal
  im := fun i P q => by rcases h.2 i _ q with e | e; cases e; exact H.im i P e
  ow := fun i P q => by rcases h.2 i _ q with e | e; cases e; exact H.ow i P e
  bw := fun i P q => by rcases h.2 i _ q with e | e; cases e; exact H.bw i P e
  ne := fun i j R R' l q q' a b => by
    rcases h.2 i _ q with e | e
    · cases e
    rcases h.2 j _ q' with e' | e'
    · cases e'
    exact H.ne i j R R' l e e' a b
/-- the slot n is none's: whatever it holds, it is not told -/
theorem Holds.wipe (H : Holds M0 G σ B M) (n : Nat) (x : Option V) : Holds M0 (G.set n .no) (σ.set n x) B M where
  len := by rw [List.length_set, List.length_set]; exact H.len
  dj := H.dj
  cal := H.cal
  im := fun i P' q => by
    rcases get_set_cases q with ⟨rfl, e⟩ | ⟨e, q⟩
    · cases e
    · rw [List.getElem?_set_ne (Ne.symm e)]; exact H.im i P' q
  ow := fun i R q => by
    rcases get_set_cases q with ⟨rfl, e⟩ | ⟨e, q⟩
    · cases e
    · rw [List.getElem?_set_ne (Ne.symm e)]; exact H.ow i R q
  bw := fun i R q => by
    rcases get_set_cases q with ⟨rfl, e⟩ | ⟨e, q⟩
    · cases e
    · rw [List.getElem?_set_ne (Ne.symm e)]; exact H.bw i R q
  ne := fun i j R R' l q q' a b => by
    rcases get_set_cases q with ⟨rfl, e⟩ | ⟨e, q⟩
    · cases e
    rcases get_set_cases q' with ⟨rfl, e'⟩ | ⟨e', q'⟩
    · cases e'
    rw [List.getElem?_set_ne (Ne.symm e)] at a
    rw [List.getElem?_set_ne (Ne.symm e')] at b
    exact H.ne i j R R' l q q' a b
def wipeG (G : Gm) : List Nat → Gm
  | [] => G
  | v :: vs => (wipeG G vs).set v .no
theorem Holds.wipes (H : Holds M0 G σ B M) : ∀ vs, Holds M0 (wipeG G vs) (L2.wipe σ vs) B M
  | [] => H
  | v :: vs => (H.wipes vs).wipe v none
/-- the caller's own objects grow by one that is not told -/
theorem Holds.more (H : Holds M0 G σ B M) {p : Addr} {o : HO} (hf : jn B M p = none) : Holds M0 G σ B (upd M p o) where
  len := H.len
  dj := dj_own H.dj (jn_free hf).1
  cal := fun a o h => by
    have q := H.cal a o h
    rw [upd_ne (ne_of_none q (jn_free hf).2)]; exact q
  im := H.im
  ow := fun i R q => by
    obtain ⟨l, o', a, b, c, d⟩ := H.ow i R q
    exact ⟨l, o', a, by rw [upd_ne (ne_of_none b (jn_free hf).2)]; exact b, c, d⟩
  bw := H.bw
  ne := H.ne
/-- one's own object is let stand -/
def del (M : Hp) (l : Addr) : Hp := fun a => if a = l then none else M a
theorem del_ne {l a : Addr} (h : a ≠ l) : del M l a = M a := if_neg h
theorem jn_del {l : Addr} {o : HO} (h : M l = some o) : jn (upd B l o) (del M l) = jn B M := by
  funext a
  by_cases e : a = l
  · subst e
    rw [jn_N (show del M a a = none from if_pos rfl), upd_same, jn_M h]
  · unfold jn
    rw [del_ne e, upd_ne e]
theorem Holds.freeze (H : Holds M0 G σ B M) (h : G[n]? = some (.ow R)) {l : Addr} {o : HO} (hl : σ[n]? = some (some (.ref l))) (ho : M l = some o) (hp : P.p (.ref l) (upd B l o)) :
    Holds M0 (G.set n (.im P)) σ (upd B l o) (del M l) ∧ Ex B (upd B l o) := by
  have hB := dj_free H.dj ho
  have ex : Ex B (upd B l o) := Ex.new hB
  refine ⟨?_, ex⟩
  exact {
    len := by rw [List.length_set]; exact H.len
    dj := fun a u e => by
      by_cases q : a = l
      · exact if_pos q
      · rw [upd_ne q] at e; rw [del_ne q]; exact H.dj a u e
    cal := fun a u q => by
      have e : a ≠ l := fun z => by
        obtain ⟨l', o2, a1, b1, c1, d1⟩ := H.ow n R h
        rw [hl] at a1; cases a1
        rw [z, d1] at q; cases q
      rw [del_ne e]; exact H.cal a u q
    im := fun i P' q => by
      rcases get_set_cases q with ⟨rfl, e⟩ | ⟨e, q⟩
      · cases e; exact ⟨_, hl, hp⟩
      · obtain ⟨v, a, b⟩ := H.im i P' q; exact ⟨v, a, P'.mono ex b⟩
    ow := fun i S q => by
      rcases get_set_cases q with ⟨rfl, e⟩ | ⟨e, q⟩
      · cases e
      · obtain ⟨l2, o3, a, b, c, d⟩ := H.ow i S q
        have hne : l2 ≠ l := fun z => by subst z; exact e (H.ne i n S R l2 q h a hl)
        exact ⟨l2, o3, a, by rw [del_ne hne]; exact b, S.mono ex c, d⟩
    bw := fun i S q => by
      rcases get_set_cases q with ⟨rfl, e⟩ | ⟨e, q⟩
      · cases e
      · obtain ⟨l2, o3, a, b, c⟩ := H.bw i S q; exact ⟨l2, o3, a, b, S.mono ex c⟩
    ne := fun i j S S' l2 q q' a b => by
      rcases get_set_cases q with ⟨rfl, e⟩ | ⟨e, q⟩
      · cases e
      rcases get_set_cases q' with ⟨rfl, e'⟩ | ⟨e', q'⟩
      · cases e'
      exact H.ne i j S S' l2 q q' a b }
end

section
variable {E : L2.St → XK} {ts tu : TS} {te ta tb : TE} {tt : TT} {G G1 G2 : Gm} {o : Out} {P : Ty} {R : Ow} {d e : PyData} {ds es : List PyData} {b : Bool} {n : Nat}
theorem ss_set (h : Sv te G P) (hn : n < G.length := by exact Nat.le_of_ble_eq_true rfl) : Ss E (tAsg te (gName n)) G (.nx (G.set n (.im P))) := fun M0 D σ B M H q => h M0 σ B M H _ fun v B' e d p => q _ B' M e ((H.ext e d).setIm hn p)
theorem ss_setL (h : Svl te G ds) (hn : n < G.length := by exact Nat.le_of_ble_eq_true rfl) : Ss E (tAsg te (gName n)) G (.nx (G.set n (.ow (isL ds)))) := fun M0 D σ B M H q => h M0 σ B M H _ fun p vs B' e d hf ha => by
  rw [upd_own]
  exact q _ B' _ e ((H.ext e d).setOw hn hf ⟨vs, rfl, ha⟩)
theorem ss_le (hl : Le G G1) (h : Ss E ts G1 o) : Ss E ts G o := fun M0 D σ B M H q => h M0 D σ B M (H.le hl) q
theorem ss_nxLe (h : Ss E ts G (.nx G1)) (hl : Le G1 G2) : Ss E ts G (.nx G2) := fun M0 D σ B M H q => h M0 D σ B M H fun σ' B' M' e H' => q σ' B' M' e (H'.le hl)
theorem ss_ctLe (h : Ss E ts G (.ct G1)) (hl : Le G1 G2) : Ss E ts G (.ct G2) := fun M0 D σ B M H q => h M0 D σ B M H fun σ' B' M' e H' => q σ' B' M' e (H'.le hl)
theorem ss_bkLe (h : Ss E ts G (.bk G1)) (hl : Le G1 G2) : Ss E ts G (.bk G2) := fun M0 D σ B M H q => h M0 D σ B M H fun σ' B' M' e H' => q σ' B' M' e (H'.le hl)
theorem ss_nxIs (h : Ss E ts G (.nx G1)) (e : G1 = G2) : Ss E ts G (.nx G2) := e ▸ h
theorem ss_gIs (e : G = G1) (h : Ss E ts G1 o) : Ss E ts G o := e ▸ h
/-- an owned list is let stand from here on -/
theorem ss_freeze (h : G[n]? = some (.ow (isL ds))) (k : Ss E ts (G.set n (.im (isD (.list ds)))) o) : Ss E ts G o := fun M0 D σ B M H q => by
  obtain ⟨l, ob, a, c, ⟨vs, rfl, r⟩, f⟩ := H.ow n _ h
  obtain ⟨H', ex⟩ := H.freeze h a c (P := isD (.list ds)) (.lst upd_same (DqAll_ex (Ex.new (dj_free H.dj c)) r))
  have k' := k M0 D σ _ _ H' (q.ext ex)
  rw [jn_del c] at k'
  exact k'
/-- xs.append(e), xs one's own -/
theorem ss_append {K : PySem.W.Frag} (h : G[n]? = some (.ow (isL ds))) (he : Sv te G (isD d)) (hz : ds.length < sizeLine) : Ss E (tDrop (tBM K "list" rAppend (tVar n) (tCons te tNil))) G (.nx (G.set n (.ow (isL (ds ++ [d]))))) := fun M0 D σ B M H q => by
  obtain ⟨l, ob, a, c, ⟨vs, rfl, r⟩, f⟩ := H.ow n _ h
  refine ⟨.ref l, a, Or.inl ⟨rfl, vs, sq_of (jn_M c)⟩, ?_⟩
  refine he M0 σ B M H _ fun v B' e dj p => ?_
  refine ⟨l, vs, v, rfl, rfl, jn_M c, by rw [DqAll_len r]; exact hz, ?_⟩
  rw [upd_own]
  exact q σ B' _ e ((H.ext e dj).change h a c ⟨_, rfl, DqAll_append (DqAll_ex e r) (.cons p .nil)⟩)
/-- the same, the thing appended a new list: it is let stand -/
theorem ss_appendL {K : PySem.W.Frag} (h : G[n]? = some (.ow (isL ds))) (he : Svl te G es) (hz : ds.length < sizeLine) : Ss E (tDrop (tBM K "list" rAppend (tVar n) (tCons te tNil))) G (.nx (G.set n (.ow (isL (ds ++ [.list es]))))) := ss_append h (sv_svl he) hz
/-- xs[i] = e, xs one's own -/
theorem ss_setItem {i : Int} {j : Nat} (h : G[n]? = some (.ow (isL ds))) (he : Sv te G (isD d)) (hi : Sv tb G (isD (.int i))) (hj : ixN ds.length i = some j) : Ss E (tAsg te (gSub (tVar n) tb rSetL)) G (.nx (G.set n (.ow (isL (ds.set j d))))) := fun M0 D σ B M H q => by
  obtain ⟨l, ob, a, c, ⟨vs, rfl, r⟩, f⟩ := H.ow n _ h
  refine he M0 σ B M H _ fun v B1 e1 d1 p1 => ?_
  refine ⟨.ref l, a, ?_⟩
  refine hi M0 σ B1 M (H.ext e1 d1) _ fun iv B2 e2 d2 p2 => ?_
  rw [dp_int p2]
  refine ⟨l, vs, i, j, rfl, rfl, jn_M c, by rw [DqAll_len r]; exact hj, ?_⟩
  rw [upd_own]
  exact q σ B2 _ (e1.trans e2) (((H.ext e1 d1).ext e2 d2).change h a c ⟨_, rfl, DqAll_set (Dq_ex e2 d v p1) j (DqAll_ex (e1.trans e2) r)⟩)
/-- x = xs.pop(i), xs one's own -/
theorem ss_setPopAt {K : PySem.W.Frag} {m : Nat} {i : Int} (h : G[n]? = some (.ow (isL ds))) (hi : Sv te G (isD (.int i))) (hb : 0 ≤ i ∧ i < ds.length) (hz : ds.length ≤ sizeLine) (hk : ds[i.toNat]? = some d) (hm : m < G.length := by exact Nat.le_of_ble_eq_true rfl) (hne : m ≠ n := by decide) :
    Ss E (tAsg (tBM K "list" rPopAt (tVar n) (tCons te tNil)) (gName m)) G (.nx ((G.set n (.ow (isL (ds.eraseIdx i.toNat)))).set m (.im (isD d)))) := fun M0 D σ B M H q => by
  obtain ⟨l, ob, a, c, ⟨vs, rfl, r⟩, f⟩ := H.ow n _ h
  refine ⟨.ref l, a, Or.inl ⟨rfl, vs, sq_of (jn_M c)⟩, ?_⟩
  refine hi M0 σ B M H _ fun iv B1 e1 d1 p1 => ?_
  rw [dp_int p1]
  obtain ⟨y, hy, py⟩ := DqAll_get (DqAll_ex e1 r) hk
  have hlen := DqAll_len r
  have hzz : (sizeLine : Nat) = 16777216 := sizeLine_eq
  refine ⟨l, vs, i, i.toNat, y, rfl, rfl, jn_M c, by omega, by omega, ?_, hy, ?_⟩
  · unfold seqIndex?
    rw [hlen]
    have h1 : ¬ i < 0 := by omega
    have h2 : i < (ds.length : Int) := hb.2
    simp [h1, h2]
    try omega
  rw [upd_own]
  refine q _ B1 _ e1 ?_
  exact ((H.ext e1 d1).change h a c (R' := isL (ds.eraseIdx i.toNat)) ⟨_, rfl, DqAll_eraseIdx _ (DqAll_ex e1 r)⟩).setIm (by rw [List.length_set]; exact hm) py
end
end Mini

namespace Mini
open PySem L2 Evl

/-! ### operators that take whatever stands -/
section
open PyProof.Rows
variable {X : Cx}
/-- tuple * int, the answer below a million items -/
def rRepM (K : PySem.W.Frag) : R2 := fun x y H Q => ∃ l k xs, x = .ref l ∧ y = .int k ∧ SqT K H l xs ∧ xs ≠ [] ∧ 2 ≤ k ∧ (xs.length : Int) * k ≤ 1000000 ∧ ∀ p, H p = none → Q (.ref p) (upd H p (.tup (List.replicate k.toNat xs).flatten))
theorem op_repM : OpR X (binaryOp .Mult) (rRepM X.K) := by
  intro pins s σ H x y v u Q I rx ry h
  obtain ⟨l, k, xs, e1, e2, hT, hne, h1, hm', q⟩ := h
  subst e1 e2
  cases rx
  obtain ⟨t, rfl⟩ := ry
  obtain ⟨its, r, ⟨⟨cls, dd, data, sl⟩, ho, hc, n, hd⟩, hs⟩ := I.tuple hT
  simp only at hc hd
  subst hc hd
  have hle : its.length = xs.length := r.length.symm
  have hpos : 1 ≤ its.length := by
    cases its with
    | nil => exact absurd (List.length_eq_zero_iff.mp hle.symm) hne
    | cons a b => exact Nat.succ_le_succ (Nat.zero_le _)
  have hi : its.toArray.isEmpty = false := by
    cases its with
    | nil => exact absurd hpos (by decide)
    | cons a b => rfl
  have hk : k ≤ 1000000 := by
    have z : (1 : Int) * k ≤ (xs.length : Int) * k := Int.mul_le_mul_of_nonneg_right (by omega) (by omega)
    omega
  have hm : ((its.toArray.size : Nat) : Int) * k ≤ 1000000 := by rw [List.size_toArray, hle]; exact hm'
  have hmN : k.toNat * xs.length ≤ 1000000 := by
    have z : ((k.toNat * xs.length : Nat) : Int) ≤ 1000000 := by
      rw [Int.natCast_mul, Int.toNat_of_nonneg (by omega), Int.mul_comm]; exact hm'
    omega
  have flen : (List.replicate k.toNat its).flatten.length ≤ sizeLine := by
    rw [PyProof.Rows.lm_len_rep_flat, hle, sizeLine_eq]
    omega
  have a0 : (decide (k < -(2 ^ 63)) || decide (k ≥ 2 ^ 63)) = false := by
    rw [decide_eq_false (by omega), decide_eq_false (by omega)]; rfl
  have a1 : (its.toArray.isEmpty || k == 1) = false := by rw [hi, Bool.false_or]; exact beq_eq_false_iff_ne.mpr (by omega)
  have a2 : (decide (k ≤ 0) || its.toArray.isEmpty) = false := by rw [hi, Bool.or_false]; exact decide_eq_false (by omega)
  have a4 : Builtin.Tuple.tupleTooMany (((its.toArray.size : Nat) : Int) * k) = false := by unfold Builtin.Tuple.tupleTooMany; rw [sizeLine_eq]; exact decide_eq_false (by omega)
  refine wpAny_binaryOp_repeat_ref (T := "tuple") (U := "int") (by decide) ⟨_, ho, rfl⟩ (fun s' => typeIs_int s' k t) noFill_tuple_mul F.fills_int_mul F.slot_int_rmul repeat_tuple F.slot_int_index.lookup ?_
  refine call_meets F.slot_int_rmul (typeIs_int s k t) F.entry_int_rmul (F.args_int_rmul_2 _ _) (int_rmul_tuple k t l its.toArray n dd sl) ⟨ho, rfl, ⟨_, ho, rfl⟩, ?_⟩
  refine call_meets F.slot_tuple_mul ⟨_, ho, rfl⟩ F.entry_tuple_mul (F.args_tuple_mul_2 _ _) (tuple_mulW l its.toArray n dd sl k t a0 a1 a2 (by omega) a4 (by rw [size_rep, List.size_toArray]; exact flen)) ⟨ho, ?_⟩
  rw [size_rep]
  refine ⟨.ref s.heap.objs.size, _, I.laid (t' := s.toks) (o := .tup (List.replicate k.toNat xs).flatten) (fun b ob q => Heap.get?_push_of_some _ q) (Nat.le_refl _) ?_, rfl, q _ (I.hok.fresh (Nat.le_refl _))⟩
  exact ⟨by rw [PyProof.Rows.lm_len_rep_flat, sizeLine_eq]; omega, _, r.rep k.toNat, IsTup.new _ _⟩
def rAddS2 : R2 := fun x y H Q => ∃ i j, x = .str i ∧ y = .str j ∧ i.length + j.length ≤ sizeLine ∧ Q (.str (i ++ j)) H
def uAdd (K : PySem.W.Frag) : R2 := fun x y H Q => rI0 (fun i j => .int (i + j)) x y H Q ∨ (rCat x y H Q ∨ (rCatA K x y H Q ∨ rAddS2 x y H Q))
theorem op_uAdd : OpR X (binaryOp .Add) (uAdd X.K) := OpR.or op_add (OpR.or op_cat (OpR.or op_catA op_add_str))
def uMul (K : PySem.W.Frag) : R2 := fun x y H Q => rI CMul (fun i j => .int (i * j)) x y H Q ∨ (rRep x y H Q ∨ rRepM K x y H Q)
theorem op_uMul : OpR X (binaryOp .Mult) (uMul X.K) := OpR.or op_mul (OpR.or op_rep op_repM)
def uSl (K : PySem.W.Frag) : V → Option Int → Option Int → Hp → VK → Prop := fun x lo hi H Q => rSlL K x lo hi H Q ∨ rSlA K x lo hi H Q
theorem sl_uSl : SlR X (uSl X.K) := SlR.or sl_list sl_tupA
end
end Mini

namespace Mini
open PySem L2 Evl

/-- the items of ds[lo:hi] -/
def cutD {α : Type} (ds : List α) (lo hi : Option Int) : List α := (ds.drop (HT.sIx ds.length 0 lo)).take (HT.sIx ds.length ds.length hi - HT.sIx ds.length 0 lo)
theorem DqAll_cut {B : Hp} {ds : List PyData} {vs : List V} (h : DqAll B vs ds) (lo hi : Option Int) : DqAll B (cutV vs lo hi) (cutD ds lo hi) := by
  unfold cutV cutD
  rw [DqAll_len h]
  exact DqAll_take _ (DqAll_drop _ h)
theorem DqAll_atI {B : Hp} {ds : List PyData} {vs : List V} (h : DqAll B vs ds) {i : Int} {d : PyData} (e : atI ds i = some d) : ∃ v, atI vs i = some v ∧ Dq B v d := by
  unfold atI at e ⊢
  rw [DqAll_len h]
  cases q : ixN ds.length i with
  | none => rw [q] at e; cases e
  | some j => rw [q] at e; exact DqAll_get h e
theorem ars_data {B M : Hp} : ∀ {ds : List PyData} {vs : List V}, ArsOk (ds.map fun d => .im (isD d)) vs B M → DqAll B vs ds
  | [], _, h => by cases h; exact .nil
  | d :: ds, _, h => by cases h with | cons a b => exact .cons a (ars_data b)
def tyName : PyData → String
  | .none => "NoneType"
  | .bool _ => "bool"
  | .int _ => "int"
  | .str _ => "str"
  | .list _ => "list"
  | .tuple _ => "tuple"
  | .dict _ => "dict"
theorem Dq_ty {K : PySem.W.Frag} {H : Hp} {v : V} {d : PyData} (h : Dq H v d) : TyX K H v (.type (tyName d)) := by
  cases h with
  | non => exact .base .non
  | bl b => exact .base (.bl b)
  | int i => exact .base (.int i)
  | str x => exact .base (.str x)
  | lst e _ => exact .base (.lst e)
  | tup e _ => exact .base (.tup e)
/-- the script: a list of ints that is read alone -/
def isS (K : PySem.W.Frag) (ns : List Int) : Ty := ⟨fun v B => ∃ a, v = .ref a ∧ SqL K B a (ns.map V.int), fun e h => by obtain ⟨a, h1, h2⟩ := h; exact ⟨a, h1, ex_l e h2⟩⟩

section
variable {K : PySem.W.Frag} {G : Gm} {te ta tb tc tl : TE} {tt tu : TT} {tas : TA} {P Pa Pb Pc : Ty} {R : Ow} {d e : PyData} {ds es : List PyData} {b c : Bool} {i j : Int} {E : L2.St → XK}

/-! ints -/
theorem sv_op2 {r : R2} (ha : Sv ta G Pa) (hb : Sv tb G Pb) (hr : Rv r Pa Pb P) : Sv (tOp r ta tb) G P := sv_op ha hb hr
theorem sv_add (ha : Sv ta G (isD (.int i))) (hb : Sv tb G (isD (.int j))) : Sv (tOp (uAdd K) ta tb) G (isD (.int (i + j))) := sv_op ha hb (rv_or1 rv_I0)
theorem sv_sub (ha : Sv ta G (isD (.int i))) (hb : Sv tb G (isD (.int j))) : Sv (tOp (rI0 fun i j => .int (i - j)) ta tb) G (isD (.int (i - j))) := sv_op ha hb rv_I0
theorem sv_mul (ha : Sv ta G (isD (.int i))) (hb : Sv tb G (isD (.int j))) (hc : CMul i j) : Sv (tOp (uMul K) ta tb) G (isD (.int (i * j))) := sv_op ha hb (rv_or1 (rv_I hc))
theorem sv_mod (ha : Sv ta G (isD (.int i))) (hb : Sv tb G (isD (.int j))) (hc : 0 < j) : Sv (tOp (rI (fun _ j => 0 < j) fun i j => .int (i % j)) ta tb) G (isD (.int (i % j))) := sv_op ha hb (rv_I (C := fun _ j => 0 < j) hc)
theorem sv_div (ha : Sv ta G (isD (.int i))) (hb : Sv tb G (isD (.int j))) (hc : CDiv i j) : Sv (tOp (rI CDiv fun i j => .int (i / j)) ta tb) G (isD (.int (i / j))) := sv_op ha hb (rv_I hc)
theorem sv_pow (ha : Sv ta G (isD (.int i))) (hb : Sv tb G (isD (.int j))) (hc : CPow i j) : Sv (tOp (rI CPow fun i j => .int (i ^ j.toNat)) ta tb) G (isD (.int (i ^ j.toNat))) := sv_op ha hb (rv_I hc)
theorem sv_cmp {g : Int → Int → Bool} (ha : Sv ta G (isD (.int i))) (hb : Sv tb G (isD (.int j))) : Sv (tOp (rI0 fun i j => .bl (g i j)) ta tb) G (isD (.bool (g i j))) := sv_op ha hb rv_B0
theorem sv_neg (ha : Sv ta G (isD (.int i))) : Sv (tUn (rU fun i => .int (-i)) ta) G (isD (.int (-i))) := fun M0 σ B M H Q q => ha M0 σ B M H _ fun v B' e d p => ⟨i, dp_int p, q _ B' e d (.int _)⟩
/-- a op b op' c -/
theorem sv_chain {g g' : Int → Int → Bool} {i j k : Int} (ha : Sv ta G (isD (.int i))) (hb : Sv tb G (isD (.int j))) (hc : g i j = true → Sv tc G (isD (.int k))) : Sv (tChain (rI0 fun i j => .bl (g i j)) (rI0 fun i j => .bl (g' i j)) ta tb tc) G (isD (.bool (g i j && g' j k))) := fun M0 σ B M H Q q =>
  ha M0 σ B M H _ fun x B1 e1 d1 p1 => hb M0 σ B1 M (H.ext e1 d1) _ fun y B2 e2 d2 p2 => by
    rw [dp_int p1, dp_int p2]
    refine ⟨i, j, rfl, rfl, g i j, rfl, ?_⟩
    cases h : g i j with
    | true =>
      rw [if_pos rfl]
      refine hc h M0 σ B2 M ((H.ext e1 d1).ext e2 d2) _ fun z B3 e3 d3 p3 => ?_
      rw [dp_int p3]
      refine ⟨j, k, rfl, rfl, q _ B3 ((e1.trans e2).trans e3) d3 ?_⟩
      rw [h]
      exact .bl _
    | false =>
      rw [if_neg Bool.false_ne_true]
      refine q _ B2 (e1.trans e2) d2 ?_
      rw [h]
      exact .bl _

/-! == of data -/
theorem rv_eqD (h1 : SeqAt.shaped d = true) (h2 : SeqAt.shaped e = true) : Rv (rEqD K) (isD d) (isD e) (isD (.bool (PyData.eqv d e))) := fun B M x y dj p1 p2 Q q => ⟨d, e, Dq_dp d x (Dq_ex (jn_ex dj) d x p1), Dq_dp e y (Dq_ex (jn_ex dj) e y p2), h1, h2, q _ B (Ex.refl B) dj (.bl _)⟩
theorem rv_neD (h1 : SeqAt.shaped d = true) (h2 : SeqAt.shaped e = true) : Rv (rNeD K) (isD d) (isD e) (isD (.bool (!PyData.eqv d e))) := fun B M x y dj p1 p2 Q q => ⟨d, e, Dq_dp d x (Dq_ex (jn_ex dj) d x p1), Dq_dp e y (Dq_ex (jn_ex dj) e y p2), h1, h2, q _ B (Ex.refl B) dj (.bl _)⟩
theorem sv_eq (ha : Sv ta G (isD d)) (hb : Sv tb G (isD e)) (h1 : SeqAt.shaped d = true) (h2 : SeqAt.shaped e = true) : Sv (tOp (rEqD K) ta tb) G (isD (.bool (PyData.eqv d e))) := sv_op ha hb (rv_eqD h1 h2)
theorem sv_ne (ha : Sv ta G (isD d)) (hb : Sv tb G (isD e)) (h1 : SeqAt.shaped d = true) (h2 : SeqAt.shaped e = true) : Sv (tOp (rNeD K) ta tb) G (isD (.bool (!PyData.eqv d e))) := sv_op ha hb (rv_neD h1 h2)
theorem sv_eqI (ha : Sv ta G (isD (.int i))) (hb : Sv tb G (isD (.int j))) : Sv (tOp (rEqD K) ta tb) G (isD (.bool (decide (i = j)))) := by
  refine sv_is (sv_eq ha hb rfl rfl) ?_
  show PyData.bool (PyData.eqv (.int i) (.int j)) = _
  rw [PyData.eqv]
  congr 1
theorem sv_neI (ha : Sv ta G (isD (.int i))) (hb : Sv tb G (isD (.int j))) : Sv (tOp (rNeD K) ta tb) G (isD (.bool (!decide (i = j)))) := by
  refine sv_is (sv_ne ha hb rfl rfl) ?_
  show PyData.bool (!PyData.eqv (.int i) (.int j)) = _
  rw [PyData.eqv]
  congr 2
theorem sv_isN (ha : Sv ta G (isD d)) : Sv (tOp (fun x y H Q => y = .non ∧ Q (.bl (decide (x = .non))) H) ta (tC .non)) G (isD (.bool (match d with | .none => true | _ => false))) := fun M0 σ B M H Q q => ha M0 σ B M H _ fun v B' e dj p => ⟨rfl, by
  refine q _ B' e dj ?_
  cases p with
  | non => exact .bl _
  | _ => exact .bl false⟩

/-! sequences -/
theorem svl_cat (ha : Rl ta G ds) (hb : Rl tb G es) (hz : ds.length + es.length ≤ sizeLine) : Svl (tOp (uAdd K) ta tb) G (ds ++ es) := fun M0 σ B M H Q q =>
  ha M0 σ B M H _ fun a vs B1 e1 d1 h1 q1 => hb M0 σ B1 M (H.ext e1 d1) _ fun a2 us B2 e2 d2 h2 q2 => .inr (.inl
    ⟨a, a2, vs, us, rfl, rfl, jn_mono e2 d2 _ _ h1, h2, by rw [DqAll_len q1, DqAll_len q2]; exact hz, fun p hp => q p _ B2 (e1.trans e2) d2 hp (DqAll_append (DqAll_ex e2 q1) q2)⟩)
theorem svl_rep (ha : Rl ta G ds) (hb : Sv tb G (isD (.int i))) (h0 : -(2 ^ 63) ≤ i) (h1 : i < 2 ^ 63) (hz : ds.length * i.toNat ≤ sizeLine) : Svl (tOp (uMul K) ta tb) G (List.replicate i.toNat ds).flatten := fun M0 σ B M H Q q =>
  ha M0 σ B M H _ fun a vs B1 e1 d1 hh q1 => hb M0 σ B1 M (H.ext e1 d1) _ fun y B2 e2 d2 p2 => by
    rw [dp_int p2]
    exact .inr (.inl ⟨a, i, vs, rfl, rfl, jn_mono e2 d2 _ _ hh, h0, h1, by rw [DqAll_len q1]; exact hz, fun p hp => q p _ B2 (e1.trans e2) d2 hp (DqAll_rep (DqAll_ex e2 q1) _)⟩)
theorem dq_tup {B : Hp} {v : V} (h : (isD (.tuple ds)).p v B) : ∃ a vs, v = .ref a ∧ B a = some (.tup vs) ∧ DqAll B vs ds := by cases (show Dq B v (.tuple ds) from h) with | tup h1 h2 => exact ⟨_, _, rfl, h1, h2⟩
theorem dq_lst {B : Hp} {v : V} (h : (isD (.list ds)).p v B) : ∃ a vs, v = .ref a ∧ B a = some (.lst vs) ∧ DqAll B vs ds := by cases (show Dq B v (.list ds) from h) with | lst h1 h2 => exact ⟨_, _, rfl, h1, h2⟩
theorem sv_catT (ha : Sv ta G (isD (.tuple ds))) (hb : Sv tb G (isD (.tuple es))) (hz : ds.length + es.length ≤ sizeLine) : Sv (tOp (uAdd K) ta tb) G (isD (.tuple (ds ++ es))) := fun M0 σ B M H Q q =>
  ha M0 σ B M H _ fun x B1 e1 d1 p1 => hb M0 σ B1 M (H.ext e1 d1) _ fun y B2 e2 d2 p2 => by
    obtain ⟨a, vs, rfl, h1, q1⟩ := dq_tup ((isD (.tuple ds)).mono e2 p1)
    obtain ⟨a2, us, rfl, h2, q2⟩ := dq_tup p2
    refine .inr (.inr (.inl ⟨a, a2, vs, us, rfl, rfl, st_of (jn_B d2 h1), st_of (jn_B d2 h2), by rw [DqAll_len q1, DqAll_len q2]; exact hz, fun z => ?_, fun _ z => ?_, fun _ _ p hp => ?_⟩))
    · refine q _ B2 (e1.trans e2) d2 (.tup h2 ?_)
      have z' : ds = [] := by have := DqAll_len q1; rw [z] at this; exact List.length_eq_zero_iff.mp this.symm
      rw [z', List.nil_append]; exact q2
    · refine q _ B2 (e1.trans e2) d2 (.tup h1 ?_)
      have z' : es = [] := by have := DqAll_len q2; rw [z] at this; exact List.length_eq_zero_iff.mp this.symm
      rw [z', List.append_nil]; exact q1
    · rw [upd_new hp]
      exact q _ _ ((e1.trans e2).trans (ex_new hp)) (dj_new d2 hp) (.tup upd_same (DqAll_ex (ex_new hp) (DqAll_append q1 q2)))
theorem sv_repT (ha : Sv ta G (isD (.tuple ds))) (hb : Sv tb G (isD (.int i))) (hn : ds ≠ []) (h0 : 2 ≤ i) (hz : (ds.length : Int) * i ≤ 1000000) : Sv (tOp (uMul K) ta tb) G (isD (.tuple (List.replicate i.toNat ds).flatten)) := fun M0 σ B M H Q q =>
  ha M0 σ B M H _ fun x B1 e1 d1 p1 => hb M0 σ B1 M (H.ext e1 d1) _ fun y B2 e2 d2 p2 => by
    obtain ⟨a, vs, rfl, h1, q1⟩ := dq_tup ((isD (.tuple ds)).mono e2 p1)
    rw [dp_int p2]
    refine .inr (.inr ⟨a, i, vs, rfl, rfl, st_of (jn_B d2 h1), fun z => hn ?_, h0, by rw [DqAll_len q1]; exact hz, fun p hp => ?_⟩)
    · have := DqAll_len q1; rw [z] at this; exact List.length_eq_zero_iff.mp this.symm
    · rw [upd_new hp]
      exact q _ _ ((e1.trans e2).trans (ex_new hp)) (dj_new d2 hp) (.tup upd_same (DqAll_ex (ex_new hp) (DqAll_rep q1 _)))
theorem sv_ixL (ha : Rl ta G ds) (hb : Sv tb G (isD (.int i))) (hi : atI ds i = some d) : Sv (tOp (rIx K) ta tb) G (isD d) := fun M0 σ B M H Q q =>
  ha M0 σ B M H _ fun a vs B1 e1 d1 hh q1 => hb M0 σ B1 M (H.ext e1 d1) _ fun y B2 e2 d2 p2 => by
    rw [dp_int p2]
    obtain ⟨v, h1, h2⟩ := DqAll_atI q1 hi
    exact .inl ⟨a, vs, i, v, rfl, rfl, sq_of (jn_mono e2 d2 _ _ hh), h1, q v B2 (e1.trans e2) d2 (Dq_ex e2 d v h2)⟩
theorem sv_ixT (ha : Sv ta G (isD (.tuple ds))) (hb : Sv tb G (isD (.int i))) (hi : atI ds i = some d) : Sv (tOp (rIx K) ta tb) G (isD d) := fun M0 σ B M H Q q =>
  ha M0 σ B M H _ fun x B1 e1 d1 p1 => hb M0 σ B1 M (H.ext e1 d1) _ fun y B2 e2 d2 p2 => by
    obtain ⟨a, vs, rfl, hh, q1⟩ := dq_tup ((isD (.tuple ds)).mono e2 p1)
    rw [dp_int p2]
    obtain ⟨v, h1, h2⟩ := DqAll_atI q1 hi
    exact .inr (.inl ⟨a, vs, i, v, rfl, rfl, st_of (jn_B d2 hh), h1, q v B2 (e1.trans e2) d2 h2⟩)
theorem so_none : So tNoPart G none := fun M0 σ B M H Q q => q B (Ex.refl B) H.dj
theorem so_some (h : Sv te G (isD (.int i))) : So (tPart te) G (some i) := fun M0 σ B M H Q q => h M0 σ B M H _ fun v B' e d p => ⟨i, dp_int p, q B' e d⟩
theorem svl_slice {to th : TO} {lo hi : Option Int} (ha : Rl ta G ds) (hl : So to G lo) (hu : So th G hi) : Svl (tSl (uSl K) ta to th) G (cutD ds lo hi) := fun M0 σ B M H Q q =>
  ha M0 σ B M H _ fun a vs B1 e1 d1 hh q1 => hl M0 σ B1 M (H.ext e1 d1) _ fun B2 e2 d2 => hu M0 σ B2 M ((H.ext e1 d1).ext e2 d2) _ fun B3 e3 d3 =>
    .inl ⟨a, vs, rfl, sq_of (jn_mono (e2.trans e3) d3 _ _ hh), fun p hp => q p _ B3 ((e1.trans e2).trans e3) d3 hp (DqAll_cut (DqAll_ex (e2.trans e3) q1) lo hi)⟩
theorem svl_sliceS {to th : TO} {lo hi : Option Int} {ns : List Int} (ha : Sv ta G (isS K ns)) (hl : So to G lo) (hu : So th G hi) : Svl (tSl (uSl K) ta to th) G ((cutD ns lo hi).map PyData.int) := fun M0 σ B M H Q q =>
  ha M0 σ B M H _ fun x B1 e1 d1 p1 => hl M0 σ B1 M (H.ext e1 d1) _ fun B2 e2 d2 => hu M0 σ B2 M ((H.ext e1 d1).ext e2 d2) _ fun B3 e3 d3 => by
    obtain ⟨a, rfl, hh⟩ := p1
    refine .inl ⟨a, _, rfl, ex_l (jn_ex d3) (ex_l (e2.trans e3) hh), fun p hp => ?_⟩
    refine q p _ B3 ((e1.trans e2).trans e3) d3 hp ?_
    have hc : cutV (ns.map V.int) lo hi = (cutD ns lo hi).map V.int := by unfold cutV cutD; rw [List.length_map, List.map_take, List.map_drop]
    rw [hc]
    exact DqAll_ofInts _
theorem sv_sliceT {to th : TO} {lo hi : Option Int} (ha : Sv ta G (isD (.tuple ds))) (hl : So to G lo) (hu : So th G hi) : Sv (tSl (uSl K) ta to th) G (isD (.tuple (cutD ds lo hi))) := fun M0 σ B M H Q q =>
  ha M0 σ B M H _ fun x B1 e1 d1 p1 => hl M0 σ B1 M (H.ext e1 d1) _ fun B2 e2 d2 => hu M0 σ B2 M ((H.ext e1 d1).ext e2 d2) _ fun B3 e3 d3 => by
    obtain ⟨a, vs, rfl, hh, q1⟩ := dq_tup ((isD (.tuple ds)).mono (e2.trans e3) p1)
    refine .inr ⟨a, vs, rfl, st_of (jn_B d3 hh), fun z => ?_, fun _ p hp => ?_⟩
    · refine q _ B3 ((e1.trans e2).trans e3) d3 (.tup hh ?_)
      have w := DqAll_cut q1 lo hi
      unfold cutV at w
      rw [z.1, z.2, List.drop_zero, Nat.sub_zero, List.take_length] at w
      exact w
    · rw [upd_new hp]
      exact q _ _ (((e1.trans e2).trans e3).trans (ex_new hp)) (dj_new d3 hp) (.tup upd_same (DqAll_ex (ex_new hp) (DqAll_cut q1 lo hi)))
theorem sa_ims {tr : TA} (h : Sv te G (isD d)) (hr : Sa tr G (ds.map fun d => .im (isD d))) : Sa (tCons te tr) G ((d :: ds).map fun d => .im (isD d)) := sa_im h hr
theorem sv_tup (h : Sa tas G (ds.map fun d => .im (isD d))) (hz : ds.length ≤ sizeLine) : Sv (tTup tas) G (isD (.tuple ds)) := fun M0 σ B M H Q q => h M0 σ B M H _ fun vs B' e dj p => by
  refine ⟨by rw [DqAll_len (ars_data p)]; exact hz, fun a ha => ?_⟩
  rw [upd_new ha]
  exact q _ _ (e.trans (ex_new ha)) (dj_new dj ha) (.tup upd_same (DqAll_ex (ex_new ha) (ars_data p)))
theorem svl_lst (h : Sa tas G (ds.map fun d => .im (isD d))) (hz : ds.length ≤ sizeLine) : Svl (tLst tas) G ds := fun M0 σ B M H Q q => h M0 σ B M H _ fun vs B' e dj p => by
  refine ⟨by rw [DqAll_len (ars_data p)]; exact hz, fun a ha => ?_⟩
  exact q _ _ _ e dj ha (ars_data p)

/-! built-in calls -/
theorem sv_lenL (ha : Rl ta G ds) : Sv (tCB (fun xs H Q => ∃ x n, xs = [x] ∧ LenV K x H n ∧ Q (.int n) H) (tCons ta tNil)) G (isD (.int ds.length)) := fun M0 σ B M H Q q => ha M0 σ B M H _ fun a vs B1 e1 d1 hh q1 =>
  ⟨.ref a, ds.length, rfl, .inl ⟨vs, sq_of hh, (DqAll_len q1).symm⟩, q _ B1 e1 d1 (.int _)⟩
theorem sv_lenT (ha : Sv ta G (isD (.tuple ds))) : Sv (tCB (fun xs H Q => ∃ x n, xs = [x] ∧ LenV K x H n ∧ Q (.int n) H) (tCons ta tNil)) G (isD (.int ds.length)) := fun M0 σ B M H Q q => ha M0 σ B M H _ fun x B1 e1 d1 p1 => by
  obtain ⟨a, vs, rfl, hh, q1⟩ := dq_tup p1
  exact ⟨.ref a, ds.length, rfl, .inr ⟨vs, st_of (jn_B d1 hh), (DqAll_len q1).symm⟩, q _ B1 e1 d1 (.int _)⟩
theorem svl_list (ha : Rl ta G ds) : Svl (tCB (fun xs H Q => ∃ p ys, xs = [.ref p] ∧ (SqL K H p ys ∨ SqT K H p ys) ∧ ∀ l, H l = none → Q (.ref l) (upd H l (.lst ys))) (tCons ta tNil)) G ds := fun M0 σ B M H Q q => ha M0 σ B M H _ fun a vs B1 e1 d1 hh q1 =>
  ⟨a, vs, rfl, .inl (sq_of hh), fun l hl => q l vs B1 e1 d1 hl q1⟩
theorem svl_listT (ha : Sv ta G (isD (.tuple ds))) : Svl (tCB (fun xs H Q => ∃ p ys, xs = [.ref p] ∧ (SqL K H p ys ∨ SqT K H p ys) ∧ ∀ l, H l = none → Q (.ref l) (upd H l (.lst ys))) (tCons ta tNil)) G ds := fun M0 σ B M H Q q => ha M0 σ B M H _ fun x B1 e1 d1 p1 => by
  obtain ⟨a, vs, rfl, hh, q1⟩ := dq_tup p1
  exact ⟨a, vs, rfl, .inr (st_of (jn_B d1 hh)), fun l hl => q l vs B1 e1 d1 hl q1⟩
theorem sv_tupleL (ha : Rl ta G ds) : Sv (tThen ta (kTup K)) G (isD (.tuple ds)) := fun M0 σ B M H Q q => ha M0 σ B M H _ fun a vs B1 e1 d1 hh q1 =>
  .inl ⟨a, vs, rfl, sq_of hh, fun l hl => by
    rw [upd_new hl]
    exact q _ _ (e1.trans (ex_new hl)) (dj_new d1 hl) (.tup upd_same (DqAll_ex (ex_new hl) q1))⟩
theorem sv_tupleT (ha : Sv ta G (isD (.tuple ds))) : Sv (tThen ta (kTup K)) G (isD (.tuple ds)) := fun M0 σ B M H Q q => ha M0 σ B M H _ fun x B1 e1 d1 p1 => by
  obtain ⟨a, vs, rfl, hh, q1⟩ := dq_tup p1
  exact .inr ⟨a, vs, rfl, st_of (jn_B d1 hh), q _ B1 e1 d1 (.tup hh q1)⟩
abbrev cInt : List V → Hp → VK → Prop := fun xs H Q => (∃ i, xs = [.int i] ∧ Q (.int i) H) ∨ ∃ k, xs = [.bl k] ∧ Q (.int (if k then 1 else 0)) H
theorem sv_int1 (ha : Sv ta G (isD (.int i))) : Sv (tCB cInt (tCons ta tNil)) G (isD (.int i)) := fun M0 σ B M H Q q => ha M0 σ B M H _ fun x B1 e1 d1 p1 => .inl ⟨i, by rw [dp_int p1], q _ B1 e1 d1 (.int _)⟩
theorem sv_intB (ha : Sv ta G (isD (.bool b))) : Sv (tCB cInt (tCons ta tNil)) G (isD (.int (if b then 1 else 0))) := fun M0 σ B M H Q q => ha M0 σ B M H _ fun x B1 e1 d1 p1 => .inr ⟨b, by rw [dp_bool p1], q _ B1 e1 d1 (.int _)⟩
theorem sv_abs (ha : Sv ta G (isD (.int i))) : Sv (tCB (fun xs H Q => ∃ i, xs = [.int i] ∧ Q (.int (if i < 0 then -i else i)) H) (tCons ta tNil)) G (isD (.int (if i < 0 then -i else i))) := fun M0 σ B M H Q q => ha M0 σ B M H _ fun x B1 e1 d1 p1 => ⟨i, by rw [dp_int p1], q _ B1 e1 d1 (.int _)⟩
theorem sv_max2 (ha : Sv ta G (isD (.int i))) (hb : Sv tb G (isD (.int j))) : Sv (tCB (fun xs H Q => ∃ i j, xs = [.int i, .int j] ∧ Q (.int (if j > i then j else i)) H) (tCons ta (tCons tb tNil))) G (isD (.int (if j > i then j else i))) := fun M0 σ B M H Q q =>
  ha M0 σ B M H _ fun x B1 e1 d1 p1 => hb M0 σ B1 M (H.ext e1 d1) _ fun y B2 e2 d2 p2 => ⟨i, j, by rw [dp_int p1, dp_int p2], q _ B2 (e1.trans e2) d2 (.int _)⟩
theorem sv_all {bs : List Bool} (ha : Rl ta G (bs.map PyData.bool)) : Sv (tCB (rAll K) (tCons ta tNil)) G (isD (.bool (bs.all id))) := fun M0 σ B M H Q q => ha M0 σ B M H _ fun a vs B1 e1 d1 hh q1 => ⟨a, bs, rfl, by rw [← DqAll_bools q1]; exact sq_of hh, q _ B1 e1 d1 (.bl _)⟩
theorem sv_any {bs : List Bool} (ha : Rl ta G (bs.map PyData.bool)) : Sv (tCB (rAny K) (tCons ta tNil)) G (isD (.bool (bs.any id))) := fun M0 σ B M H Q q => ha M0 σ B M H _ fun a vs B1 e1 d1 hh q1 => ⟨a, bs, rfl, by rw [← DqAll_bools q1]; exact sq_of hh, q _ B1 e1 d1 (.bl _)⟩
theorem sv_sum {ns : List Int} (ha : Rl ta G (ns.map PyData.int)) : Sv (tCB (rSum K) (tCons ta tNil)) G (isD (.int ns.sum)) := fun M0 σ B M H Q q => ha M0 σ B M H _ fun a vs B1 e1 d1 hh q1 => ⟨a, ns, rfl, by rw [← DqAll_ints q1]; exact sq_of hh, q _ B1 e1 d1 (.int _)⟩
theorem sv_isi {n : String} (ha : Sv ta G (isD d)) (hb : Sv tb G (isV (.ty n))) (h : kitB (tyName d) n = some b) : Sv (tCB (rIsi K) (tCons ta (tCons tb tNil))) G (isD (.bool b)) := fun M0 σ B M H Q q =>
  ha M0 σ B M H _ fun x B1 e1 d1 p1 => hb M0 σ B1 M (H.ext e1 d1) _ fun y B2 e2 d2 p2 => ⟨x, y, _, _, b, rfl, by rw [show y = .ty n from p2]; exact .ty n, Dq_ty (Dq_ex (e2.trans (jn_ex d2)) d x p1), kit_ty h, q _ B2 (e1.trans e2) d2 (.bl _)⟩
theorem sv_isiL {n : String} (ha : Rl ta G ds) (hb : Sv tb G (isV (.ty n))) (h : kitB "list" n = some b) : Sv (tCB (rIsi K) (tCons ta (tCons tb tNil))) G (isD (.bool b)) := fun M0 σ B M H Q q =>
  ha M0 σ B M H _ fun a vs B1 e1 d1 hh q1 => hb M0 σ B1 M (H.ext e1 d1) _ fun y B2 e2 d2 p2 => ⟨.ref a, y, _, _, b, rfl, by rw [show y = .ty n from p2]; exact .ty n, .base (.lst (jn_mono e2 d2 _ _ hh)), kit_ty h, q _ B2 (e1.trans e2) d2 (.bl _)⟩
theorem svl_range1 (ha : Sv ta G (isD (.int i))) (h0 : 0 ≤ i) (h1 : i ≤ 16777216) : Svl (tLstRg (tRg1 ta)) G ((List.range i.toNat).map fun k : Nat => PyData.int (k : Int)) := fun M0 σ B M H Q q => ha M0 σ B M H _ fun x B1 e1 d1 p1 =>
  ⟨i, dp_int p1, RgOk.of_le (by omega) (by omega) (by omega) h0, fun l hl => q l _ B1 e1 d1 hl (by
    have e : rgV 0 i = ((List.range i.toNat).map fun k : Nat => (k : Int)).map V.int := by
      unfold rgV
      rw [Int.sub_zero, List.map_map]
      apply List.map_congr_left
      intro k _
      show V.int (0 + (k : Int)) = V.int (k : Int)
      rw [Int.zero_add]
    rw [e]
    have e2 : ((List.range i.toNat).map fun k : Nat => PyData.int (k : Int)) = ((List.range i.toNat).map fun k : Nat => (k : Int)).map PyData.int := by rw [List.map_map]; rfl
    rw [e2]
    exact DqAll_ofInts _)⟩

/-! tests, and, or, not -/
theorem st_test (h : Sv te G (isD (.bool b))) : St' (tTest te) G b := fun M0 σ B M H Q q => h M0 σ B M H _ fun v B' e d p => ⟨b, dp_bool p, q B' e d⟩
theorem st_B (h : Sv te G (isD (.bool b))) : St' (tB te) G b := fun M0 σ B M H Q q => h M0 σ B M H _ fun v B' e d p => ⟨b, dp_bool p, q B' e d⟩
theorem st_not (h : St' tt G b) : St' (tNot tt) G (!b) := fun M0 σ B M H Q q => h M0 σ B M H _ fun B' e d => q B' e d
theorem st_and (h : St' tt G b) (h2 : b = true → St' tu G c) : St' (tAnd tt tu) G (b && c) := fun M0 σ B M H Q q => h M0 σ B M H _ fun B' e d => by
  cases b with
  | true => exact h2 rfl M0 σ B' M (H.ext e d) Q fun B2 e2 d2 => q B2 (e.trans e2) d2
  | false => exact q B' e d
theorem st_or (h : St' tt G b) (h2 : b = false → St' tu G c) : St' (tOr tt tu) G (b || c) := fun M0 σ B M H Q q => h M0 σ B M H _ fun B' e d => by
  cases b with
  | true => exact q B' e d
  | false => exact h2 rfl M0 σ B' M (H.ext e d) Q fun B2 e2 d2 => q B2 (e.trans e2) d2
theorem sv_and (h : Sv ta G (isD (.bool b))) (h2 : b = true → Sv tb G (isD (.bool c))) : Sv (tAndV ta tb) G (isD (.bool (b && c))) := fun M0 σ B M H Q q => h M0 σ B M H _ fun v B' e d p => ⟨b, dp_bool p, by
  cases b with
  | true => exact h2 rfl M0 σ B' M (H.ext e d) Q fun v2 B2 e2 d2 p2 => q v2 B2 (e.trans e2) d2 p2
  | false => exact q _ B' e d (.bl _)⟩
theorem sv_or (h : Sv ta G (isD (.bool b))) (h2 : b = false → Sv tb G (isD (.bool c))) : Sv (tOrV ta tb) G (isD (.bool (b || c))) := fun M0 σ B M H Q q => h M0 σ B M H _ fun v B' e d p => ⟨b, dp_bool p, by
  cases b with
  | true => exact q _ B' e d (.bl _)
  | false => exact h2 rfl M0 σ B' M (H.ext e d) Q fun v2 B2 e2 d2 p2 => q v2 B2 (e.trans e2) d2 p2⟩
theorem sv_not (h : Sv ta G (isD (.bool b))) : Sv (tNotV ta) G (isD (.bool (!b))) := fun M0 σ B M H Q q => h M0 σ B M H _ fun v B' e d p => ⟨b, dp_bool p, q _ B' e d (.bl _)⟩
theorem sv_ite (h : St' tt G b) (h1 : b = true → Sv ta G P) (h2 : b = false → Sv tb G P) : Sv (tIf tt ta tb) G P := fun M0 σ B M H Q q => h M0 σ B M H _ fun B' e d => by
  cases b with
  | true => exact h1 rfl M0 σ B' M (H.ext e d) Q fun v2 B2 e2 d2 p2 => q v2 B2 (e.trans e2) d2 p2
  | false => exact h2 rfl M0 σ B' M (H.ext e d) Q fun v2 B2 e2 d2 p2 => q v2 B2 (e.trans e2) d2 p2
end
end Mini

namespace Mini
open PySem L2 Evl

/-! ### instances -/
structure Fl where
  r : List (Str × V) → Hp → Prop
  mono : ∀ {fs : List (Str × V)} {B B' : Hp}, Ex B B' → r fs B → r fs B'
def isI (C : Addr) (F : Fl) : Ty := isO C F.r F.mono
/-- an instance that is being made -/
def owI (C p dx : Addr) (F : Fl) : Ow := ⟨fun a o B => a = p ∧ ∃ fs, o = .ins C dx fs ∧ F.r fs B ∧ fs.length < 1000, fun e h => by obtain ⟨h0, fs, h1, h2, h3⟩ := h; exact ⟨h0, fs, h1, F.mono e h2, h3⟩⟩
/-- just these fields, each of its type -/
inductive FldsOk : List (Str × Ty) → List (Str × V) → Hp → Prop where
  | nil {B} : FldsOk [] [] B
  | cons {f P v fs vs B} : P.p v B → FldsOk fs vs B → FldsOk ((f, P) :: fs) ((f, v) :: vs) B
theorem FldsOk.ext {fs : List (Str × Ty)} {vs : List (Str × V)} {B B' : Hp} (e : Ex B B') (h : FldsOk fs vs B) : FldsOk fs vs B' := by
  induction h with
  | nil => exact .nil
  | cons a _ ih => exact .cons (Ty.mono _ e a) (ih e)
theorem FldsOk.len {fs : List (Str × Ty)} {vs : List (Str × V)} {B : Hp} (h : FldsOk fs vs B) : vs.length = fs.length := by
  induction h with
  | nil => rfl
  | cons a _ ih => simp [ih]
theorem FldsOk.look {fs : List (Str × Ty)} {vs : List (Str × V)} {B : Hp} (h : FldsOk fs vs B) {f : Str} : (∀ P, fs.lookup f = some P → ∃ v, vs.lookup f = some v ∧ P.p v B) ∧ (fs.lookup f = none → vs.lookup f = none) := by
  induction h with
  | nil => exact ⟨fun P q => (by cases q), fun _ => rfl⟩
  | @cons g P v fs vs B a _ ih =>
    by_cases e : f = g
    · subst e
      refine ⟨fun P' q => ⟨v, ?_, ?_⟩, fun q => ?_⟩
      · simp [List.lookup]
      · simp [List.lookup] at q; subst q; exact a
      · simp [List.lookup] at q
    · have eb : (f == g) = false := beq_eq_false_iff_ne.mpr e
      simp only [List.lookup, eb]
      exact ih
theorem FldsOk.put {fs : List (Str × Ty)} {vs : List (Str × V)} {B : Hp} (h : FldsOk fs vs B) {f : Str} {P : Ty} {v : V} (hv : P.p v B) (hn : fs.lookup f = none) : FldsOk (fs ++ [(f, P)]) (putF f v vs) B := by
  induction h with
  | nil => exact .cons hv .nil
  | @cons g P' v' fs vs B a _ ih =>
    by_cases e : f = g
    · subst e; simp [List.lookup] at hn
    · have eb : (f == g) = false := beq_eq_false_iff_ne.mpr e
      simp only [List.lookup, eb] at hn
      show FldsOk _ (if g = f then (g, v) :: vs else (g, v') :: putF f v vs) _
      rw [if_neg (fun z => e z.symm)]
      exact .cons a (ih hv hn)
def flds (fs : List (Str × Ty)) : Fl := ⟨fun vs B => FldsOk fs vs B, fun e h => h.ext e⟩

section
variable {K : PySem.W.Frag} {G G1 : Gm} {te ta tb tc tl tv : TE} {tt tu : TT} {tas : TA} {ts : TS} {P Pa Pb Pc : Ty} {R : Ow} {d e : PyData} {ds es : List PyData} {b c : Bool} {i j : Int} {E : L2.St → XK} {C D : Addr} {F : Fl} {fs : List (Str × Ty)} {f m : Str} {n : Nat}
theorem sv_fld (ha : Sv ta G (isI C (flds fs))) (hf : fs.lookup f = some P) (c : Cls K C) (hn : NoAttr K C f) : Sv (tFld K ta f) G P := fun M0 σ B M H Q q => ha M0 σ B M H _ fun x B1 e1 d1 p1 => by
  obtain ⟨p, dx, vs, rfl, h1, h2⟩ := p1
  obtain ⟨v, hv, pv⟩ := h2.look.1 P hf
  exact ⟨p, C, dx, vs, v, rfl, jn_B d1 h1, c, hn, hv, q v B1 e1 d1 pv⟩
/-- self.f = e, self being made -/
theorem ss_fld {p dx : Addr} (h : G[n]? = some (.ow (owI C p dx (flds fs)))) (he : Sv tv G P) (hf : fs.lookup f = none) (hl : fs.length < 999) (c : Cls K C) (hn : NoAttr K C f) : Ss E (sFld K (tVar n) tv f) G (.nx (G.set n (.ow (owI C p dx (flds (fs ++ [(f, P)])))))) := fun M0 D σ B M H q => by
  obtain ⟨l, ob, a, c1, ⟨h0, vs, rfl, r, hl2⟩, f1⟩ := H.ow n _ h
  refine he M0 σ B M H _ fun v B' e dj pv => ?_
  refine ⟨.ref l, a, l, C, dx, vs, rfl, jn_M c1, c, hn, hl2, ?_⟩
  rw [upd_own]
  have r' := (FldsOk.ext e r).put pv hf
  exact q σ B' _ e ((H.ext e dj).change h a c1 ⟨h0, _, rfl, r', by rw [r'.len, List.length_append, List.length_singleton]; omega⟩)

/-! ### own calls -/
theorem sv_call {S : Fs} {as : List Ar} (ha : Sa tas G as) (x : S.α) (hx : S.ars x = as) (hr : S.res x = .ok P) : Sv (tCallS (spF S) E tas) G P := fun M0 σ B M H Q q => ha M0 σ B M H _ fun vs B1 e1 d1 p1 =>
  ⟨x, B1, M, rfl, d1, by rw [hx]; exact p1, by rw [hr]; exact fun v B' e d p => q v B' (e1.trans e) d p⟩
theorem svl_call {S : Fs} {as : List Ar} (ha : Sa tas G as) (x : S.α) (hx : S.ars x = as) (hr : S.res x = .ol ds) : Svl (tCallS (spF S) E tas) G ds := fun M0 σ B M H Q q => ha M0 σ B M H _ fun vs B1 e1 d1 p1 =>
  ⟨x, B1, M, rfl, d1, by rw [hx]; exact p1, by rw [hr]; exact fun p us B' e d hn hd => q p us B' (e1.trans e) d hn hd⟩
/-- what raises C -/
def Sb (te : TE) (G : Gm) (E : L2.St → XK) (C : Addr) : Prop := ∀ (M0 : Hp) (σ : L2.St) (B M : Hp), Holds M0 G σ B M → ∀ Q : VK, (∀ B', Ex B B' → Dj B' M → E σ (.ref C) none (jn B' M)) → te σ (jn B M) Q
def Stb (tt : TT) (G : Gm) (E : L2.St → XK) (C : Addr) : Prop := ∀ (M0 : Hp) (σ : L2.St) (B M : Hp), Holds M0 G σ B M → ∀ Q : Bool → Hp → Prop, (∀ B', Ex B B' → Dj B' M → E σ (.ref C) none (jn B' M)) → tt σ (jn B M) Q
theorem sb_call {S : Fs} {as : List Ar} (ha : Sa tas G as) (x : S.α) (hx : S.ars x = as) (hr : S.res x = .bad D) : Sb (tCallS (spF S) E tas) G E D := fun M0 σ B M H Q q => ha M0 σ B M H _ fun vs B1 e1 d1 p1 =>
  ⟨x, B1, M, rfl, d1, by rw [hx]; exact p1, by rw [hr]; exact fun B' e d => q B' (e1.trans e) d⟩
theorem tMt_of {S : Fs} {as : List Ar} (ho : Sv ta G (isI C F)) (hm : ∀ vs B, F.r vs B → vs.lookup m = none) (ha : Sa tas G as) {M0 : Hp} {σ : L2.St} {B M : Hp} (H : Holds M0 G σ B M) {Q : VK}
    (k : ∀ vs B1, Ex B B1 → Dj B1 M → ArsOk (.im (isI C F) :: as) vs B1 M → spF S vs (jn B1 M) Q (E σ)) : tMt C m (spF S) E ta tas σ (jn B M) Q :=
  ho M0 σ B M H _ fun x B1 e1 d1 p1 => by
    obtain ⟨p, dx, vs, rfl, h1, h2⟩ := p1
    refine ⟨p, dx, vs, rfl, jn_B d1 h1, hm vs B1 h2, ?_⟩
    refine ha M0 σ B1 M (H.ext e1 d1) _ fun us B2 e2 d2 p2 => ?_
    exact k _ B2 (e1.trans e2) d2 (.cons (Ty.mono (isI C F) e2 ⟨p, dx, vs, rfl, h1, h2⟩) p2)
theorem sv_mt {S : Fs} {as : List Ar} (ho : Sv ta G (isI C F)) (hm : ∀ vs B, F.r vs B → vs.lookup m = none) (ha : Sa tas G as) (x : S.α) (hx : S.ars x = .im (isI C F) :: as) (hr : S.res x = .ok P) : Sv (tMt C m (spF S) E ta tas) G P := fun M0 σ B M H Q q =>
  tMt_of ho hm ha H fun vs B1 e1 d1 p1 => ⟨x, B1, M, rfl, d1, by rw [hx]; exact p1, by rw [hr]; exact fun v B' e d p => q v B' (e1.trans e) d p⟩
theorem svl_mt {S : Fs} {as : List Ar} (ho : Sv ta G (isI C F)) (hm : ∀ vs B, F.r vs B → vs.lookup m = none) (ha : Sa tas G as) (x : S.α) (hx : S.ars x = .im (isI C F) :: as) (hr : S.res x = .ol ds) : Svl (tMt C m (spF S) E ta tas) G ds := fun M0 σ B M H Q q =>
  tMt_of ho hm ha H fun vs B1 e1 d1 p1 => ⟨x, B1, M, rfl, d1, by rw [hx]; exact p1, by rw [hr]; exact fun p us B' e d hn hd => q p us B' (e1.trans e) d hn hd⟩
theorem sb_mt {S : Fs} {as : List Ar} (ho : Sv ta G (isI C F)) (hm : ∀ vs B, F.r vs B → vs.lookup m = none) (ha : Sa tas G as) (x : S.α) (hx : S.ars x = .im (isI C F) :: as) (hr : S.res x = .bad D) : Sb (tMt C m (spF S) E ta tas) G E D := fun M0 σ B M H Q q =>
  tMt_of ho hm ha H fun vs B1 e1 d1 p1 => ⟨x, B1, M, rfl, d1, by rw [hx]; exact p1, by rw [hr]; exact fun B' e d => q B' (e1.trans e) d⟩
end
/-- an __init__'s promise: what the instance becomes, or what is raised -/
structure Ini where
  α : Type
  n : Nat
  ars : α → List Ar
  len : ∀ x, (ars x).length = n
  res : α → Fl ⊕ Addr
def spN (C : Addr) (S : Ini) : Sp := fun vs H Q E => ∃ (x : S.α) (B M : Hp) (p dx : Addr) (us : List V), vs = .ref p :: us ∧ H = jn B M ∧ Dj B M ∧ M p = some (.ins C dx []) ∧ ArsOk (S.ars x) us B (del M p) ∧
  match S.res x with
  | .inl F => ∀ B' fs, Ex B B' → Dj B' M → F.r fs B' → Q .non (jn B' (upd M p (.ins C dx fs)))
  | .inr X => ∀ B' fs, Ex B B' → Dj B' M → E (.ref X) none (jn B' (upd M p (.ins C dx fs)))
theorem spN_len {C : Addr} {S : Ini} {vs H Q E} (h : spN C S vs H Q E) : vs.length = S.n + 1 := by
  obtain ⟨x, B, M, p, dx, us, rfl, _, _, _, a, _⟩ := h
  rw [List.length_cons, a.len, S.len]
section
variable {K : PySem.W.Frag} {G G1 : Gm} {te ta tb tc tl tv : TE} {tt tu : TT} {tas : TA} {ts : TS} {P Pa Pb Pc : Ty} {R : Ow} {d e : PyData} {ds es : List PyData} {b c : Bool} {i j : Int} {E : L2.St → XK} {C D : Addr} {F : Fl} {fs : List (Str × Ty)} {f m : Str} {n : Nat}
theorem mk_heap {B M : Hp} {x dx C : Addr} (dj : Dj B M) (hx : jn B M x = none) (hd : jn B M dx = none) (ne : dx ≠ x) :
    upd (upd (jn B M) dx (.own x)) x (.ins C dx []) = jn (upd B dx (.own x)) (upd M x (.ins C dx [])) ∧ Dj (upd B dx (.own x)) (upd M x (.ins C dx [])) ∧ Ex B (upd B dx (.own x)) := by
  refine ⟨?_, ?_, ex_new hd⟩
  · rw [upd_new hd, upd_own]
  · refine dj_own (dj_new dj hd) ?_
    rw [upd_ne (Ne.symm ne)]
    exact (jn_free hx).1
theorem ArOk.more {a : Ar} {v : V} {B M : Hp} {p : Addr} {o : HO} (hp : M p = none) (h : ArOk a v B M) : ArOk a v B (upd M p o) := by
  cases a with
  | im P => exact h
  | ow R => obtain ⟨l, o', h1, h2, h3⟩ := h; exact ⟨l, o', h1, by rw [upd_ne (ne_of_none h2 hp)]; exact h2, h3⟩
theorem ArsOk.more {as : List Ar} {vs : List V} {B M : Hp} {p : Addr} {o : HO} (hp : M p = none) (h : ArsOk as vs B M) : ArsOk as vs B (upd M p o) := by
  induction h with
  | nil => exact .nil
  | cons a _ ih => exact .cons (a.more hp) (ih hp)
theorem del_upd {M : Hp} {p : Addr} {o : HO} (h : M p = none) : del (upd M p o) p = M := by
  funext a
  by_cases e : a = p
  · rw [e, h]; exact if_pos rfl
  · rw [del_ne e, upd_ne e]
theorem jn_push {B M : Hp} {x : Addr} {o : HO} (hM : M x = none) : jn B (upd M x o) = jn (upd B x o) M := by
  funext a
  by_cases e : a = x
  · subst e
    rw [jn_M upd_same, jn_N hM, upd_same]
  · unfold jn
    rw [upd_ne e, upd_ne e]
theorem dj_push {B M : Hp} {x : Addr} {o o' : HO} (dj : Dj B (upd M x o)) (hM : M x = none) : Dj (upd B x o') M := fun a u q => by
  by_cases e : a = x
  · rw [e]; exact hM
  · rw [upd_ne e] at q
    have := dj a u q
    rw [upd_ne e] at this
    exact this
theorem sv_mk {S : Ini} {as : List Ar} (ha : Sa tas G as) (x : S.α) (hx : S.ars x = as) (hr : S.res x = .inl F) : Sv (tMk C (spN C S) E tas) G (isI C F) := fun M0 σ B M H Q q => ha M0 σ B M H _ fun vs B1 e1 d1 p1 => fun p dx hp hd ne => by
  obtain ⟨h1, h2, h3⟩ := mk_heap (C := C) d1 hp hd ne
  rw [h1]
  refine ⟨x, _, _, p, dx, vs, rfl, rfl, h2, upd_same, by rw [hx, del_upd (jn_free hp).2]; exact p1.ext h3, ?_⟩
  rw [hr]
  intro B' fs e d r
  refine ⟨rfl, ?_⟩
  have hM := (jn_free hp).2
  have hB' : B' p = none := dj_free d upd_same
  rw [upd_upd, jn_push hM]
  have ex : Ex B' (upd B' p (.ins C dx fs)) := Ex.new hB'
  exact q _ _ (((e1.trans h3).trans e).trans ex) (dj_push d hM) ⟨p, dx, fs, rfl, upd_same, F.mono ex r⟩
theorem sb_mk {S : Ini} {as : List Ar} (ha : Sa tas G as) (x : S.α) (hx : S.ars x = as) (hr : S.res x = .inr D) : Sb (tMk C (spN C S) E tas) G E D := fun M0 σ B M H Q q => ha M0 σ B M H _ fun vs B1 e1 d1 p1 => fun p dx hp hd ne => by
  obtain ⟨h1, h2, h3⟩ := mk_heap (C := C) d1 hp hd ne
  rw [h1]
  refine ⟨x, _, _, p, dx, vs, rfl, rfl, h2, upd_same, by rw [hx, del_upd (jn_free hp).2]; exact p1.ext h3, ?_⟩
  rw [hr]
  intro B' fs e d
  have hM := (jn_free hp).2
  have hB' : B' p = none := dj_free d upd_same
  rw [upd_upd, jn_push hM]
  exact q _ (((e1.trans h3).trans e).trans (Ex.new hB')) (dj_push d hM)

/-! raising within -/
theorem ss_retBad (h : Sb te G E C) : Ss E (tRet te) G (.bad C G) := fun M0 D σ B M H q => h M0 σ B M H _ fun B' e d => q σ B' M e (H.ext e d)
theorem ss_dropBad (h : Sb te G E C) : Ss E (tDrop te) G (.bad C G) := fun M0 D σ B M H q => h M0 σ B M H _ fun B' e d => q σ B' M e (H.ext e d)
theorem ss_setBad (h : Sb te G E C) : Ss E (tAsg te (gName n)) G (.bad C G) := fun M0 D σ B M H q => h M0 σ B M H _ fun B' e d => q σ B' M e (H.ext e d)
theorem ss_ifBad {tu' : TS} (h : Stb tt G E C) : Ss E (tIfS tt ts tu') G (.bad C G) := fun M0 D σ B M H q => h M0 σ B M H _ fun B' e d => q σ B' M e (H.ext e d)
theorem stb_test (h : Sb te G E C) : Stb (tTest te) G E C := fun M0 σ B M H Q q => h M0 σ B M H _ q
theorem sb_op1 {r : R2} (h : Sb ta G E C) : Sb (tOp r ta tb) G E C := fun M0 σ B M H Q q => h M0 σ B M H _ q
/-- raise C(..) -/
theorem ss_raise {W : L2.St → XK} (hW : ∀ σ cls d H, W σ cls d H → E σ cls d H → True) : Ss E (fun _ σ H => (fun (_ : L2.St) (H : Hp) (Q : XK) => Q (.ref C) none H) σ H fun cls d H' => E σ cls d H') G (.bad C G) := fun M0 D σ B M H q => q σ B M (Ex.refl B) H
end
end Mini

namespace Mini
open PySem L2 Evl

/-! ### loops -/
def Turn (E : L2.St → XK) (tu : TS) (Ga Gb : Gm) : Prop := Ss E tu Ga (.nx Gb) ∨ Ss E tu Ga (.ct Gb)
/-- how a turn that ends the loop leaves it -/
inductive Lv : Out → Out → Prop where
  | rt {P} : Lv (.rt P) (.rt P)
  | rl {ds} : Lv (.rl ds) (.rl ds)
  | bk {G} : Lv (.bk G) (.nx G)
  | bad {C G} : Lv (.bad C G) (.bad C G)
def Pvl (M0 B : Hp) (Gi : Nat → Gm) (N : Nat) (i : Nat) (σ : L2.St) (H : Hp) : Prop := i ≤ N ∧ ∃ B' M', H = jn B' M' ∧ Ex B B' ∧ Holds M0 (Gi i) σ B' M'
theorem turn_ok {E : L2.St → XK} {tu : TS} {G : Gm} {Gi : Nat → Gm} {N i : Nat} {o : Out} {D : Ends} {M0 B B1 M1 : Hp} {σ : L2.St} (hi : i ≤ N) (H : Holds M0 G σ B1 M1) (e : Ex B B1) (hs : i < N → Turn E tu G (Gi (i + 1)))
    (hd : i = N → ∃ o', Ss E tu G o' ∧ Lv o' o) (q : o.ok E D M0 B) : tu { D with nx := Pvl M0 B Gi N (i + 1), ct := Pvl M0 B Gi N (i + 1), bk := D.nx } σ (jn B1 M1) := by
  by_cases hN : i < N
  · have k : ∀ σ' B' M', Ex B1 B' → Holds M0 (Gi (i + 1)) σ' B' M' → Pvl M0 B Gi N (i + 1) σ' (jn B' M') := fun σ' B' M' e' H' => ⟨hN, B', M', rfl, e.trans e', H'⟩
    rcases hs hN with h | h
    · exact h M0 _ σ B1 M1 H k
    · exact h M0 _ σ B1 M1 H k
  · obtain ⟨o', h, l⟩ := hd (by omega)
    refine h M0 _ σ B1 M1 H ?_
    cases l with
    | rt => exact fun v B' M' e' => q v B' M' (e.trans e')
    | rl => exact fun p vs B' M' e' => q p vs B' M' (e.trans e')
    | bk => exact fun σ' B' M' e' H' => q σ' B' M' (e.trans e') H'
    | bad => exact fun σ' B' M' e' H' => q σ' B' M' (e.trans e') H'
section
variable {K : PySem.W.Frag} {E : L2.St → XK} {tu ts : TS} {te tl ta : TE} {tt : TT} {G : Gm} {o : Out} {ds es : List PyData} {n lo hi : Int} {j : Nat}
/-- how the loop ends: behind all turns, or in the turn N -/
def EndsAs (E : L2.St → XK) (tu : TS) (Gi Gt : Nat → Gm) (N all : Nat) (o : Out) : Prop := (N = all ∧ o = .nx (Gi N)) ∨ (N < all ∧ ∃ o', Ss E tu (Gt N) o' ∧ Lv o' o)
theorem ss_forR (h : Sv te G (isD (.int n))) (hn : n ≤ 2 ^ 60) (Gi : Nat → Gm) (N : Nat) (hN : N ≤ n.toNat) (h0 : Le G (Gi 0)) (hj : ∀ i, i ≤ N → j < (Gi i).length)
    (hs : ∀ i : Nat, i < N → Turn E tu ((Gi i).set j (.im (isD (.int (i : Int))))) (Gi (i + 1))) (hd : EndsAs E tu Gi (fun i => (Gi i).set j (.im (isD (.int (i : Int))))) N n.toNat o) (hlo : -(2 ^ 60) ≤ n := by first | omega | decide) :
    Ss E (tFor (iRng1 (tCons te tNil)) (gName j) tu) G o := fun M0 D σ B M H q =>
  h M0 σ B M H _ fun v B1 e1 d1 p1 => ⟨n, by rw [dp_int p1], by omega, by omega, by
    refine for_range (lo := 0) (n := n.toNat) (Pvl M0 B Gi N) ⟨Nat.zero_le _, B1, M, rfl, e1, (H.ext e1 d1).le h0⟩ (fun i σ' H' hi p => ?_) (fun σ' H' p => ?_)
    · obtain ⟨hiN, B', M', rfl, e, H'⟩ := p
      have e0 : (0 : Int) + (i : Int) = (i : Int) := Int.zero_add _
      show tu _ (σ'.set j (some (.int ((0 : Int) + (i : Int))))) _
      rw [e0]
      refine turn_ok (o := o) hiN (H'.setIm (hj i hiN) (P := isD (.int _)) (Dq.int _)) e (fun l => hs i l) (fun l => ?_) q
      rcases hd with ⟨a, _⟩ | ⟨_, b⟩
      · omega
      · rw [l]; exact b
    · obtain ⟨hiN, B', M', rfl, e, H'⟩ := p
      rcases hd with ⟨a, b⟩ | ⟨a, _⟩
      · rw [b] at q
        rw [← a] at H'
        exact q σ' B' M' e H'
      · omega⟩
theorem ss_forR2 (h : Sv ta G (isD (.int lo))) (h2 : Sv te G (isD (.int hi))) (hb : -(2 ^ 60) ≤ lo ∧ lo ≤ 2 ^ 60 ∧ -(2 ^ 60) ≤ hi ∧ hi ≤ 2 ^ 60) (Gi : Nat → Gm) (N : Nat) (hN : N ≤ (hi - lo).toNat) (h0 : Le G (Gi 0)) (hj : ∀ i, i ≤ N → j < (Gi i).length)
    (hs : ∀ i : Nat, i < N → Turn E tu ((Gi i).set j (.im (isD (.int (lo + (i : Int)))))) (Gi (i + 1))) (hd : EndsAs E tu Gi (fun i => (Gi i).set j (.im (isD (.int (lo + (i : Int)))))) N (hi - lo).toNat o) :
    Ss E (tFor (iRng2 (tCons ta (tCons te tNil))) (gName j) tu) G o := fun M0 D σ B M H q =>
  h M0 σ B M H _ fun v B0 e0 d0 p0 => h2 M0 σ B0 M (H.ext e0 d0) _ fun v2 B1 e1' d1 p1 => ⟨lo, hi, by rw [dp_int p0, dp_int p1], ⟨by omega, by omega, by omega, by omega⟩, by
    have e1 := e0.trans e1'
    refine for_range (lo := lo) (n := (hi - lo).toNat) (Pvl M0 B Gi N) ⟨Nat.zero_le _, B1, M, rfl, e1, (H.ext e1 d1).le h0⟩ (fun i σ' H' hi p => ?_) (fun σ' H' p => ?_)
    · obtain ⟨hiN, B', M', rfl, e, H'⟩ := p
      refine turn_ok (o := o) hiN (H'.setIm (hj i hiN) (P := isD (.int _)) (Dq.int _)) e (fun l => hs i l) (fun l => ?_) q
      rcases hd with ⟨a, _⟩ | ⟨_, b⟩
      · omega
      · rw [l]; exact b
    · obtain ⟨hiN, B', M', rfl, e, H'⟩ := p
      rcases hd with ⟨a, b⟩ | ⟨a, _⟩
      · rw [b] at q
        rw [← a] at H'
        exact q σ' B' M' e H'
      · omega⟩
/-- over a list that stays -/
theorem ss_forL (h : Sv tl G (isD (.list ds))) (Gi : Nat → Gm) (N : Nat) (hN : N ≤ ds.length) (h0 : Le G (Gi 0)) (hj : ∀ i, i ≤ N → j < (Gi i).length)
    (hs : ∀ i d, ds[i]? = some d → i < N → Turn E tu ((Gi i).set j (.im (isD d))) (Gi (i + 1))) (hd : EndsAs E tu Gi (fun i => (Gi i).set j (.im (isD (ds.getD i .none)))) N ds.length o) :
    Ss E (tFor (iList K tl) (gName j) tu) G o := fun M0 D σ B M H q =>
  h M0 σ B M H _ fun v B1 e1 d1 p1 => by
    obtain ⟨a, vs, rfl, ha, hv⟩ := dq_lst p1
    have hlen := DqAll_len hv
    refine ⟨a, rfl, ⟨vs, sq_of (jn_B d1 ha)⟩, ?_⟩
    have wide : ∀ i σ' H', Pvl M0 B1 Gi N i σ' H' → SqL K H' a vs := fun i σ' H' p => by
      obtain ⟨_, B', M', rfl, e, H'⟩ := p
      exact sq_of (jn_B H'.dj (e _ _ ha))
    refine for_list (xs := vs) (Pvl M0 B1 Gi N) ⟨Nat.zero_le _, B1, M, rfl, Ex.refl B1, (H.ext e1 d1).le h0⟩ (fun i σ' H' _ p => wide i σ' H' p) (fun i x σ' H' hx p => ?_) (fun σ' H' p => ?_)
    · obtain ⟨hiN, B', M', rfl, e, H'⟩ := p
      obtain ⟨d, hd1, px⟩ := DqAll_getV hv hx
      refine turn_ok (o := o) hiN (H'.setIm (hj i hiN) (P := isD d) (Dq_ex e d x px)) e (fun l => hs i d hd1 l) (fun l => ?_) (q.ext e1)
      rcases hd with ⟨b, _⟩ | ⟨_, b⟩
      · have := (List.getElem?_eq_some_iff.mp hx).1; omega
      · have z : ds.getD N .none = d := by rw [← l, List.getD_eq_getElem?_getD, hd1]; rfl
        dsimp only at b
        rw [z, ← l] at b
        exact b
    · obtain ⟨hiN, B', M', rfl, e, H'⟩ := p
      rcases hd with ⟨b, c⟩ | ⟨b, _⟩
      · rw [c] at q
        rw [hlen, ← b] at H'
        exact q σ' B' M' (e1.trans e) H'
      · omega
/-- over a tuple -/
theorem ss_forT (h : Sv tl G (isD (.tuple ds))) (Gi : Nat → Gm) (N : Nat) (hN : N ≤ ds.length) (h0 : Le G (Gi 0)) (hj : ∀ i, i ≤ N → j < (Gi i).length)
    (hs : ∀ i d, ds[i]? = some d → i < N → Turn E tu ((Gi i).set j (.im (isD d))) (Gi (i + 1))) (hd : EndsAs E tu Gi (fun i => (Gi i).set j (.im (isD (ds.getD i .none)))) N ds.length o) :
    Ss E (tFor (iTup K tl) (gName j) tu) G o := fun M0 D σ B M H q =>
  h M0 σ B M H _ fun v B1 e1 d1 p1 => by
    obtain ⟨a, vs, rfl, ha, hv⟩ := dq_tup p1
    have hlen := DqAll_len hv
    refine ⟨a, rfl, ⟨vs, st_of (jn_B d1 ha)⟩, ?_⟩
    have wide : ∀ i σ' H', Pvl M0 B1 Gi N i σ' H' → SqT K H' a vs := fun i σ' H' p => by
      obtain ⟨_, B', M', rfl, e, H'⟩ := p
      exact st_of (jn_B H'.dj (e _ _ ha))
    refine for_tup (xs := vs) (Pvl M0 B1 Gi N) ⟨Nat.zero_le _, B1, M, rfl, Ex.refl B1, (H.ext e1 d1).le h0⟩ (fun i σ' H' _ p => wide i σ' H' p) (fun i x σ' H' hx p => ?_) (fun σ' H' p => ?_)
    · obtain ⟨hiN, B', M', rfl, e, H'⟩ := p
      obtain ⟨d, hd1, px⟩ := DqAll_getV hv hx
      refine turn_ok (o := o) hiN (H'.setIm (hj i hiN) (P := isD d) (Dq_ex e d x px)) e (fun l => hs i d hd1 l) (fun l => ?_) (q.ext e1)
      rcases hd with ⟨b, _⟩ | ⟨_, b⟩
      · have := (List.getElem?_eq_some_iff.mp hx).1; omega
      · have z : ds.getD N .none = d := by rw [← l, List.getD_eq_getElem?_getD, hd1]; rfl
        dsimp only at b
        rw [z, ← l] at b
        exact b
    · obtain ⟨hiN, B', M', rfl, e, H'⟩ := p
      rcases hd with ⟨b, c⟩ | ⟨b, _⟩
      · rw [c] at q
        rw [hlen, ← b] at H'
        exact q σ' B' M' (e1.trans e) H'
      · omega
/-- while: N turns -/
theorem ss_while (Gi : Nat → Gm) (N : Nat) (h0 : Le G (Gi 0)) (ht : ∀ i, i < N → St' tt (Gi i) true) (hs : ∀ i, i < N → Turn E tu (Gi i) (Gi (i + 1)))
    (hd : (St' tt (Gi N) false ∧ o = .nx (Gi N)) ∨ (St' tt (Gi N) true ∧ ∃ o', Ss E tu (Gi N) o' ∧ Lv o' o)) : Ss E (tWhile tt tu) G o := fun M0 D σ B M H q => by
  refine ⟨fun m σ' H' => ∃ i, i + m = N ∧ Pvl M0 B Gi N i σ' H', ⟨N, 0, Nat.zero_add _, Nat.zero_le _, B, M, rfl, Ex.refl B, H.le h0⟩, fun m σ' H' w => ?_⟩
  obtain ⟨i, him, hiN, B1, M1, rfl, e, H1⟩ := w
  by_cases hN : i < N
  · refine ht i hN M0 σ' B1 M1 H1 _ fun B2 e2 d2 => ?_
    refine ⟨fun σ2 H2 => Pvl M0 B Gi N (i + 1) σ2 H2, fun σ2 H2 p => ⟨m - 1, by omega, i + 1, by omega, p⟩, ?_⟩
    exact turn_ok (o := o) hiN (H1.ext e2 d2) (e.trans e2) (fun l => hs i l) (fun l => by omega) q
  · have hiE : i = N := by omega
    subst hiE
    rcases hd with ⟨a, b⟩ | ⟨a, b⟩
    · refine a M0 σ' B1 M1 H1 _ fun B2 e2 d2 => ?_
      rw [b] at q
      exact q σ' B2 M1 (e.trans e2) (H1.ext e2 d2)
    · refine a M0 σ' B1 M1 H1 _ fun B2 e2 d2 => ?_
      refine ⟨fun σ2 H2 => Pvl M0 B Gi i (i + 1) σ2 H2, fun σ2 H2 p => by have := p.1; omega, ?_⟩
      exact turn_ok (o := o) hiN (H1.ext e2 d2) (e.trans e2) (fun l => by omega) (fun l => b) q

/-! ### comprehensions: es i is what i turns have given -/
def Pvc (B M : Hp) (Dl : Addr) (es : Nat → List PyData) (i : Nat) (H : Hp) : Prop := ∃ B' acc, H = jn B' (upd M Dl (.lst acc)) ∧ Ex B B' ∧ Dj B' (upd M Dl (.lst acc)) ∧ DqAll B' acc (es i)
def Gv (G : Gm) (j : Nat) (d : PyData) : Gm := (wipeG G [j]).set j (.im (isD d))
theorem wipe_one (σ : L2.St) (j : Nat) (x : V) : L2.wipe ((L2.wipe σ [j]).set j (some x)) [j] = L2.wipe σ [j] := by
  show (((σ.set j none).set j (some x)).set j none) = σ.set j none
  rw [List.set_set, List.set_set]
theorem lc_turn {M0 B M : Hp} {σ : L2.St} {Dl : Addr} {es : Nat → List PyData} {i : Nat} {d y : PyData} {x : V} {b : Bool} {B' : Hp} {acc : List V} (H : Holds M0 G σ B M) (hj : j < G.length) (hM : M Dl = none) (e : Ex B B') (dj : Dj B' (upd M Dl (.lst acc))) (ha : DqAll B' acc (es i)) (hz : (es i).length < sizeLine)
    (hx : Dq B' x d) (ht : St' tt (Gv G j d) b) (he : b = true → Sv te (Gv G j d) (isD y)) (hs : es (i + 1) = if b then es i ++ [y] else es i) :
    (gName j) x (L2.wipe σ [j]) (jn B' (upd M Dl (.lst acc))) fun σ2 H2 => L2.wipe σ2 [j] = L2.wipe σ [j] ∧ tt σ2 H2 fun b H3 =>
      if b = true then te σ2 H3 fun y H4 => ∃ acc, H4 Dl = some (.lst acc) ∧ acc.length < sizeLine ∧ Pvc B M Dl es (i + 1) (upd H4 Dl (.lst (acc ++ [y]))) else Pvc B M Dl es (i + 1) H3 := by
  refine ⟨wipe_one σ j x, ?_⟩
  have hB' : B' Dl = none := dj_free dj upd_same
  have djM : Dj B' M := fun a u q => by
    have := dj a u q
    by_cases z : a = Dl
    · rw [z]; exact hM
    · rw [upd_ne z] at this; exact this
  have H2 : Holds M0 (Gv G j d) ((L2.wipe σ [j]).set j (some x)) B' (upd M Dl (.lst acc)) := by
    have h1 := ((H.ext e djM).wipes [j]).more (p := Dl) (o := .lst acc) (show jn B' M Dl = none by rw [jn_N hM]; exact hB')
    exact h1.setIm (by show j < (G.set j .no).length; rw [List.length_set]; exact hj) hx
  refine ht M0 _ _ _ H2 _ fun B3 e3 d3 => ?_
  cases b with
  | true =>
    rw [if_pos rfl]
    refine he rfl M0 _ _ _ (H2.ext e3 d3) _ fun v B4 e4 d4 p4 => ?_
    refine ⟨acc, jn_M upd_same, by rw [DqAll_len ha]; exact hz, ?_⟩
    rw [upd_own, upd_upd]
    refine ⟨B4, acc ++ [v], rfl, (e.trans e3).trans e4, ?_, ?_⟩
    · intro a u q
      have := d4 a u q
      by_cases z : a = Dl
      · rw [z, upd_same] at this; cases this
      · rw [upd_ne z] at this ⊢; exact this
    · rw [hs, if_pos rfl]
      exact DqAll_append (DqAll_ex (e3.trans e4) ha) (.cons p4 .nil)
  | false =>
    rw [if_neg Bool.false_ne_true]
    refine ⟨B3, acc, rfl, e.trans e3, d3, ?_⟩
    rw [hs, if_neg Bool.false_ne_true]
    exact DqAll_ex e3 ha
theorem lc_end {B M : Hp} {Dl : Addr} {es : Nat → List PyData} {i : Nat} {Q : VK} (hM : M Dl = none) (hB : Ex B B) (q : ∀ p vs B', Ex B B' → Dj B' M → jn B' M p = none → DqAll B' vs (es i) → Q (.ref p) (upd (jn B' M) p (.lst vs))) (H : Hp) (p : Pvc B M Dl es i H) : Q (.ref Dl) H := by
  obtain ⟨B', acc, rfl, e, dj, ha⟩ := p
  have hB' : B' Dl = none := dj_free dj upd_same
  have djM : Dj B' M := fun a u q => by
    have := dj a u q
    by_cases z : a = Dl
    · rw [z]; exact hM
    · rw [upd_ne z] at this; exact this
  have := q Dl acc B' e djM (by rw [jn_N hM]; exact hB') ha
  rw [upd_own] at this
  exact this
theorem svl_lcL (h : Rl tl G ds) (es : Nat → List PyData) (f : Nat → Bool) (y : Nat → PyData) (hj : j < G.length) (h0 : es 0 = []) (hz : ds.length < 10000000)
    (ht : ∀ i d, ds[i]? = some d → St' tt (Gv G j d) (f i)) (he : ∀ i d, ds[i]? = some d → f i = true → Sv te (Gv G j d) (isD (y i))) (hs : ∀ i, i < ds.length → es (i + 1) = if f i then es i ++ [y i] else es i) :
    Svl (tLc (iList K tl) (gName j) tt te [j]) G (es ds.length) := fun M0 σ B M H Q q => h M0 σ B M H _ fun a vs B1 e1 d1 hh q1 => by
  have hlen := DqAll_len q1
  refine ⟨a, rfl, ⟨vs, sq_of hh⟩, fun Dl hD => ?_⟩
  have hM := (jn_free hD).2
  have hl : ∀ i, i ≤ ds.length → (es i).length ≤ i := fun i => by
    induction i with
    | zero => intro _; rw [h0]; exact Nat.le_refl _
    | succ i ih => intro hi; rw [hs i (by omega)]; have := ih (by omega); split <;> simp <;> omega
  refine lc_list (xs := vs) (Pvc B1 M Dl es) ⟨B1, [], by rw [upd_own], Ex.refl B1, dj_own d1 (jn_free hD).1, by rw [h0]; exact .nil⟩ (fun i H' _ p => ?_) (fun i x H' hx p => ?_) (fun H' p => ?_)
  · obtain ⟨B', acc, rfl, e, dj, _⟩ := p
    refine sq_of ?_
    have hne : a ≠ Dl := fun z => by rw [z, hD] at hh; cases hh
    unfold jn at hh ⊢
    rw [upd_ne hne]
    cases z : M a with
    | some u => rw [z] at hh; exact hh
    | none => rw [z] at hh; exact e _ _ hh
  · obtain ⟨B', acc, rfl, e, dj, ha⟩ := p
    obtain ⟨d, hd, px⟩ := DqAll_getV q1 hx
    have hi := (List.getElem?_eq_some_iff.mp hd).1
    exact lc_turn (H.ext e1 d1) hj hM e dj ha (by have := hl i (by omega); rw [sizeLine_eq]; omega) (Dq_ex e d x px) (ht i d hd) (he i d hd) (hs i hi)
  · rw [hlen] at p
    exact lc_end hM (Ex.refl _) (fun p vs B' e dj hf hv => q p vs B' (e1.trans e) dj hf hv) H' p
theorem svl_lcT (h : Sv tl G (isD (.tuple ds))) (es : Nat → List PyData) (f : Nat → Bool) (y : Nat → PyData) (hj : j < G.length) (h0 : es 0 = []) (hz : ds.length < 10000000)
    (ht : ∀ i d, ds[i]? = some d → St' tt (Gv G j d) (f i)) (he : ∀ i d, ds[i]? = some d → f i = true → Sv te (Gv G j d) (isD (y i))) (hs : ∀ i, i < ds.length → es (i + 1) = if f i then es i ++ [y i] else es i) :
    Svl (tLc (iTup K tl) (gName j) tt te [j]) G (es ds.length) := fun M0 σ B M H Q q => h M0 σ B M H _ fun v B1 e1 d1 p1 => by
  obtain ⟨a, vs, rfl, hh, q1⟩ := dq_tup p1
  have hlen := DqAll_len q1
  refine ⟨a, rfl, ⟨vs, st_of (jn_B d1 hh)⟩, fun Dl hD => ?_⟩
  have hM := (jn_free hD).2
  have hl : ∀ i, i ≤ ds.length → (es i).length ≤ i := fun i => by
    induction i with
    | zero => intro _; rw [h0]; exact Nat.le_refl _
    | succ i ih => intro hi; rw [hs i (by omega)]; have := ih (by omega); split <;> simp <;> omega
  refine lc_tup (xs := vs) (Pvc B1 M Dl es) ⟨B1, [], by rw [upd_own], Ex.refl B1, dj_own d1 (jn_free hD).1, by rw [h0]; exact .nil⟩ (fun i H' _ p => ?_) (fun i x H' hx p => ?_) (fun H' p => ?_)
  · obtain ⟨B', acc, rfl, e, dj, _⟩ := p
    exact st_of (jn_B dj (e _ _ hh))
  · obtain ⟨B', acc, rfl, e, dj, ha⟩ := p
    obtain ⟨d, hd, px⟩ := DqAll_getV q1 hx
    have hi := (List.getElem?_eq_some_iff.mp hd).1
    exact lc_turn (H.ext e1 d1) hj hM e dj ha (by have := hl i (by omega); rw [sizeLine_eq]; omega) (Dq_ex e d x px) (ht i d hd) (he i d hd) (hs i hi)
  · rw [hlen] at p
    exact lc_end hM (Ex.refl _) (fun p vs B' e dj hf hv => q p vs B' (e1.trans e) dj hf hv) H' p
theorem svl_lcR (h : Sv te G (isD (.int n))) {tel : TE} (es : Nat → List PyData) (f : Nat → Bool) (y : Nat → PyData) (hj : j < G.length) (h0 : es 0 = []) (hz : n < 10000000) (hlo : -(2 ^ 60) ≤ n)
    (ht : ∀ i : Nat, i < n.toNat → St' tt (Gv G j (.int (i : Int))) (f i)) (he : ∀ i : Nat, i < n.toNat → f i = true → Sv tel (Gv G j (.int (i : Int))) (isD (y i))) (hs : ∀ i, i < n.toNat → es (i + 1) = if f i then es i ++ [y i] else es i) :
    Svl (tLc (iRng1 (tCons te tNil)) (gName j) tt tel [j]) G (es n.toNat) := fun M0 σ B M H Q q => h M0 σ B M H _ fun v B1 e1 d1 p1 => by
  refine ⟨n, by rw [dp_int p1], by omega, by omega, fun Dl hD => ?_⟩
  have hM := (jn_free hD).2
  have hl : ∀ i, i ≤ n.toNat → (es i).length ≤ i := fun i => by
    induction i with
    | zero => intro _; rw [h0]; exact Nat.le_refl _
    | succ i ih => intro hi; rw [hs i (by omega)]; have := ih (by omega); split <;> simp <;> omega
  refine lc_range (lo := 0) (n := n.toNat) (Pvc B1 M Dl es) ⟨B1, [], by rw [upd_own], Ex.refl B1, dj_own d1 (jn_free hD).1, by rw [h0]; exact .nil⟩ (fun i H' hi p => ?_) (fun H' p => ?_)
  · obtain ⟨B', acc, rfl, e, dj, ha⟩ := p
    have e0 : (0 : Int) + (i : Int) = (i : Int) := Int.zero_add _
    rw [e0]
    exact lc_turn (H.ext e1 d1) hj hM e dj ha (by have := hl i (by omega); rw [sizeLine_eq]; omega) (.int _) (ht i hi) (he i hi) (hs i hi)
  · exact lc_end hM (Ex.refl _) (fun p vs B' e dj hf hv => q p vs B' (e1.trans e) dj hf hv) H' p
theorem st_yes : St' tYes G true := fun M0 σ B M H Q q => q B (Ex.refl B) H.dj
/-- no test: a map -/
theorem svl_lcMap (h : Rl tl G ds) (g : PyData → PyData) (hj : j < G.length) (hz : ds.length < 10000000) (he : ∀ d, d ∈ ds → Sv te (Gv G j d) (isD (g d))) : Svl (tLc (iList K tl) (gName j) tYes te [j]) G (ds.map g) := by
  have z := svl_lcL (K := K) (j := j) (te := te) (tt := tYes) h (fun i => (ds.take i).map g) (fun _ => true) (fun i => g (ds.getD i .none)) hj rfl hz (fun _ _ _ => st_yes) (fun i d hd _ => ?_) (fun i hi => ?_)
  · rw [List.take_length] at z; exact z
  · have e : ds.getD i .none = d := by rw [List.getD_eq_getElem?_getD, hd]; rfl
    rw [e]; exact he d (List.mem_of_getElem? hd)
  · have e : ds.getD i .none = ds[i] := by rw [List.getD_eq_getElem?_getD, List.getElem?_eq_getElem hi]; rfl
    simp only [if_true]
    rw [e, List.take_succ, List.getElem?_eq_getElem hi, List.map_append]; rfl
theorem svl_lcMapT (h : Sv tl G (isD (.tuple ds))) (g : PyData → PyData) (hj : j < G.length) (hz : ds.length < 10000000) (he : ∀ d, d ∈ ds → Sv te (Gv G j d) (isD (g d))) : Svl (tLc (iTup K tl) (gName j) tYes te [j]) G (ds.map g) := by
  have z := svl_lcT (K := K) (j := j) (te := te) (tt := tYes) h (fun i => (ds.take i).map g) (fun _ => true) (fun i => g (ds.getD i .none)) hj rfl hz (fun _ _ _ => st_yes) (fun i d hd _ => ?_) (fun i hi => ?_)
  · rw [List.take_length] at z; exact z
  · have e : ds.getD i .none = d := by rw [List.getD_eq_getElem?_getD, hd]; rfl
    rw [e]; exact he d (List.mem_of_getElem? hd)
  · have e : ds.getD i .none = ds[i] := by rw [List.getD_eq_getElem?_getD, List.getElem?_eq_getElem hi]; rfl
    simp only [if_true]
    rw [e, List.take_succ, List.getElem?_eq_getElem hi, List.map_append]; rfl
theorem svl_lcMapR (h : Sv te G (isD (.int n))) {tel : TE} (g : Nat → PyData) (hj : j < G.length) (hz : n < 10000000) (hlo : -(2 ^ 60) ≤ n) (he : ∀ i : Nat, i < n.toNat → Sv tel (Gv G j (.int (i : Int))) (isD (g i))) :
    Svl (tLc (iRng1 (tCons te tNil)) (gName j) tYes tel [j]) G ((List.range n.toNat).map g) :=
  svl_lcR (j := j) (te := te) (tt := tYes) h (fun i => (List.range i).map g) (fun _ => true) g hj rfl hz hlo (fun _ _ => st_yes) (fun i hi _ => he i hi) (fun i _ => by simp only [if_true]; rw [List.range_succ, List.map_append]; rfl)
end
end Mini

namespace Mini
open PySem L2 Evl PyProof.Rows
abbrev startV (N : List Str) (vs : List V) : L2.St := L2.start N vs

/-! ### two stores at once -/
section
variable {K : PySem.W.Frag} {E : L2.St → XK} {ta tb : TE} {G : Gm} {P P' : Ty} {ds es : List PyData} {i j : Nat}
theorem ss_par (ha : Sv ta G P) (hb : Sv tb G P') (hi : i < G.length := by exact Nat.le_of_ble_eq_true rfl) (hj : j < G.length := by exact Nat.le_of_ble_eq_true rfl) : Ss E (tPar i j (tCons ta (tCons tb tNil))) G (.nx ((G.set i (.im P)).set j (.im P'))) := fun M0 D σ B M H q =>
  ha M0 σ B M H _ fun x B1 e1 d1 p1 => hb M0 σ B1 M (H.ext e1 d1) _ fun y B2 e2 d2 p2 =>
    ⟨x, y, rfl, q _ B2 M (e1.trans e2) ((((H.ext e1 d1).ext e2 d2).setIm hi (P.mono e2 p1)).setIm (by rw [List.length_set]; exact hj) p2)⟩
theorem ss_parLL (ha : Svl ta G ds) (hb : Svl tb G es) (hi : i < G.length := by exact Nat.le_of_ble_eq_true rfl) (hj : j < G.length := by exact Nat.le_of_ble_eq_true rfl) : Ss E (tPar i j (tCons ta (tCons tb tNil))) G (.nx ((G.set i (.ow (isL ds))).set j (.ow (isL es)))) := fun M0 D σ B M H q =>
  ha M0 σ B M H _ fun p vs B1 e1 d1 hf ha1 => by
    rw [upd_own]
    have H1 := (H.ext e1 d1).more (p := p) (o := .lst vs) hf
    refine hb M0 σ B1 (upd M p (.lst vs)) H1 _ fun p2 us B2 e2 d2 hf2 ha2 => ?_
    rw [upd_own]
    refine ⟨.ref p, .ref p2, rfl, q _ B2 _ (e1.trans e2) ?_⟩
    have djM : Dj B2 M := fun a u q => by
      have := d2 a u q
      by_cases z : a = p
      · rw [z]; exact (jn_free hf).2
      · rw [upd_ne z] at this; exact this
    have hf' : jn B2 M p = none := by
      rw [jn_N (jn_free hf).2]; exact dj_free d2 upd_same
    have H2 : Holds M0 (G.set i (.ow (isL ds))) (σ.set i (some (.ref p))) B2 (upd M p (.lst vs)) := ((H.ext e1 d1).ext e2 djM).setOw hi hf' ⟨vs, rfl, DqAll_ex e2 ha1⟩
    exact H2.setOw (by rw [List.length_set]; exact hj) hf2 ⟨us, rfl, ha2⟩
end

/-! ### raise, try -/
def tRs (E : L2.St → XK) (C : Addr) : TS := fun _ σ H => E σ (.ref C) none H
theorem ps_rs {X : Cx} {e : Expr} {pos : Pos} {E : XK} {C : Addr} (hc : X.calm = true) (tk : Takes X (fun cls d _ H => E cls d H)) (he : PMk X e (fun _ H Q => Q (.ref C) none H)) : PS X (.Raise (some e) none pos) (tRs (fun _ => E) C) := ps_raise hc tk he
/-- what an own error class without an __init__ must be -/
structure ErrC (K : PySem.W.Frag) (mg : Str → Option Value) (x : Str) (C : Addr) (bm : List Value) : Prop where
  g : mg x = some (.ref C)
  ex : PySem.W.excIn K C bm "ValueError.__new__" = true
  kp : PySem.W.keepIn K (.ref C) = true
  sub : PySem.W.subIn K (.ref C) (.type "BaseException") = some true
  ty : PySem.W.typeIn K (.ref C) = some (.type "type")
theorem pmk_err {X : Cx} {x m : Str} {j : Nat} {p p2 pos : Pos} {C : Addr} (T : ErrC X.K X.mg x C [.type "ValueError", .type "Exception", .type "BaseException", .type "object"]) (hg : Gl X x := by rfl) (hdb : (x == ("__debug__" : Str)) = false := by decide) :
    PMk X (.Call (.Name x p) [.Constant (.str m) j p2] [] pos) (fun _ H Q => Q (.ref C) none H) := pmk_own PySem.F.excBase_ValueError T.ex T.g T.kp (raises_own T.sub T.ty) hg hdb
def isX (a : Addr) : Ty := isV (.ref a)
section
variable {K : PySem.W.Frag} {E : L2.St → XK} {G G1 G2 : Gm} {o o' : Out} {C : Addr} {i : Nat} {tb : WX → TS} {ts : Addr → Value → Option Addr → TS} {Wout : WX} {c : Value} {te ta : TE}
theorem ss_rs : Ss E (tRs E C) G (.bad C G) := fun M0 D σ B M H q => q σ B M (Ex.refl B) H
/-- the body of a try raises nothing -/
theorem ss_tryOk (h : ∀ W, Ss (fun σ cls d H => W cls d σ H) (tb W) G o) (hb : ∀ C G', o ≠ .bad C G') : Ss E (fun D σ H => tb (wAs K c i ts Wout D) D σ H) G o := fun M0 D σ B M H q => h _ M0 D σ B M H (by
  cases o with
  | nx G => exact q
  | rt P => exact q
  | rl ds => exact q
  | bk G => exact q
  | ct G => exact q
  | bad C G' => exact absurd rfl (hb C G'))
/-- what is left of a suite's way out: the exception's slot is empty behind it -/
def Out.offs (o : Out) (i : Nat) : Out := match o with
  | .nx G => .nx (G.set i .no)
  | .bk G => .bk (G.set i .no)
  | .ct G => .ct (G.set i .no)
  | o => o
/-- it raises C, and the clause takes it -/
theorem ss_tryBad (h : ∀ W, Ss (fun σ cls d H => W cls d σ H) (tb W) G (.bad C G1)) (hc : PySem.W.exmOne K (.ref C) c = some true) (hi : i < G1.length) (hs : ∀ a, Ss (fun _ => E0) (ts a (.ref C) none) (G1.set i (.im (isX a))) o) (hb : ∀ C G', o ≠ .bad C G') :
    Ss E (fun D σ H => tb (wAs K c i ts Wout D) D σ H) G (o.offs i) := fun M0 D σ B M H q => h _ M0 D σ B M H fun σ' B' M' e H' => by
  refine ⟨true, hc, fun _ a ha => ?_, fun z => by cases z⟩
  refine hs a M0 _ (σ'.set i (some (.ref a))) B' M' (H'.setIm hi rfl) ?_
  cases o with
  | nx G => exact fun σ2 B2 M2 e2 H2 => q _ B2 M2 (e.trans e2) (H2.wipe i none)
  | rt P => exact fun v B2 M2 e2 => q v B2 M2 (e.trans e2)
  | rl ds => exact fun p vs B2 M2 e2 => q p vs B2 M2 (e.trans e2)
  | bk G => exact fun σ2 B2 M2 e2 H2 => q _ B2 M2 (e.trans e2) (H2.wipe i none)
  | ct G => exact fun σ2 B2 M2 e2 H2 => q _ B2 M2 (e.trans e2) (H2.wipe i none)
  | bad C G' => exact absurd rfl (hb C G')
end
/-- isinstance(e, c) in a suite, e the exception at a of whatever class -/
def rIsX (K : PySem.W.Frag) (a : Addr) (cls : Value) (d : Option Addr) : List V → Hp → VK → Prop := fun xs H Q => ∃ D, cls = .ref D ∧ d = none ∧ ExcC K D ∧ rIsE K D a xs H Q
theorem call_isX {X : Cx} {a : Addr} {cls : Value} {d : Option Addr} {oe : Obj} {pn : List (Addr × Obj)} (hz : Zc cls d oe) (hf : ∃ vs, oe.data = .fields vs) : CallR (X.suite a ((a, oe) :: pn)) (.builtin "isinstance") (rIsX X.K a cls d) := by
  intro pins s σ H xs us Q I r h
  obtain ⟨D, e1, e2, C, q⟩ := h
  subst e1 e2
  exact call_isE C hz hf pins s σ H xs us Q I r q
theorem sv_isX {K : PySem.W.Frag} {G : Gm} {te ta : TE} {a D C : Addr} {b : Bool} (he : Sv te G (isX a)) (hc : Sv ta G (isV (.ref C))) (X : ExcC K D) (h : PySem.W.kitOne K (.ref D) (.ref C) = some b) : Sv (tCB (rIsX K a (.ref D) none) (tCons te (tCons ta tNil))) G (isD (.bool b)) := fun M0 σ B M H Q q =>
  he M0 σ B M H _ fun x B1 e1 d1 p1 => hc M0 σ B1 M (H.ext e1 d1) _ fun y B2 e2 d2 p2 => by
    rw [show x = .ref a from p1, show y = .ref C from p2]
    exact ⟨D, rfl, rfl, X, .ref C, .ref C, b, rfl, fun u r => r, h, q _ B2 (e1.trans e2) d2 (.bl _)⟩

/-! ### a def's body keeps its promise -/
def entG : List Ar → Gm
  | [] => []
  | .im P :: as => .im P :: entG as
  | .ow R :: as => .bw R :: entG as
theorem entG_len : ∀ as, (entG as).length = as.length
  | [] => rfl
  | .im P :: as => by simp [entG, entG_len as]
  | .ow R :: as => by simp [entG, entG_len as]
def startG (n : Nat) (as : List Ar) : Gm := entG as ++ List.replicate (n - as.length) .no
theorem ent_get : ∀ {as : List Ar} {vs : List V} {B M : Hp} {i : Nat} {S : Sl}, ArsOk as vs B M → (entG as)[i]? = some S → (∃ P v, S = .im P ∧ vs[i]? = some v ∧ P.p v B) ∨ (∃ R l o, S = .bw R ∧ vs[i]? = some (.ref l) ∧ M l = some o ∧ R.r l o B)
  | [], _, _, _, i, S, h, e => by simp [entG] at e
  | .im P :: as, _, _, _, 0, S, h, e => by
    cases h with | cons a b => simp [entG] at e; subst e; exact .inl ⟨P, _, rfl, rfl, a⟩
  | .ow R :: as, _, _, _, 0, S, h, e => by
    cases h with | cons a b => simp [entG] at e; subst e; obtain ⟨l, o, h1, h2, h3⟩ := a; exact .inr ⟨R, l, o, rfl, by rw [h1]; rfl, h2, h3⟩
  | .im P :: as, _, _, _, i + 1, S, h, e => by
    cases h with | cons a b => simpa using ent_get (i := i) b (by simpa [entG] using e)
  | .ow R :: as, _, _, _, i + 1, S, h, e => by
    cases h with | cons a b => simpa using ent_get (i := i) b (by simpa [entG] using e)
theorem start_get {N : List Str} {as : List Ar} {vs : List V} {B M : Hp} (h : ArsOk as vs B M) {i : Nat} {S : Sl} (e : (startG N.length as)[i]? = some S) (hn : S ≠ .no) : i < vs.length ∧ (entG as)[i]? = some S := by
  unfold startG at e
  by_cases hi : i < (entG as).length
  · rw [List.getElem?_append_left hi] at e
    exact ⟨by rw [h.len, ← entG_len]; exact hi, e⟩
  · rw [List.getElem?_append_right (by omega), List.getElem?_replicate] at e
    split at e
    · exact absurd (Option.some.inj e).symm hn
    · cases e
theorem holds_start {N : List Str} {as : List Ar} {vs : List V} {B M : Hp} (dj : Dj B M) (h : ArsOk as vs B M) (hN : as.length ≤ N.length) : Holds M (startG N.length as) (L2.start N vs) B M where
  len := by unfold L2.start startG; simp [entG_len, h.len]
  dj := dj
  cal := fun _ _ h => h
  im := fun i P q => by
    obtain ⟨hi, e⟩ := start_get h q (by intro z; cases z)
    rcases ent_get h e with ⟨P', v, h1, h2, h3⟩ | ⟨R, l, o, h1, _⟩
    · cases h1
      exact ⟨v, by unfold L2.start; rw [List.getElem?_append_left (by simpa using hi), List.getElem?_map, h2]; rfl, h3⟩
    · cases h1
  ow := fun i R q => by
    obtain ⟨hi, e⟩ := start_get h q (by intro z; cases z)
    rcases ent_get h e with ⟨P', v, h1, _⟩ | ⟨R, l, o, h1, _⟩ <;> cases h1
  bw := fun i R q => by
    obtain ⟨hi, e⟩ := start_get h q (by intro z; cases z)
    rcases ent_get h e with ⟨P', v, h1, _⟩ | ⟨R', l, o, h1, h2, h3, h4⟩
    · cases h1
    · cases h1
      exact ⟨l, o, by unfold L2.start; rw [List.getElem?_append_left (by simpa using hi), List.getElem?_map, h2]; rfl, h3, h4⟩
  ne := fun i j R R' l q q' => by
    obtain ⟨hi, e⟩ := start_get h q (by intro z; cases z)
    rcases ent_get h e with ⟨P', v, h1, _⟩ | ⟨R, l, o, h1, _⟩ <;> cases h1
/-- all that is not the caller's is let stand -/
def rst (M0 H : Hp) : Hp := fun a => match M0 a with
  | some _ => none
  | none => H a
theorem rst_jn {M0 B M : Hp} (e : Ex M0 M) : jn (rst M0 (jn B M)) M0 = jn B M := by
  funext a
  unfold jn rst
  dsimp only
  cases h : M0 a with
  | some o => rw [e a o h]
  | none => rfl
theorem rst_dj {M0 H : Hp} : Dj (rst M0 H) M0 := fun a o h => by
  unfold rst at h
  cases q : M0 a with
  | some o => rw [q] at h; cases h
  | none => rfl
theorem rst_ex {M0 B M : Hp} (e : Ex M0 M) (d : Dj B M) : Ex B (rst M0 (jn B M)) := fun a o h => by
  unfold rst
  cases q : M0 a with
  | some u => have := d a o h; rw [e a u q] at this; cases this
  | none => exact jn_B d h
/-- how the result of a def is told -/
inductive Ans (E : L2.St → XK) (ts : TS) (G : Gm) : Rs → Prop where
  | ok {P} : Ss E ts G (.rt P) → Ans E ts G (.ok P)
  | non {G'} : Ss E ts G (.nx G') → Ans E ts G (.ok (isD .none))
  | ol {ds} : Ss E ts G (.rl ds) → Ans E ts G (.ol ds)
  | oll {ds} : Ss E ts G (.rl ds) → Ans E ts G (.ok (isD (.list ds)))
  | bad {C G'} : Ss E ts G (.bad C G') → Ans E ts G (.bad C)
theorem ans_run {E : XK} {ts : TS} {N : List Str} {as : List Ar} {vs : List V} {B M : Hp} {r : Rs} {Q : VK} (dj : Dj B M) (h : ArsOk as vs B M) (hN : as.length ≤ N.length) (w : r.wp B M Q E) (a : Ans (fun _ => E) ts (startG N.length as) r) :
    ts { nx := fun _ H' => Q .non H', rt := Q } (L2.start N vs) (jn B M) := by
  have H := holds_start dj h hN
  cases a with
  | ok s =>
    refine s M _ _ B M H fun v B' M' e d c p => ?_
    · have := w v (rst M (jn B' M')) (e.trans (rst_ex c d)) rst_dj (Ty.mono _ (rst_ex c d) p)
      rw [rst_jn c] at this
      exact this
  | non s =>
    refine s M _ _ B M H fun σ' B' M' e H' => ?_
    · have := w .non (rst M (jn B' M')) (e.trans (rst_ex H'.cal H'.dj)) rst_dj Dq.non
      rw [rst_jn H'.cal] at this
      exact this
  | ol s =>
    refine s M _ _ B M H fun p us B' M' e d c f hp hd => ?_
    ·
      -- the list stays its own: all else is let stand
      have hB : B' p = none := dj_free d hp
      have d2 : Dj B' (del M' p) := fun a u q => by
        by_cases z : a = p
        · exact if_pos z
        · rw [del_ne z]; exact d a u q
      have c2 : Ex M (del M' p) := fun a u q => by
        have z : a ≠ p := fun z => by rw [z, f] at q; cases q
        rw [del_ne z]; exact c a u q
      have hf : jn (rst M (jn B' (del M' p))) M p = none := by
        rw [rst_jn c2, jn_N (show del M' p p = none from if_pos rfl)]; exact hB
      have := w p us (rst M (jn B' (del M' p))) (e.trans (rst_ex c2 d2)) rst_dj hf (DqAll_ex (rst_ex c2 d2) hd)
      rw [rst_jn c2, upd_own] at this
      have e3 : upd (del M' p) p (.lst us) = M' := by
        funext a
        by_cases z : a = p
        · rw [z, upd_same, hp]
        · rw [upd_ne z, del_ne z]
      rw [e3] at this
      exact this
  | oll s =>
    refine s M _ _ B M H fun p us B' M' e d c f hp hd => ?_
    ·
      have hx := rst_ex c d
      have := w (.ref p) (rst M (jn B' M')) (e.trans hx) rst_dj (.lst (show rst M (jn B' M') p = some (.lst us) by unfold rst; rw [f]; exact jn_M hp) (DqAll_ex hx hd))
      rw [rst_jn c] at this
      exact this
  | bad s =>
    refine s M _ _ B M H fun σ' B' M' e H' => ?_
    · have := w (rst M (jn B' M')) (e.trans (rst_ex H'.cal H'.dj)) rst_dj
      rw [rst_jn H'.cal] at this
      exact this
section
variable {P : Program} {w : World} {K : PySem.W.Frag} {mg : Str → Option Value} {base : Heap}
abbrev cxD (P : Program) (w : World) (K : PySem.W.Frag) (mg : Str → Option Value) (base : Heap) (N : List Str) (qual : Str) (st : Stmt) (f : Addr) (cdv : Value) (A : Around) (outer : List Env) (s : Shared) (H : Hp) (E : XK) : Cx :=
  cxOf (L2.CX P w) P w K mg base N qual (defScope st) f cdv A outer s H E
theorem fn_ok {x qual : Str} {st : Stmt} {f : Addr} {fd : FuncData} {N ps : List Str} {k : Nat} {S : Fs} (F : Fun K x qual st f fd) (sc : FnScope N ps (defScope st)) (hn : S.n = ps.length)
    (hb : ∀ (cdv : Value) (A : Around) (outer : List Env) (s : Shared) (H : Hp) (E : XK), Room k (A.deeper (envOfC qual (defScope st) s.heap.objs.size f cdv)) →
      ∃ t, PSs (cxD P w K mg base N qual st f cdv A outer s H E) (defBody st) t ∧ ∀ x : S.α, Ans (fun _ => E) t (startG N.length (S.ars x)) (S.res x)) : FnOk P w K mg base (L2.CX P w) (k + 1) f fd ps (spF S) := by
  refine F.okX sc (fun vs H Q E h => by rw [spF_len h, hn]) (fun cdv A outer s H vs Q E hr h => ?_)
  obtain ⟨t, h1, h2⟩ := hb cdv A outer s H E hr
  refine ⟨t, h1, ?_⟩
  obtain ⟨x, B, M, rfl, dj, ha, hw⟩ := h
  refine ans_run dj ha ?_ hw (h2 x)
  have := congrArg List.length sc.pre
  rw [List.length_take] at this
  rw [S.len, hn]
  omega
/-- an __init__: self is its own, in slot 0 -/
theorem ini_ok {x qual : Str} {st : Stmt} {f C : Addr} {fd : FuncData} {N ps : List Str} {k : Nat} {S : Ini} (F : Fun K x qual st f fd) (sc : FnScope N ps (defScope st)) (hn : S.n + 1 = ps.length)
    (hb : ∀ (cdv : Value) (A : Around) (outer : List Env) (s : Shared) (H : Hp) (E : XK), Room k (A.deeper (envOfC qual (defScope st) s.heap.objs.size f cdv)) →
      ∃ t, PSs (cxD P w K mg base N qual st f cdv A outer s H E) (defBody st) t ∧ ∀ x : S.α, match S.res x with
        | .inl F => ∀ p dx, ∃ G', G'[0]? = some (.ow (owI C p dx F)) ∧ Ss (fun _ => E) t (.ow (owI C p dx (flds [])) :: startG (N.length - 1) (S.ars x)) (.nx G')
        | .inr X => ∀ p dx, ∃ G' F', G'[0]? = some (.ow (owI C p dx F')) ∧ Ss (fun _ => E) t (.ow (owI C p dx (flds [])) :: startG (N.length - 1) (S.ars x)) (.bad X G')) : FnOk P w K mg base (L2.CX P w) (k + 1) f fd ps (spN C S) := by
  refine F.okX sc (fun vs H Q E h => by rw [spN_len h, hn]) (fun cdv A outer s H vs Q E hr h => ?_)
  obtain ⟨t, h1, h2⟩ := hb cdv A outer s H E hr
  refine ⟨t, h1, ?_⟩
  obtain ⟨x, B, M, p, dx, us, rfl, rfl, dj, hp, ha, hw⟩ := h
  have hlen : S.n + 1 ≤ N.length := by
    have := congrArg List.length sc.pre
    rw [List.length_take] at this
    omega
  obtain ⟨n0, N', rfl⟩ : ∃ n0 N', N = n0 :: N' := by
    cases N with
    | nil => simp at hlen
    | cons a b => exact ⟨a, b, rfl⟩
  -- the caller's own but the instance
  have dj2 : Dj B (del M p) := fun a u q => by
    by_cases z : a = p
    · exact if_pos z
    · rw [del_ne z]; exact dj a u q
  have H0 : Holds (del M p) (.ow (owI C p dx (flds [])) :: startG N'.length (S.ars x)) (L2.start (n0 :: N') (.ref p :: us)) B M := by
    have a := S.len x
    have e1 : L2.start (n0 :: N') (V.ref p :: us) = some (V.ref p) :: L2.start N' us := by
      unfold L2.start
      simp
    rw [e1]
    have ha' : ∀ {i : Nat} {S1 : Sl}, (startG N'.length (S.ars x))[i]? = some S1 → S1 ≠ .no → i < us.length ∧ (entG (S.ars x))[i]? = some S1 := fun e hn => start_get ha e hn
    have us_get : ∀ {i : Nat} {v : V}, us[i]? = some v → (L2.start N' us)[i]? = some (some v) := fun {i v} e => by
      have hi := (List.getElem?_eq_some_iff.mp e).1
      unfold L2.start
      rw [List.getElem?_append_left (by simpa using hi), List.getElem?_map, e]; rfl
    exact {
      len := by unfold L2.start startG; simp [entG_len, ha.len]
      dj := dj
      cal := fun a o h => by
        by_cases z : a = p
        · rw [z, show del M p p = none from if_pos rfl] at h; cases h
        · rw [del_ne z] at h; exact h
      im := fun i P q => by
        cases i with
        | zero => simp at q
        | succ i =>
          have q : (startG N'.length (S.ars x))[i]? = some (.im P) := by simpa using q
          obtain ⟨hi, e⟩ := ha' q (by intro z; cases z)
          rcases ent_get ha e with ⟨P', v, h1, h2, h3⟩ | ⟨R, l, o, h1, _⟩
          · cases h1; exact ⟨v, by simpa using us_get h2, h3⟩
          · cases h1
      ow := fun i R q => by
        cases i with
        | zero =>
          have q : Sl.ow (owI C p dx (flds [])) = Sl.ow R := by simpa using q
          cases q
          exact ⟨p, _, rfl, hp, ⟨rfl, [], rfl, .nil, by decide⟩, if_pos rfl⟩
        | succ i =>
          have q : (startG N'.length (S.ars x))[i]? = some (.ow R) := by simpa using q
          obtain ⟨hi, e⟩ := ha' q (by intro z; cases z)
          rcases ent_get ha e with ⟨P', v, h1, _⟩ | ⟨R, l, o, h1, _⟩ <;> cases h1
      bw := fun i R q => by
        cases i with
        | zero => simp at q
        | succ i =>
          have q : (startG N'.length (S.ars x))[i]? = some (.bw R) := by simpa using q
          obtain ⟨hi, e⟩ := ha' q (by intro z; cases z)
          rcases ent_get ha e with ⟨P', v, h1, _⟩ | ⟨R', l, o, h1, h2, h3, h4⟩
          · cases h1
          · cases h1
            exact ⟨l, o, by simpa using us_get h2, h3, h4⟩
      ne := fun i j R R' l q q' _ _ => by
        have only : ∀ {i : Nat} {R : Ow}, (Sl.ow (owI C p dx (flds [])) :: startG N'.length (S.ars x))[i]? = some (.ow R) → i = 0 := fun {i R} q => by
          cases i with
          | zero => rfl
          | succ i =>
            have q : (startG N'.length (S.ars x))[i]? = some (.ow R) := by simpa using q
            obtain ⟨hi, e⟩ := ha' q (by intro z; cases z)
            rcases ent_get ha e with ⟨P', v, h1, _⟩ | ⟨R, l, o, h1, _⟩ <;> cases h1
        rw [only q, only q'] }
  have h3 := h2 x
  have back : Ex (del M p) (upd (del M p) p (.ins C dx [])) := fun a o h => by
    have z : a ≠ p := fun z => by rw [z, show del M p p = none from if_pos rfl] at h; cases h
    rw [upd_ne z]; exact h
  cases hr : S.res x with
  | inl F =>
    rw [hr] at hw h3
    obtain ⟨G', hg, s⟩ := h3 p dx
    refine s (del M p) _ _ B M H0 fun σ' B' M' e H' => ?_
    obtain ⟨l, o, a, c, ⟨rfl, fs, rfl, r, _⟩, f⟩ := H'.ow 0 _ hg
    -- all but the caller's and the instance are let stand
    have c1 : Ex (upd (del M l) l (.ins C dx fs)) M' := fun a o h => by
      by_cases z : a = l
      · rw [z] at h ⊢; rw [upd_same] at h; rw [← h]; exact c
      · rw [upd_ne z] at h; exact H'.cal a o h
    have e1 : upd (del M l) l (.ins C dx fs) = upd M l (.ins C dx fs) := by
      funext a
      by_cases z : a = l
      · rw [z, upd_same, upd_same]
      · rw [upd_ne z, upd_ne z, del_ne z]
    rw [e1] at c1
    have hx := rst_ex c1 H'.dj
    have d3 : Dj (rst (upd M l (.ins C dx fs)) (jn B' M')) M := fun a u q => by
      have := rst_dj a u q
      by_cases z : a = l
      · rw [z, upd_same] at this; cases this
      · rw [upd_ne z] at this; exact this
    have d4 : Dj (rst (upd M l (.ins C dx fs)) (jn B' M')) M := d3
    have := hw (rst (upd M l (.ins C dx fs)) (jn B' M')) fs (e.trans hx) d4 (F.mono hx r)
    rw [rst_jn c1] at this
    exact this
  | inr X =>
    rw [hr] at hw h3
    obtain ⟨G', F', hg, s⟩ := h3 p dx
    refine s (del M p) _ _ B M H0 fun σ' B' M' e H' => ?_
    obtain ⟨l, o, a, c, ⟨rfl, fs, rfl, r, _⟩, f⟩ := H'.ow 0 _ hg
    have c1 : Ex (upd (del M l) l (.ins C dx fs)) M' := fun a o h => by
      by_cases z : a = l
      · rw [z] at h ⊢; rw [upd_same] at h; rw [← h]; exact c
      · rw [upd_ne z] at h; exact H'.cal a o h
    have e1 : upd (del M l) l (.ins C dx fs) = upd M l (.ins C dx fs) := by
      funext a
      by_cases z : a = l
      · rw [z, upd_same, upd_same]
      · rw [upd_ne z, upd_ne z, del_ne z]
    rw [e1] at c1
    have hx := rst_ex c1 H'.dj
    have d3 : Dj (rst (upd M l (.ins C dx fs)) (jn B' M')) M := fun a u q => by
      have := rst_dj a u q
      by_cases z : a = l
      · rw [z, upd_same] at this; cases this
      · rw [upd_ne z] at this; exact this
    have := hw (rst (upd M l (.ins C dx fs)) (jn B' M')) fs (e.trans hx) d3
    rw [rst_jn c1] at this
    exact this
end
end Mini

namespace Mini
open PySem L2 Evl PyProof.Rows
/-- a constant of the module -/
def GC (mg : Str → Option Value) (x : Str) (v : V) : Prop := ∃ u, mg x = some u ∧ RelV v u
theorem pe_gc {X : Cx} {x : Str} {v : V} {pos : Pos} (h : GC X.mg x v) (hg : Gl X x := by rfl) (hd : (x == ("__debug__" : Str)) = false := by decide) : PE X (.Name x pos) (tC v) := by
  obtain ⟨u, h1, h2⟩ := h
  exact pe_glob hg h1 h2 hd
theorem pe_err {X : Cx} {x : Str} {C : Addr} {pos : Pos} (h : X.mg x = some (.ref C)) (hg : Gl X x := by rfl) (hd : (x == ("__debug__" : Str)) = false := by decide) : PE X (.Name x pos) (tC (.ref C)) := pe_glob hg h rfl hd
/-- what is no int from 0 on below n -/
def belowB (d : PyData) (n : Int) : Bool := match d with
  | .int i => decide (0 ≤ i) && decide (i < n)
  | _ => false
def argOf : PyData ⊕ List PyData → Ar
  | .inl d => .im (isD d)
  | .inr ds => .ow (isL ds)
def lenD : PyData → Nat
  | .tuple ds => ds.length
  | .list ds => ds.length
  | _ => 0
/-- small enough to be walked -/
def Fit (d : PyData) : Prop := lenD d < 10000000
def Fits (d : PyData) : Prop := match d with
  | .list ds => ds.length < 10000000 ∧ ∀ e ∈ ds, Fit e
  | _ => True
/-- a book's attributes -/
def bookF (m : PyData) (ds : List PyData) : Fl := flds [("letters", isD m), ("size", isD (.int ds.length)), ("_words", isD (.list ds))]
theorem bookF_no {m : PyData} {ds : List PyData} {f : Str} (h : ([("letters", isD m), ("size", isD (.int ds.length)), ("_words", isD (.list ds))] : List (Str × Ty)).lookup f = none) : ∀ vs B, (bookF m ds).r vs B → vs.lookup f = none := fun vs B r => (FldsOk.look r).2 h
def wD (ws : List (List Int)) : List PyData := ws.map fun w => .tuple (w.map .int)
def slOf : PyData ⊕ List PyData → Sl
  | .inl d => .im (isD d)
  | .inr ds => .bw (isL ds)
theorem ent_slOf (a : PyData ⊕ List PyData) (as : List Ar) : entG (argOf a :: as) = slOf a :: entG as := by cases a <;> rfl
def datOf : PyData ⊕ List PyData → PyData
  | .inl d => d
  | .inr ds => .list ds
theorem rl_slOf {a : PyData ⊕ List PyData} {ds : List PyData} (h : datOf a = .list ds) {G : Gm} {n : Nat} (hG : G[n]? = some (slOf a)) : Rl (tVar n) G ds := by
  cases a with
  | inl d => have e : d = .list ds := h; subst e; exact rl_sv (sv_var hG)
  | inr es => have e : es = ds := PyData.list.inj h; subst e; exact rl_bw hG
theorem sv_slOf {a : PyData ⊕ List PyData} (h : ∀ ds, datOf a ≠ .list ds) {G : Gm} {n : Nat} (hG : G[n]? = some (slOf a)) : Sv (tVar n) G (isD (datOf a)) := by
  cases a with
  | inl d => exact sv_var hG
  | inr es => exact absurd rfl (h es)
theorem sa_slOf {a : PyData ⊕ List PyData} {G : Gm} {n : Nat} {tr : TA} {as : List Ar} (h : G[n]? = some (slOf a)) (hr : Sa tr G as) : Sa (tCons (tVar n) tr) G (argOf a :: as) := by
  cases a with
  | inl d => exact sa_im (sv_var h) hr
  | inr ds => exact sa_bw h hr
def tupB (f : PyData → Bool) (d : PyData) : Bool := match d with
  | .tuple ds => ds.all f
  | _ => false
def isWordB (d : PyData) (n : Int) : Bool := tupB (fun e => belowB e n) d && (decide (1 ≤ (lenD d : Int)) && decide ((lenD d : Int) ≤ 5000))
def areWordsB (d : PyData) (n : Int) : Bool := match d with
  | .list ds => decide (ds.length ≤ 60) && ds.all fun e => isWordB e n
  | _ => false
theorem at_getD {ds : List PyData} {i : Int} (h0 : 0 ≤ i) (h1 : i < ds.length) : atI ds i = some (ds.getD i.toNat .none) := by
  obtain ⟨n, rfl⟩ := Int.eq_ofNat_of_zero_le h0
  have hn : n < ds.length := by omega
  have e : ds[n]? = some (ds.getD n .none) := by rw [List.getD_eq_getElem?_getD, List.getElem?_eq_getElem hn]; rfl
  exact atI_nat e
theorem ini_good {E : L2.St → XK} {t : TS} {G G' : Gm} {S : Sl} (h2 : Ss E t G (.nx G')) (h1 : G'[0]? = some S) : ∃ G', G'[0]? = some S ∧ Ss E t G (.nx G') := ⟨G', h1, h2⟩
theorem ini_bad {E : L2.St → XK} {t : TS} {G G' : Gm} {C p dx X : Addr} {F' : Fl} (h2 : Ss E t G (.bad X G')) (h1 : G'[0]? = some (.ow (owI C p dx F'))) : ∃ G' F', G'[0]? = some (.ow (owI C p dx F')) ∧ Ss E t G (.bad X G') := ⟨G', F', h1, h2⟩
theorem all_map_id {α : Type} (f : α → Bool) : ∀ l : List α, (l.map f).all id = l.all f
  | [] => rfl
  | a :: l => by simp [all_map_id f l]
def dInt : PyData → Bool
  | .int _ => true
  | .bool _ => true
  | _ => false
def dBool : PyData → Bool
  | .bool _ => true
  | _ => false
def dStr : PyData → Bool
  | .str _ => true
  | _ => false
def dTup : PyData → Bool
  | .tuple _ => true
  | _ => false
def dLst : PyData → Bool
  | .list _ => true
  | _ => false
theorem kit_int : ∀ d, kitB (tyName d) "int" = some (dInt d)
  | .none => (by decide +kernel : kitB "NoneType" "int" = some false)
  | .bool _ => (by decide +kernel : kitB "bool" "int" = some true)
  | .int _ => (by decide +kernel : kitB "int" "int" = some true)
  | .str _ => (by decide +kernel : kitB "str" "int" = some false)
  | .list _ => (by decide +kernel : kitB "list" "int" = some false)
  | .tuple _ => (by decide +kernel : kitB "tuple" "int" = some false)
  | .dict _ => (by decide +kernel : kitB "dict" "int" = some false)
theorem kit_bool : ∀ d, kitB (tyName d) "bool" = some (dBool d)
  | .none => (by decide +kernel : kitB "NoneType" "bool" = some false)
  | .bool _ => (by decide +kernel : kitB "bool" "bool" = some true)
  | .int _ => (by decide +kernel : kitB "int" "bool" = some false)
  | .str _ => (by decide +kernel : kitB "str" "bool" = some false)
  | .list _ => (by decide +kernel : kitB "list" "bool" = some false)
  | .tuple _ => (by decide +kernel : kitB "tuple" "bool" = some false)
  | .dict _ => (by decide +kernel : kitB "dict" "bool" = some false)
theorem kit_str : ∀ d, kitB (tyName d) "str" = some (dStr d)
  | .none => (by decide +kernel : kitB "NoneType" "str" = some false)
  | .bool _ => (by decide +kernel : kitB "bool" "str" = some false)
  | .int _ => (by decide +kernel : kitB "int" "str" = some false)
  | .str _ => (by decide +kernel : kitB "str" "str" = some true)
  | .list _ => (by decide +kernel : kitB "list" "str" = some false)
  | .tuple _ => (by decide +kernel : kitB "tuple" "str" = some false)
  | .dict _ => (by decide +kernel : kitB "dict" "str" = some false)
theorem kit_tup : ∀ d, kitB (tyName d) "tuple" = some (dTup d)
  | .none => (by decide +kernel : kitB "NoneType" "tuple" = some false)
  | .bool _ => (by decide +kernel : kitB "bool" "tuple" = some false)
  | .int _ => (by decide +kernel : kitB "int" "tuple" = some false)
  | .str _ => (by decide +kernel : kitB "str" "tuple" = some false)
  | .list _ => (by decide +kernel : kitB "list" "tuple" = some false)
  | .tuple _ => (by decide +kernel : kitB "tuple" "tuple" = some true)
  | .dict _ => (by decide +kernel : kitB "dict" "tuple" = some false)
theorem kit_lst : ∀ d, kitB (tyName d) "list" = some (dLst d)
  | .none => (by decide +kernel : kitB "NoneType" "list" = some false)
  | .bool _ => (by decide +kernel : kitB "bool" "list" = some false)
  | .int _ => (by decide +kernel : kitB "int" "list" = some false)
  | .str _ => (by decide +kernel : kitB "str" "list" = some false)
  | .list _ => (by decide +kernel : kitB "list" "list" = some true)
  | .tuple _ => (by decide +kernel : kitB "tuple" "list" = some false)
  | .dict _ => (by decide +kernel : kitB "dict" "list" = some false)
section
variable {K : PySem.W.Frag} {G : Gm} {ta tb : TE} {d : PyData} {ds : List PyData}
theorem sv_isInt (ha : Sv ta G (isD d)) : Sv (tCB (rIsi K) (tCons ta (tCons (tC (.ty "int")) tNil))) G (isD (.bool (dInt d))) := sv_isi ha sv_val (kit_int d)
theorem sv_isBool (ha : Sv ta G (isD d)) : Sv (tCB (rIsi K) (tCons ta (tCons (tC (.ty "bool")) tNil))) G (isD (.bool (dBool d))) := sv_isi ha sv_val (kit_bool d)
theorem sv_isStr (ha : Sv ta G (isD d)) : Sv (tCB (rIsi K) (tCons ta (tCons (tC (.ty "str")) tNil))) G (isD (.bool (dStr d))) := sv_isi ha sv_val (kit_str d)
theorem sv_isTup (ha : Sv ta G (isD d)) : Sv (tCB (rIsi K) (tCons ta (tCons (tC (.ty "tuple")) tNil))) G (isD (.bool (dTup d))) := sv_isi ha sv_val (kit_tup d)
theorem sv_isLst (ha : Sv ta G (isD d)) : Sv (tCB (rIsi K) (tCons ta (tCons (tC (.ty "list")) tNil))) G (isD (.bool (dLst d))) := sv_isi ha sv_val (kit_lst d)
theorem sv_isLstR (ha : Rl ta G ds) : Sv (tCB (rIsi K) (tCons ta (tCons (tC (.ty "list")) tNil))) G (isD (.bool true)) := sv_isiL ha sv_val (kit_lst (.list []))
end
end Mini

namespace Mini
open PySem L2 Evl

/-! ### weaker slots, written out -/
theorem Le.nil : Le [] [] := Le.refl []
theorem Le.eq {S : Sl} {G1 G2 : Gm} (h : Le G1 G2) : Le (S :: G1) (S :: G2) := ⟨by simp [h.1], fun i R q => by
  cases i with
  | zero => exact .inr q
  | succ i => exact h.2 i R (by simpa using q)⟩
theorem Le.no {S : Sl} {G1 G2 : Gm} (h : Le G1 G2) : Le (S :: G1) (.no :: G2) := ⟨by simp [h.1], fun i R q => by
  cases i with
  | zero => have e : Sl.no = R := by simpa using q
            exact .inl e.symm
  | succ i => exact h.2 i R (by simpa using q)⟩

/-! ### the laws' own draws -/
def digS (s : List Int × Int) : List Int × Int := if 0 < s.2 then (s.1 ++ [s.2 % 1009], s.2 / 1009) else s
def itN {α : Type} (f : α → α) : Nat → α → α
  | 0, a => a
  | n + 1, a => f (itN f n a)
def absI (c : Int) : Int := if c < 0 then -c else c
def seedS (s c : Int) : Int := (s * 48271 + absI c + 11) % 2147483647
def cellS (s : List Int × Int) (c : Int) : List Int × Int :=
  if 10 ^ 18 ≤ absI c then ((itN digS 60 (s.1, absI c)).1, seedS s.2 c) else (s.1 ++ [(seedS s.2 c * 16807 + 5) / 3 % 65521], seedS s.2 c)
def fillS (many : Int) (s : List Int × Int) (k : Nat) : List Int × Int :=
  if (s.1.length : Int) < many then (s.1 ++ [(s.2 * 69621 + (k : Int) + 1) % 2147483647 / 7 % 65521], (s.2 * 69621 + (k : Int) + 1) % 2147483647) else s
def cellsS (ns : List Int) (i : Nat) : List Int × Int := (ns.take i).foldl cellS ([], 7)
def fillsS (ns : List Int) (many : Int) (k : Nat) : List Int × Int := (List.range k).foldl (fillS many) (cellsS ns ns.length)
def drawsF (ns : List Int) (many : Int) : List Int := cutD (fillsS (cutD ns none (some 63)) many many.toNat).1 none (some many)
theorem cellsS_succ {ns : List Int} {i : Nat} {c : Int} (h : ns[i]? = some c) : cellsS ns (i + 1) = cellS (cellsS ns i) c := by
  unfold cellsS
  rw [List.take_succ, h, List.foldl_append]
  rfl
theorem fillsS_succ (ns : List Int) (many : Int) (k : Nat) : fillsS ns many (k + 1) = fillS many (fillsS ns many k) k := by
  unfold fillsS
  rw [List.range_succ, List.foldl_append]
  rfl
theorem digS_len (s : List Int × Int) : (digS s).1.length ≤ s.1.length + 1 := by
  unfold digS
  split
  · simp
  · omega
theorem itN_len {n : Nat} {s : List Int × Int} : (itN digS n s).1.length ≤ s.1.length + n := by
  induction n with
  | zero => exact Nat.le_refl _
  | succ n ih =>
    have := digS_len (itN digS n s)
    show (digS (itN digS n s)).1.length ≤ _
    omega
theorem cellS_len (s : List Int × Int) (c : Int) : (cellS s c).1.length ≤ s.1.length + 60 := by
  unfold cellS
  split
  · exact itN_len (s := (s.1, absI c))
  · simp
theorem cellsS_len {ns : List Int} : ∀ i, i ≤ ns.length → (cellsS ns i).1.length ≤ 60 * i
  | 0, _ => by simp [cellsS]
  | i + 1, h => by
    rw [cellsS_succ (List.getElem?_eq_getElem (show i < ns.length by omega))]
    have := cellS_len (cellsS ns i) ns[i]
    have := cellsS_len (ns := ns) i (by omega)
    omega
theorem fillS_len (many : Int) (s : List Int × Int) (k : Nat) : (fillS many s k).1.length ≤ s.1.length + 1 := by
  unfold fillS
  split
  · simp
  · omega
theorem fillsS_len (ns : List Int) (many : Int) : ∀ k, (fillsS ns many k).1.length ≤ 60 * ns.length + k
  | 0 => cellsS_len ns.length (Nat.le_refl _)
  | k + 1 => by
    rw [fillsS_succ]
    have := fillS_len many (fillsS ns many k) k
    have := fillsS_len ns many k
    omega
theorem fillsS_ge (ns : List Int) (many : Int) : ∀ k : Nat, (k : Int) ≤ many → k ≤ (fillsS ns many k).1.length
  | 0, _ => Nat.zero_le _
  | k + 1, h => by
    rw [fillsS_succ]
    have := fillsS_ge ns many k (by omega)
    unfold fillS
    split
    · rw [List.length_append, List.length_singleton]; omega
    · omega
theorem cut_take {α : Type} (ds : List α) {i : Int} (h0 : 0 ≤ i) : cutD ds none (some i) = ds.take i.toNat := by
  unfold cutD
  obtain ⟨n, rfl⟩ := Int.eq_ofNat_of_zero_le h0
  rw [HT.sIx_none]
  show (ds.drop 0).take (HT.sIx ds.length ds.length (some (n : Int)) - 0) = ds.take (n : Int).toNat
  rw [HT.sIx_nat, List.drop_zero, Nat.sub_zero, Int.toNat_natCast]
  by_cases h : n ≤ ds.length
  · rw [Nat.min_eq_left h]
  · rw [Nat.min_eq_right (by omega), List.take_length, List.take_of_length_le (by omega)]
theorem cut_drop {α : Type} (ds : List α) {i : Int} (h0 : 0 ≤ i) : cutD ds (some i) none = ds.drop i.toNat := by
  unfold cutD
  obtain ⟨n, rfl⟩ := Int.eq_ofNat_of_zero_le h0
  rw [HT.sIx_none, HT.sIx_nat, Int.toNat_natCast]
  by_cases h : n ≤ ds.length
  · rw [Nat.min_eq_left h, List.take_of_length_le (by simp)]
  · rw [Nat.min_eq_right (by omega), Nat.sub_self, List.take_zero, List.drop_eq_nil_of_le (by omega)]
def Dr (v : Int) : Prop := 0 ≤ v ∧ v < 65521
theorem digS_dr {s : List Int × Int} (h : ∀ v ∈ s.1, Dr v) : ∀ v ∈ (digS s).1, Dr v := by
  unfold digS
  split
  · intro v hv
    rcases List.mem_append.mp hv with e | e
    · exact h v e
    · rw [List.mem_singleton] at e
      subst e
      exact ⟨by omega, by omega⟩
  · exact h
theorem itN_dr {n : Nat} {s : List Int × Int} (h : ∀ v ∈ s.1, Dr v) : ∀ v ∈ (itN digS n s).1, Dr v := by
  induction n with
  | zero => exact h
  | succ n ih => exact digS_dr ih
theorem cellS_dr {s : List Int × Int} {c : Int} (h : ∀ v ∈ s.1, Dr v) : ∀ v ∈ (cellS s c).1, Dr v := by
  unfold cellS
  split
  · exact itN_dr (s := (s.1, absI c)) h
  · intro v hv
    rcases List.mem_append.mp hv with e | e
    · exact h v e
    · rw [List.mem_singleton] at e
      subst e
      exact ⟨by omega, by omega⟩
theorem cellsS_dr {ns : List Int} : ∀ i, i ≤ ns.length → ∀ v ∈ (cellsS ns i).1, Dr v
  | 0, _ => fun v hv => by simp [cellsS] at hv
  | i + 1, h => by
    rw [cellsS_succ (List.getElem?_eq_getElem (show i < ns.length by omega))]
    exact cellS_dr (cellsS_dr i (by omega))
theorem fillsS_dr (ns : List Int) (many : Int) : ∀ k, ∀ v ∈ (fillsS ns many k).1, Dr v
  | 0 => cellsS_dr ns.length (Nat.le_refl _)
  | k + 1 => by
    rw [fillsS_succ]
    unfold fillS
    split
    · intro v hv
      rcases List.mem_append.mp hv with e | e
      · exact fillsS_dr ns many k v e
      · rw [List.mem_singleton] at e
        subst e
        exact ⟨by omega, by omega⟩
    · exact fillsS_dr ns many k
theorem drawsF_len {ns : List Int} {many : Int} (h : 0 ≤ many) : (drawsF ns many).length = many.toNat := by
  unfold drawsF
  rw [cut_take _ h, List.length_take]
  have := fillsS_ge (cutD ns none (some 63)) many many.toNat (by omega)
  omega
theorem drawsF_dr {ns : List Int} {many : Int} (h : 0 ≤ many) : ∀ v ∈ drawsF ns many, Dr v := fun v hv => by
  unfold drawsF at hv
  rw [cut_take _ h] at hv
  exact fillsS_dr _ _ _ v (List.mem_of_mem_take hv)

/-! ### the laws' own words -/
def atD (ds : List Int) (k : Nat) : Int := ds.getD k 0
def primD (j : Nat) : Int := [1, 3, 7, 11, 19, 31, 53, 97].getD (j % 8) 1
def wordD (dr : List Int) (letters longest first : Int) (k : Nat) : List Int :=
  first :: (List.range (atD dr (3 * k + 1) % longest).toNat).map fun j => atD dr (3 * k + 2) / primD j % letters
theorem eraseIdx_map' {α β : Type} (f : α → β) : ∀ (l : List α) (n : Nat), (l.map f).eraseIdx n = (l.eraseIdx n).map f
  | [], n => by simp
  | a :: l, 0 => by simp
  | a :: l, n + 1 => by simp [eraseIdx_map' f l n]
theorem prim_cases (j : Nat) : j % 8 = 0 ∨ j % 8 = 1 ∨ j % 8 = 2 ∨ j % 8 = 3 ∨ j % 8 = 4 ∨ j % 8 = 5 ∨ j % 8 = 6 ∨ j % 8 = 7 := by omega
theorem prim_at (j : Nat) : atI ([.int 1, .int 3, .int 7, .int 11, .int 19, .int 31, .int 53, .int 97] : List PyData) ((j : Int) % 8) = some (.int (primD j)) := by
  have e : (j : Int) % 8 = ((j % 8 : Nat) : Int) := by omega
  rw [e]
  unfold primD
  rcases prim_cases j with h | h | h | h | h | h | h | h <;> rw [h] <;> rfl
theorem prim_div (j : Nat) {i : Int} : CDiv i (primD j) := by
  unfold primD CDiv
  rcases prim_cases j with h | h | h | h | h | h | h | h <;> rw [h] <;> decide
/-- the letters that are left, the words so far -/
def wordsS (dr : List Int) (letters longest : Int) (apart : Bool) : Nat → List Int × List (List Int)
  | 0 => ((List.range letters.toNat).map fun k : Nat => (k : Int), [])
  | k + 1 =>
    let s := wordsS dr letters longest apart k
    if apart then (s.1.eraseIdx (atD dr (3 * k) % (s.1.length : Int)).toNat, s.2 ++ [wordD dr letters longest (s.1.getD (atD dr (3 * k) % (s.1.length : Int)).toNat 0) k])
    else (s.1, s.2 ++ [wordD dr letters longest (atD dr (3 * k) % (if 1 > letters then 1 else letters)) k])
def wordsF (dr : List Int) (letters size longest : Int) (apart : Bool) : List (List Int) := (wordsS dr letters longest apart size.toNat).2
theorem wordsS_len (dr : List Int) (letters longest : Int) (apart : Bool) : ∀ k, (wordsS dr letters longest apart k).2.length = k
  | 0 => rfl
  | k + 1 => by
    have ih := wordsS_len dr letters longest apart k
    unfold wordsS
    cases apart <;> simp [ih]
theorem leftS_len (dr : List Int) (letters longest : Int) : ∀ k : Nat, (∀ i, 0 ≤ atD dr i) → (k : Int) ≤ letters → ((wordsS dr letters longest true k).1.length : Int) = letters - k
  | 0, _, h => by simp [wordsS]; omega
  | k + 1, hp, h => by
    have ih := leftS_len dr letters longest k hp (by omega)
    unfold wordsS
    simp only [if_true]
    have h1 := hp (3 * k)
    have h2 : 0 ≤ atD dr (3 * k) % ((wordsS dr letters longest true k).1.length : Int) := Int.emod_nonneg _ (by omega)
    have h3 : atD dr (3 * k) % ((wordsS dr letters longest true k).1.length : Int) < ((wordsS dr letters longest true k).1.length : Int) := Int.emod_lt_of_pos _ (by omega)
    rw [List.length_eraseIdx, if_pos (by omega)]
    omega
end Mini

namespace Mini
open PySem L2 Evl

theorem eqvI_iff : ∀ (a b : List Int), PyData.eqvAll (a.map .int) (b.map .int) = decide (a = b)
  | [], [] => by simp [PyData.eqvAll]
  | [], _ :: _ => by simp [PyData.eqvAll]
  | _ :: _, [] => by simp [PyData.eqvAll]
  | x :: xs, y :: ys => by
    rw [List.map_cons, List.map_cons, PyData.eqvAll, eqvI_iff xs ys, PyData.eqv]
    by_cases h : x = y
    · subst h; simp
    · have h' : ¬ (x :: xs = y :: ys) := fun e => h (List.cons.inj e).1
      rw [decide_eq_false h', beq_eq_false_iff_ne.mpr h, Bool.false_and]
theorem eqvW_iff : ∀ (a b : List (List Int)), PyData.eqvAll (wD a) (wD b) = decide (a = b)
  | [], [] => by simp [PyData.eqvAll, wD]
  | [], _ :: _ => by simp [PyData.eqvAll, wD]
  | _ :: _, [] => by simp [PyData.eqvAll, wD]
  | x :: xs, y :: ys => by
    have ih := eqvW_iff xs ys
    unfold wD at ih ⊢
    rw [List.map_cons, List.map_cons, PyData.eqvAll, ih, PyData.eqv, eqvI_iff]
    by_cases h : x = y
    · subst h; simp
    · have h' : ¬ (x :: xs = y :: ys) := fun e => h (List.cons.inj e).1
      rw [decide_eq_false h', decide_eq_false h, Bool.false_and]
theorem eqv_wD (a b : List (List Int)) : PyData.eqv (.list (wD a)) (.list (wD b)) = decide (a = b) := by rw [PyData.eqv, eqvW_iff]
theorem eqv_ints (a b : List Int) : PyData.eqv (.list (a.map .int)) (.list (b.map .int)) = decide (a = b) := by rw [PyData.eqv, eqvI_iff]
theorem eqv_tints (a b : List Int) : PyData.eqv (.tuple (a.map .int)) (.tuple (b.map .int)) = decide (a = b) := by rw [PyData.eqv, eqvI_iff]
theorem canI : ∀ a : List Int, PyData.canLayAll0 (a.map .int) = true
  | [] => by simp [PyData.canLayAll0]
  | x :: xs => by simp [PyData.canLayAll0, PyData.canLay0, canI xs]
theorem depI : ∀ a : List Int, PyData.depthAll (a.map .int) = 0
  | [] => by simp [PyData.depthAll]
  | x :: xs => by simp [PyData.depthAll, PyData.depth, depI xs]
theorem canW : ∀ a : List (List Int), PyData.canLayAll0 (wD a) = true
  | [] => by simp [PyData.canLayAll0, wD]
  | x :: xs => by
    have ih := canW xs
    unfold wD at ih ⊢
    simp [PyData.canLayAll0, PyData.canLay0, ih, canI]
theorem depW : ∀ a : List (List Int), PyData.depthAll (wD a) ≤ 1
  | [] => by simp [PyData.depthAll, wD]
  | x :: xs => by
    have ih := depW xs
    unfold wD at ih ⊢
    simp [PyData.depthAll, PyData.depth, depI, ih]
theorem shaped_wD (a : List (List Int)) : SeqAt.shaped (.list (wD a)) = true := by
  unfold SeqAt.shaped
  have h := depW a
  rw [Bool.and_eq_true]
  refine ⟨by rw [PyData.canLay0]; exact canW a, decide_eq_true ?_⟩
  rw [PyData.depth]
  omega
theorem shaped_ints (a : List Int) : SeqAt.shaped (.list (a.map .int)) = true := by
  unfold SeqAt.shaped
  rw [Bool.and_eq_true]
  refine ⟨by rw [PyData.canLay0]; exact canI a, decide_eq_true ?_⟩
  rw [PyData.depth, depI]
  omega
theorem shaped_tints (a : List Int) : SeqAt.shaped (.tuple (a.map .int)) = true := by
  unfold SeqAt.shaped
  rw [Bool.and_eq_true]
  refine ⟨by rw [PyData.canLay0]; exact canI a, decide_eq_true ?_⟩
  rw [PyData.depth, depI]
  omega
/-- words of a book over m letters -/
def GoodW (W : List (List Int)) (m : Int) : Prop := W.length ≤ 60 ∧ ∀ w ∈ W, 1 ≤ w.length ∧ w.length ≤ 5000 ∧ ∀ v ∈ w, 0 ≤ v ∧ v < m
theorem word_iff (w : List Int) (m : Int) : isWordB (.tuple (w.map .int)) m = true ↔ 1 ≤ w.length ∧ w.length ≤ 5000 ∧ ∀ v ∈ w, 0 ≤ v ∧ v < m := by
  have e : (isWordB (.tuple (w.map .int)) m) = ((w.map PyData.int).all (fun e => belowB e m) && (decide (1 ≤ ((w.map PyData.int).length : Int)) && decide (((w.map PyData.int).length : Int) ≤ 5000))) := rfl
  rw [e]
  simp only [Bool.and_eq_true, List.all_eq_true, List.length_map, decide_eq_true_eq, List.mem_map, forall_exists_index, and_imp, forall_apply_eq_imp_iff₂]
  constructor
  · rintro ⟨h1, h2, h3⟩
    refine ⟨by omega, by omega, fun v hv => ?_⟩
    have := h1 v hv
    simpa [belowB] using this
  · rintro ⟨h1, h2, h3⟩
    refine ⟨fun v hv => ?_, by omega, by omega⟩
    simpa [belowB] using h3 v hv
theorem areWords_iff (W : List (List Int)) (m : Int) : areWordsB (.list (wD W)) m = true ↔ GoodW W m := by
  have e : areWordsB (.list (wD W)) m = (decide ((wD W).length ≤ 60) && (wD W).all fun e => isWordB e m) := rfl
  rw [e]
  unfold wD GoodW
  simp only [Bool.and_eq_true, List.all_eq_true, List.length_map, decide_eq_true_eq, List.mem_map, forall_exists_index, and_imp, forall_apply_eq_imp_iff₂, word_iff]
theorem fits_wD {W : List (List Int)} (h1 : W.length < 10000000) (h2 : ∀ w ∈ W, w.length < 10000000) : Fits (.list (wD W)) := by
  refine ⟨by unfold wD; rw [List.length_map]; exact h1, fun e he => ?_⟩
  unfold wD at he
  obtain ⟨w, hw, rfl⟩ := List.mem_map.mp he
  show (w.map PyData.int).length < 10000000
  rw [List.length_map]
  exact h2 w hw
theorem GoodW.fits {W : List (List Int)} {m : Int} (h : GoodW W m) : Fits (.list (wD W)) := fits_wD (by have := h.1; omega) fun w hw => by have := (h.2 w hw).2.1; omega
theorem belowB_int (i n : Int) : belowB (.int i) n = true ↔ 0 ≤ i ∧ i < n := by simp [belowB]
/-- the drawn words are words -/
theorem wordD_ok {dr : List Int} {letters longest first : Int} {k : Nat} (hl : 1 ≤ letters) (hg : 1 ≤ longest) (hf : 0 ≤ first ∧ first < letters) : 1 ≤ (wordD dr letters longest first k).length ∧ (wordD dr letters longest first k).length ≤ longest ∧ ∀ v ∈ wordD dr letters longest first k, 0 ≤ v ∧ v < letters := by
  unfold wordD
  have h1 : 0 ≤ atD dr (3 * k + 1) % longest := Int.emod_nonneg _ (by omega)
  have h2 : atD dr (3 * k + 1) % longest < longest := Int.emod_lt_of_pos _ (by omega)
  refine ⟨by simp, by rw [List.length_cons, List.length_map, List.length_range]; omega, fun v hv => ?_⟩
  rcases List.mem_cons.mp hv with e | e
  · rw [e]; exact hf
  · obtain ⟨j, _, rfl⟩ := List.mem_map.mp e
    exact ⟨Int.emod_nonneg _ (by omega), Int.emod_lt_of_pos _ (by omega)⟩
theorem leftS_mem {dr : List Int} {letters longest : Int} {apart : Bool} (hl : 0 ≤ letters) : ∀ k v, v ∈ (wordsS dr letters longest apart k).1 → 0 ≤ v ∧ v < letters
  | 0, v, h => by
    obtain ⟨j, hj, rfl⟩ := List.mem_map.mp (show v ∈ (List.range letters.toNat).map fun k : Nat => (k : Int) from h)
    have := List.mem_range.mp hj
    exact ⟨by omega, by omega⟩
  | k + 1, v, h => by
    unfold wordsS at h
    cases apart with
    | true => exact leftS_mem hl k v (List.mem_of_mem_eraseIdx h)
    | false => exact leftS_mem hl k v h
theorem wordsS_ok {dr : List Int} {letters longest : Int} {apart : Bool} (hl : 1 ≤ letters) (hg : 1 ≤ longest) (hp : ∀ i, 0 ≤ atD dr i) : ∀ k : Nat, (apart = true → (k : Int) ≤ letters) → ∀ w ∈ (wordsS dr letters longest apart k).2, 1 ≤ w.length ∧ w.length ≤ longest ∧ ∀ v ∈ w, 0 ≤ v ∧ v < letters
  | 0, _ => fun w h => by simp [wordsS] at h
  | k + 1, ha => fun w h => by
    have ih := wordsS_ok (dr := dr) (letters := letters) (longest := longest) (apart := apart) hl hg hp k (fun e => by have := ha e; omega)
    have hlen := leftS_len dr letters longest k hp
    unfold wordsS at h
    cases apart with
    | true =>
      simp only [if_true] at h
      rcases List.mem_append.mp h with e | e
      · exact ih w e
      · rw [List.mem_singleton] at e
        rw [e]
        have hk : (k : Int) + 1 ≤ letters := ha rfl
        have hlen' := hlen (by omega)
        refine wordD_ok hl hg ?_
        have i0 : 0 ≤ atD dr (3 * k) % ((wordsS dr letters longest true k).1.length : Int) := Int.emod_nonneg _ (by omega)
        have i1 : atD dr (3 * k) % ((wordsS dr letters longest true k).1.length : Int) < ((wordsS dr letters longest true k).1.length : Int) := Int.emod_lt_of_pos _ (by omega)
        have i2 : (atD dr (3 * k) % ((wordsS dr letters longest true k).1.length : Int)).toNat < (wordsS dr letters longest true k).1.length := by omega
        have e3 : (wordsS dr letters longest true k).1.getD (atD dr (3 * k) % ((wordsS dr letters longest true k).1.length : Int)).toNat 0 = (wordsS dr letters longest true k).1[(atD dr (3 * k) % ((wordsS dr letters longest true k).1.length : Int)).toNat] := by
          rw [List.getD_eq_getElem?_getD, List.getElem?_eq_getElem i2]; rfl
        rw [e3]
        exact leftS_mem (by omega) k _ (List.getElem_mem i2)
    | false =>
      have h : w ∈ (wordsS dr letters longest false k).2 ++ [wordD dr letters longest (atD dr (3 * k) % (if 1 > letters then 1 else letters)) k] := h
      rcases List.mem_append.mp h with e | e
      · exact ih w e
      · rw [List.mem_singleton] at e
        rw [e]
        have q : (if 1 > letters then 1 else letters) = letters := if_neg (by omega)
        rw [q]
        exact wordD_ok hl hg ⟨Int.emod_nonneg _ (by omega), Int.emod_lt_of_pos _ (by omega)⟩
theorem wordsF_len {dr : List Int} {letters size longest : Int} {apart : Bool} : (wordsF dr letters size longest apart).length = size.toNat := wordsS_len _ _ _ _ _
theorem atD_dr {ds : List Int} (h : ∀ v ∈ ds, Dr v) (k : Nat) : Dr (atD ds k) := by
  unfold atD
  rw [List.getD_eq_getElem?_getD]
  cases e : ds[k]? with
  | none => exact ⟨Int.le_refl 0, by decide⟩
  | some v => exact h v (List.mem_of_getElem? e)
theorem atI_ints {ds : List Int} {k : Nat} (h : k < ds.length) : atI (ds.map PyData.int) (k : Int) = some (.int (atD ds k)) := by
  have e : (ds.map PyData.int)[k]? = some (.int (atD ds k)) := by
    rw [List.getElem?_map, List.getElem?_eq_getElem h]
    unfold atD
    rw [List.getD_eq_getElem?_getD, List.getElem?_eq_getElem h]
    rfl
  exact atI_nat e
/-- ds[:-1] -/
theorem cut_init {α : Type} (ds : List α) (x : α) : cutD (ds ++ [x]) none (some (-1)) = ds := by
  unfold cutD
  have e : HT.sIx (ds ++ [x]).length (ds ++ [x]).length (some (-1)) = ds.length := by
    show (if (-1 : Int) < 0 then ((-1 : Int) + ((ds ++ [x]).length : Int)).toNat else min (-1 : Int).toNat (ds ++ [x]).length) = _
    rw [if_pos (by decide), List.length_append, List.length_singleton]
    omega
  rw [e, HT.sIx_none, List.drop_zero, Nat.sub_zero, List.take_append_of_le_length (Nat.le_refl _), List.take_length]
theorem rep_one {α : Type} (x : α) : ∀ n : Nat, (List.replicate n [x]).flatten = List.replicate n x
  | 0 => rfl
  | n + 1 => by rw [List.replicate_succ, List.flatten_cons, rep_one x n]; rfl
theorem range_getD (ds : List PyData) : ((List.range ds.length).map fun i => ds.getD i .none) = ds := by
  apply List.ext_getElem
  · simp
  · intro i h1 h2
    rw [List.getElem_map, List.getElem_range, List.getD_eq_getElem?_getD, List.getElem?_eq_getElem h2]
    rfl
section
variable {K : PySem.W.Frag} {G : Gm} {ta tb : TE} {x y : Str}
theorem sv_neS (ha : Sv ta G (isD (.str x))) (hb : Sv tb G (isD (.str y))) (h1 : PyData.strOk x = true) (h2 : PyData.strOk y = true) : Sv (tOp (rNeD K) ta tb) G (isD (.bool (!(x == y)))) := by
  have s : ∀ z, PyData.strOk z = true → SeqAt.shaped (.str z) = true := fun z h => by
    unfold SeqAt.shaped
    rw [Bool.and_eq_true]
    exact ⟨by rw [PyData.canLay0]; exact h, by rw [PyData.depth]; rfl⟩
  refine sv_is (sv_ne ha hb (s x h1) (s y h2)) ?_
  rw [PyData.eqv]
/-- draws[k] -/
theorem sv_dr {D : List Int} {n : Nat} {k : Nat} (h : G[n]? = some (.im (isD (.list (D.map .int))))) (hk : k < D.length) : Sv (tCB cInt (tCons (tOp (rIx K) (tVar n) (tC (.int (k : Int)))) tNil)) G (isD (.int (atD D k))) :=
  sv_int1 (sv_ixL (rl_sv (sv_var h)) sv_int (atI_ints hk))
end
end Mini
namespace Mini
open PySem L2 Evl
theorem neI (a : List Int) : (!PyData.eqv (.list (a.map .int)) (.list (a.map .int))) = false := by rw [eqv_ints]; simp
theorem neW (a : List (List Int)) : (!PyData.eqv (.list (wD a)) (.list (wD a))) = false := by rw [eqv_wD]; simp
theorem areW_bad {X : List PyData} {e : PyData} {n : Int} (h : isWordB e n = false) : areWordsB (.list (X ++ [e])) n = false := by
  show (decide ((X ++ [e]).length ≤ 60) && (X ++ [e]).all fun e => isWordB e n) = false
  rw [List.all_append]
  simp [h]
theorem fits_add {X : List PyData} {e : PyData} (h : Fits (.list X)) (hn : X.length < 9999999) (he : Fit e) : Fits (.list (X ++ [e])) := by
  refine ⟨by rw [List.length_append, List.length_singleton]; omega, fun x hx => ?_⟩
  rcases List.mem_append.mp hx with q | q
  · exact h.2 x q
  · rw [List.mem_singleton] at q; rw [q]; exact he
theorem wD_take (W : List (List Int)) (n : Nat) : (wD W).take n = wD (W.take n) := by unfold wD; rw [List.map_take]
theorem wD_get {W : List (List Int)} {j : Nat} (h : j < W.length) : (wD W)[j]? = some (.tuple ((W.getD j []).map .int)) := by
  unfold wD
  rw [List.getElem?_map, List.getElem?_eq_getElem h, List.getD_eq_getElem?_getD, List.getElem?_eq_getElem h]
  rfl
theorem wD_set (W : List (List Int)) (j : Nat) (w : List Int) : (wD W).set j (.tuple (w.map .int)) = wD (W.set j w) := by unfold wD; rw [List.map_set]
theorem set_ne {W : List (List Int)} {j : Nat} (h : j < W.length) (v : Int) : W ≠ W.set j (W.getD j [] ++ [v]) := fun e => by
  have h1 : (W.set j (W.getD j [] ++ [v]))[j]? = some (W.getD j [] ++ [v]) := List.getElem?_set_self h
  rw [← e, List.getElem?_eq_getElem h, List.getD_eq_getElem?_getD, List.getElem?_eq_getElem h] at h1
  have h2 := congrArg List.length (Option.some.inj h1)
  simp at h2
theorem GoodW.set {W : List (List Int)} {m : Int} {j : Nat} (h : GoodW W m) (hj : j < W.length) (hm : 0 < m) (hl : (W.getD j []).length + 1 ≤ 5000) : GoodW (W.set j (W.getD j [] ++ [0])) m := by
  refine ⟨by rw [List.length_set]; exact h.1, fun w hw => ?_⟩
  rcases List.mem_or_eq_of_mem_set hw with q | q
  · exact h.2 w q
  · rw [q, List.length_append, List.length_singleton]
    have hmem : W.getD j [] ∈ W := by rw [List.getD_eq_getElem?_getD, List.getElem?_eq_getElem hj]; exact List.getElem_mem hj
    refine ⟨by omega, by omega, fun v hv => ?_⟩
    rcases List.mem_append.mp hv with q | q
    · exact (h.2 _ hmem).2.2 v q
    · rw [List.mem_singleton] at q; rw [q]; exact ⟨Int.le_refl 0, hm⟩
theorem GoodW.more {W : List (List Int)} {m : Int} (h : GoodW W m) : GoodW W (m + 1) := ⟨h.1, fun w hw => ⟨(h.2 w hw).1, (h.2 w hw).2.1, fun v hv => by have := (h.2 w hw).2.2 v hv; omega⟩⟩
theorem ixN_of {n j : Nat} {i : Int} (h : i = (j : Int)) (hj : j < n) : ixN n i = some j := by rw [h]; exact ixN_nat hj
end Mini

namespace Mini
open PySem L2 Evl PyProof.Rows

/-! ### sets of ints: what they are for is their length -/
/-- the different ones, in their first order -/
def dl (ns : List Int) : List Int := ns.foldl (fun acc x => if acc.any (fun y => y == x) = true then acc else acc ++ [x]) []
theorem dl_snoc (ns : List Int) (x : Int) : dl (ns ++ [x]) = if (dl ns).any (fun y => y == x) = true then dl ns else dl ns ++ [x] := by
  unfold dl; rw [List.foldl_append]; rfl
theorem dl_le : ∀ (ns : List Int), (dl ns).length ≤ ns.length := fun ns => by
  suffices h : ∀ (l acc : List Int), (l.foldl (fun acc x => if acc.any (fun y => y == x) = true then acc else acc ++ [x]) acc).length ≤ acc.length + l.length by
    have := h ns []; simp only [List.length_nil, Nat.zero_add] at this; exact this
  intro l
  induction l with
  | nil => intro acc; simp
  | cons a l ih =>
    intro acc
    rw [List.foldl_cons]
    split
    · have := ih acc; rw [List.length_cons]; omega
    · have := ih (acc ++ [a]); rw [List.length_append, List.length_singleton] at this; rw [List.length_cons]; omega
theorem firstMet_dl (ns : List Int) : firstMet (fun i => ns.getD i 0) ns.length = dl ns := by
  have e : (List.range ns.length).map (fun i => ns.getD i 0) = ns := by
    apply List.ext_getElem
    · simp
    · intro i h1 h2; simp [List.getD_eq_getElem?_getD, List.getElem?_eq_getElem h2]
  unfold firstMet
  rw [e]
  rfl
theorem addI_ok {X : Cx} {pins : List (Addr × Obj)} {σ : L2.St} {H : Hp} {s : Shared} {E : Value → Shared → Prop} {D : Addr} {S : Int → Bool} {n : Nat} {y : Int} {tk : Tok} {Q : Value → Shared → Prop} (I : L2.Inv X pins σ H s) (hD : H D = some (SetO X.w D S n)) (hz : n + 1 < scanBound)
    (k : ∀ s', L2.Inv X pins σ (upd H D (SetO X.w D (fun j => S j || decide (j = y)) (if S y = true then n else n + 1))) s' → Q .none s') : wpAny (model X.prog X.w) X.A (call (.builtin "set.add") [.ref D, .int y tk]) Q E s := by
  refine setR_add (setO_get I hD) hz fun h' sb hR => k _ ?_
  have ho : ∃ u, h'.get? D = some u := by
    obtain ⟨o, _, _, _, ho, _⟩ := hR
    exact ⟨o, ho⟩
  exact I.write (by rw [hD]; exact trivial) (.inl rfl) (fun b u ne e => (sb.2 b ne).trans e) ho (setO_new hR)

def tScI (w : World) (wi : TI) (g : TG) (tt : TT) (te : TE) (vs : List Nat) : TE := fun σ H Q => wi σ H fun J H1 => ∀ D, H1 D = none → ∃ W : Nat → Nat → Hp → Prop,
  (∃ m, W 0 m (upd H1 D (SetO w D (fun _ => false) 0))) ∧ ∀ i m H, W i m H → (J.stop i H ∧ Q (.ref D) H) ∨ (J.go i H ∧ ∃ Nx : Hp → Prop, (∀ H', Nx H' → ∃ m', m' < m ∧ W (i + 1) m' H') ∧ ∀ x H', J.yld i H x H' →
    g x (L2.wipe σ vs) H' fun σ2 H2 => L2.wipe σ2 vs = L2.wipe σ vs ∧ tt σ2 H2 fun b H3 => if b = true then te σ2 H3 fun y H4 => ∃ (c : Int) (S : Int → Bool) (n : Nat), y = .int c ∧ H4 D = some (SetO w D S n) ∧ n + 1 < scanBound ∧
      Nx (upd H4 D (SetO w D (fun j => S j || decide (j = c)) (if S c = true then n else n + 1))) else Nx H3)

theorem pe_scI {X : Cx} {elt tg iter : Expr} {ifs : List Expr} {scope : Scope} {own : List (Str × Nat)} {pos : Pos} {wi : TI} {g : TG} {tt : TT} {te : TE} (hc : X.calm = true) (hN : X.N.Nodup) (hi : PI X tg iter wi) (ok : BlkOk X.N X.env.scope scope own)
    (hg : ∀ (s : Shared) (H : Hp) (C : Addr) (cl : List (Str × Addr)) (fp : List Addr), PG (X.blk s H scope (compEnvC scope cl C X.env) fp) tg g)
    (ht : ∀ (s : Shared) (H : Hp) (C : Addr) (cl : List (Str × Addr)) (fp : List Addr), PTs (X.blk s H scope (compEnvC scope cl C X.env) fp) ifs tt)
    (he : ∀ (s : Shared) (H : Hp) (C : Addr) (cl : List (Str × Addr)) (fp : List Addr), PE (X.blk s H scope (compEnvC scope cl C X.env) fp) elt te)
    (hs : ∀ x, foldedSetIterable iter X.env x = pure x := by exact fun _ => rfl) : PE X (.SetComp elt [⟨tg, iter, ifs, 0⟩] scope pos) (tScI X.w wi g tt te (own.map (·.2))) := by
  refine ⟨fun pins s σ H Q I h => ?_⟩
  rw [PpSet.eval_SetComp]
  have hfree : ∀ y ∈ scope.names, y.2 = .free → ∃ c, X.env.cells.lookup y.1 = some c := fun y hy e => by
    rcases ok.free y hy e with k | k
    · exact I.ok.has y.1 (.inl k)
    · exact I.ok.has y.1 (.inr k)
  refine wpAny_comprehension_free rfl hs (closure_ok hfree) ok.kind (fun y hy e => by rw [ok.uniq y hy, e]) ?_
  refine thn (hi.run pins s σ H _ I h) fun xv s1 hx => thn hx fun itv s2 h2 => ?_
  obtain ⟨it, fp, tn, J, H2, rfl, I2, T, st2, f2, q⟩ := h2
  refine PpSet.newSet_ok (newEnv_comp ?_)
  have hDn : H2 s2.heap.objs.size = none := I2.hok.fresh (Nat.le_refl _)
  obtain ⟨W, ⟨m0, w0⟩, turn⟩ := q _ hDn
  have I3 := I2.laid (t' := s2.toks) (h' := s2.heap.push { cls := Value.type "set", data := Data.set #[] 0 (SetTable.fresh 0 0 !X.w.params.followText "set-order") }) (fun b o e => Heap.get?_push_of_some _ e) (Nat.le_refl _) (setO_new (P := X.prog) (H := upd H2 s2.heap.objs.size (SetO X.w s2.heap.objs.size (fun _ => false) 0)) (setR_fresh X.w))
  have sz : ∀ b ∈ fp, b < s2.heap.objs.size := fun b hb => by
    obtain ⟨o, e, _⟩ := T.obj 0 s2.heap st2 b hb
    exact Heap.lt_size e
  generalize hh3 : s2.heap.push { cls := Value.type "set", data := Data.set #[] 0 (SetTable.fresh 0 0 !X.w.params.followText "set-order") } = h3 at I3 ⊢
  have hk3 : ∀ b o, s2.heap.get? b = some o → h3.get? b = some o := fun b o e => by rw [← hh3]; exact Heap.get?_push_of_some _ e
  have hsz : h3.objs.size = s2.heap.objs.size + 1 := by rw [← hh3]; exact Heap.size_push _ _
  have f3 : ∀ b ∈ fp, FpOk X pins (upd H2 s2.heap.objs.size (SetO X.w s2.heap.objs.size (fun _ => false) 0)) b ∧ b < h3.objs.size := fun b hb => by
    have hlt := sz b hb
    obtain ⟨z1, z2⟩ := f2 b hb
    exact ⟨⟨by rw [upd_ne (Nat.ne_of_lt hlt)]; exact z1, z2⟩, by rw [hsz]; exact Nat.lt_succ_of_lt hlt⟩
  have st3 := T.keep 0 s2.heap h3 st2 fun b _ o e => hk3 b o e
  have I4 := block_start I3 ok hN f3
  have nfp : ∀ b ∈ fp, upd H2 s2.heap.objs.size (SetO X.w s2.heap.objs.size (fun _ => false) 0) b = none := fun b hb => (f3 b hb).1.1
  generalize upd H2 s2.heap.objs.size (SetO X.w s2.heap.objs.size (fun _ => false) 0) = H3 at I3 f3 I4 nfp w0
  generalize s2.heap.objs.size = D at turn ⊢
  have pg := hg ⟨h3, s2.gens, s2.drawn, s2.toks, s2.os⟩ H3 h3.objs.size (cellsFrom (h3.objs.size + 1) scope.names (cloFrom X.env.cells scope.names [])) fp
  have pt := ht ⟨h3, s2.gens, s2.drawn, s2.toks, s2.os⟩ H3 h3.objs.size (cellsFrom (h3.objs.size + 1) scope.names (cloFrom X.env.cells scope.names [])) fp
  have pe := he ⟨h3, s2.gens, s2.drawn, s2.toks, s2.os⟩ H3 h3.objs.size (cellsFrom (h3.objs.size + 1) scope.names (cloFrom X.env.cells scope.names [])) fp
  have st4 : tn 0 (pushCells (h3.push { cls := Value.type "dict", data := Data.dict #[] }) scope.names) := T.keep 0 h3 _ st3 fun b _ o e => pushCells_keeps _ _ _ _ (Heap.get?_push_of_some _ e)
  refine (fun loop => PpSet.codeAny_compStart_set loop (T.self X.A 0 _ _ _ st4 loop)) ?_
  refine PpSet.compLoopS_any (fun n s' => ∃ i H', L2.Inv (X.blk ⟨h3, s2.gens, s2.drawn, s2.toks, s2.os⟩ H3 scope (compEnvC scope (cellsFrom (h3.objs.size + 1) scope.names (cloFrom X.env.cells scope.names [])) h3.objs.size X.env) fp) [] (L2.wipe σ (own.map (·.2))) H' s' ∧ tn i s'.heap ∧ (∀ b ∈ fp, H' b = none) ∧ W i n H') (fun n s5 a => ?_) m0 ⟨0, H3, I4, st4, nfp, w0⟩
  obtain ⟨i, H5, I5, st5, n5, w5⟩ := a
  have stat : ∀ {σ' : L2.St} {H' : Hp} {s' : Shared}, L2.Inv (X.blk ⟨h3, s2.gens, s2.drawn, s2.toks, s2.os⟩ H3 scope (compEnvC scope (cellsFrom (h3.objs.size + 1) scope.names (cloFrom X.env.cells scope.names [])) h3.objs.size X.env) fp) [] σ' H' s' → (∀ b ∈ fp, H' b = none) → ∀ b ∈ fp, FpOk (X.blk ⟨h3, s2.gens, s2.drawn, s2.toks, s2.os⟩ H3 scope (compEnvC scope (cellsFrom (h3.objs.size + 1) scope.names (cloFrom X.env.cells scope.names [])) h3.objs.size X.env) fp) [] H' b := fun I' hn b hb =>
    ⟨hn b hb, (I'.ok.exf b hb).1, I'.ok.exfs b hb, .inl hb, fun x c e => (I'.ok.exf b hb).2 x c e, fun p hp => absurd (show p ∈ ([] : List (Addr × Obj)) ++ [] from hp) (by simp)⟩
  rcases turn i n H5 w5 with ⟨stop, qq⟩ | ⟨go, Nx, hNx, step⟩
  · refine thnF (T.done (X.blk ⟨h3, s2.gens, s2.drawn, s2.toks, s2.os⟩ H3 scope (compEnvC scope (cellsFrom (h3.objs.size + 1) scope.names (cloFrom X.env.cells scope.names [])) h3.objs.size X.env) fp) rfl rfl rfl hc i [] s5 _ H5 _ I5 (stat I5 n5) st5 stop) fun r s6 hr => ?_
    obtain ⟨rfl, I6⟩ := hr
    have I7 := Inv.call' I3 I6.os I6.base I6.hok I6.bare fun b hb => ⟨(f3 b hb).1.2.2.2.1, (f3 b hb).1.2.1, (f3 b hb).1.2.2.2.2.1, (f3 b hb).1.2.2.2.2.2⟩
    obtain ⟨m, hn, _⟩ := I6.loc
    have f := Inv.fpOk I3 (Nat.le_refl h3.objs.size) (show H5 h3.objs.size = none from I6.free)
    refine ⟨m, hn, fun h'' sb => ⟨.ref D, H5, Inv.turned I7 (fun b o hb e => (sb.2 b hb).trans e) f.1 f.2.1 f.2.2.2.1 f.2.2.2.2.1 f.2.2.2.2.2, rfl, qq⟩⟩
  · refine thnF (T.item (X.blk ⟨h3, s2.gens, s2.drawn, s2.toks, s2.os⟩ H3 scope (compEnvC scope (cellsFrom (h3.objs.size + 1) scope.names (cloFrom X.env.cells scope.names [])) h3.objs.size X.env) fp) rfl rfl rfl hc i [] s5 _ H5 _ I5 (stat I5 n5) st5 go) fun r s6 hr => ?_
    obtain ⟨u, rfl, h6⟩ := hr
    refine thnF h6 fun _ s7 h7 => ?_
    obtain ⟨x, H7, I7, r7, y7, st7, n7⟩ := h7
    have I7' := Inv.pinned I7 (stat I7 n7) (T.obj (i + 1) s7.heap st7)
    refine thnF (pg.run ([] ++ pinsAt fp s7.heap) s7 _ H7 x u _ I7' r7 (step x H7 y7)) fun _ s8 h8 => ?_
    obtain ⟨σ8, H8, I8, hw8, q8⟩ := h8
    refine thnF (pt.run ([] ++ pinsAt fp s7.heap) s8 σ8 H8 _ I8 q8) fun b s9 h9 => ?_
    obtain ⟨H9, I9, q9⟩ := h9
    have fin : ∀ {s' : Shared} {H' : Hp}, L2.Inv (X.blk ⟨h3, s2.gens, s2.drawn, s2.toks, s2.os⟩ H3 scope (compEnvC scope (cellsFrom (h3.objs.size + 1) scope.names (cloFrom X.env.cells scope.names [])) h3.objs.size X.env) fp) ([] ++ pinsAt fp s7.heap) σ8 H' s' → Nx H' → ∃ m', m' < n ∧ ∃ i H', L2.Inv (X.blk ⟨h3, s2.gens, s2.drawn, s2.toks, s2.os⟩ H3 scope (compEnvC scope (cellsFrom (h3.objs.size + 1) scope.names (cloFrom X.env.cells scope.names [])) h3.objs.size X.env) fp) [] (L2.wipe σ (own.map (·.2))) H' s' ∧ tn i s'.heap ∧ (∀ b ∈ fp, H' b = none) ∧ W i m' H' := fun {s' H'} I' nx => by
      obtain ⟨m', hm, w'⟩ := hNx H' nx
      have pin' : ∀ b ∈ fp, ∀ o, s7.heap.get? b = some o → s'.heap.get? b = some o ∧ H' b = none := fun b hb o e => by
        have z := I'.pin (b, o) (List.mem_append_right _ (List.mem_append_right _ (mem_pinsAt hb e)))
        exact ⟨z.1, z.2.1⟩
      refine ⟨m', hm, i + 1, H', Inv.weak (Inv.unpinned I') (by rw [← hw8]; exact wipe_length _ _) (fun j v e => (wipe_some (by rw [← hw8] at e; exact e)).1), T.keep (i + 1) s7.heap s'.heap st7 fun b hb o e => (pin' b hb o e).1, fun b hb => ?_, w'⟩
      obtain ⟨o, e, _⟩ := T.obj (i + 1) s7.heap st7 b hb
      exact (pin' b hb o e).2
    cases b with
    | false =>
      rw [if_neg Bool.false_ne_true] at q9 ⊢
      exact fin I9 q9
    | true =>
      rw [if_pos rfl] at q9 ⊢
      refine thnF (pe.run ([] ++ pinsAt fp s7.heap) s9 σ8 H9 _ I9 q9) fun v s10 h10 => ?_
      obtain ⟨y, H10, I10, r10, c, S, k, rfl, hD10, hz10, nx⟩ := h10
      obtain ⟨tk, rfl⟩ := r10
      exact addI_ok (X := X.blk ⟨h3, s2.gens, s2.drawn, s2.toks, s2.os⟩ H3 scope (compEnvC scope (cellsFrom (h3.objs.size + 1) scope.names (cloFrom X.env.cells scope.names [])) h3.objs.size X.env) fp) I10 hD10 hz10 fun s11 I11 => fin I11 nx

/-- len of a set of ints -/
def rLenSO (w : World) : List V → Hp → VK → Prop := fun xs H Q => ∃ a S n, xs = [.ref a] ∧ H a = some (SetO w a S n) ∧ Q (.int (n : Nat)) H
theorem call_lenSO {X : Cx} : CallR X (.builtin "len") (rLenSO X.w) := fun pins s σ H xs us Q I r h => by
  obtain ⟨a, S, n, rfl, hD, q⟩ := h
  cases r with
  | cons r1 r2 =>
    cases r2
    cases (show _ = Value.ref a from r1)
    obtain ⟨o, es, ep, t, ho, hx, hd, _, _, _, hb, hf, hn, _⟩ := setO_get I hD
    refine call_len_set ho hx hd hf (by have : scanBound = 4096 := rfl; omega) ?_
    exact ⟨.int (n : Nat), H, I.tok _, ⟨_, by rw [← hn]⟩, q⟩
/-- len(set(xs)) -/
def tLenSetG (K : PySem.W.Frag) (ta : TE) : TE := fun σ H Q => ta σ H fun x H1 => ∃ (l : Addr) (ns : List Int), x = .ref l ∧ SqL K H1 l (ns.map V.int) ∧ ns.length < 4000 ∧ Q (.int (dl ns).length) H1
theorem pe_lenSetG {X : Cx} {a : Expr} {ta : TE} {p p2 q pos : Pos} (hm : X.mg "len" = none) (hm2 : X.mg "set" = none) (ha : PE X a ta) (hc : X.calm = true) (hg : Gl X "len" := by rfl) (hg2 : Gl X "set" := by rfl) (hst : starEach [a] X.env = (false, eval a X.env) :: starEach [] X.env := by rfl) :
    PE X (.Call (.Name "len" p) [.Call (.Name "set" p2) [a] [] q] [] pos) (tLenSetG X.K ta) := by
  refine ⟨fun pins s σ H Q I h => ?_⟩
  refine Call_ (ld_blt I hg hm boot_len (callWith_builtin1 (args_cons (Call_ (ld_blt I hg2 hm2 boot_set (callWith_type1 (args_cons (thn (ha.run pins s σ H _ I h) fun v s1 hh => args_nil ?_) hst) hst))))))
  obtain ⟨x, H1, I1, r1, l, ns, rfl, hq, hl, q1⟩ := hh
  obtain rfl : v = Value.ref l := r1
  obtain ⟨its, r, pl, _⟩ := I1.list hq
  have hlen : its.toArray.size = ns.length := by rw [List.size_toArray, ← r.length, List.length_map]
  refine call_set_list (I1.ok.hd hc) pl.isList (RZ.intsAre_vals r) (by rw [hlen]; have : scanBound = 4096 := rfl; omega) fun h' tk hS hk => args_nil ?_
  rw [hlen, firstMet_dl] at hS
  obtain ⟨o, es, ep, t, ho, hx, hd, _, _, hb, hf, hn⟩ := hS
  refine call_len_set ho hx hd hf (by have : scanBound = 4096 := rfl; omega) ?_
  refine ⟨.int (dl ns).length, H1, I1.kept fun b u e => hk b u (Heap.lt_size e) e, ⟨_, by rw [← hn]⟩, q1⟩

theorem scI_list {w : World} {K : PySem.W.Frag} {a : Addr} {xs : List V} {g : TG} {tt : TT} {te : TE} {vs : List Nat} {σ : L2.St} {H1 : Hp} {D : Addr} {Qd : Hp → Prop} (Pv : Nat → Hp → Prop) (h0 : Pv 0 (upd H1 D (SetO w D (fun _ => false) 0)))
    (hl : ∀ i H, i ≤ xs.length → Pv i H → SqL K H a xs)
    (hs : ∀ i x H, xs[i]? = some x → Pv i H → g x (L2.wipe σ vs) H fun σ2 H2 => L2.wipe σ2 vs = L2.wipe σ vs ∧ tt σ2 H2 fun b H3 => if b = true then te σ2 H3 fun y H4 => ∃ (c : Int) (S : Int → Bool) (n : Nat), y = .int c ∧ H4 D = some (SetO w D S n) ∧ n + 1 < scanBound ∧
      Pv (i + 1) (upd H4 D (SetO w D (fun j => S j || decide (j = c)) (if S c = true then n else n + 1))) else Pv (i + 1) H3)
    (he : ∀ H, Pv xs.length H → Qd H) : ∃ W : Nat → Nat → Hp → Prop, (∃ m, W 0 m (upd H1 D (SetO w D (fun _ => false) 0))) ∧ ∀ i m H, W i m H → ((Itl K a).stop i H ∧ Qd H) ∨ ((Itl K a).go i H ∧ ∃ Nx : Hp → Prop, (∀ H', Nx H' → ∃ m', m' < m ∧ W (i + 1) m' H') ∧ ∀ x H', (Itl K a).yld i H x H' →
    g x (L2.wipe σ vs) H' fun σ2 H2 => L2.wipe σ2 vs = L2.wipe σ vs ∧ tt σ2 H2 fun b H3 => if b = true then te σ2 H3 fun y H4 => ∃ (c : Int) (S : Int → Bool) (n : Nat), y = .int c ∧ H4 D = some (SetO w D S n) ∧ n + 1 < scanBound ∧
      Nx (upd H4 D (SetO w D (fun j => S j || decide (j = c)) (if S c = true then n else n + 1))) else Nx H3) := by
  refine ⟨fun i m H => i ≤ xs.length ∧ m = xs.length - i ∧ Pv i H, ⟨xs.length, Nat.zero_le _, rfl, h0⟩, fun i m H hW => ?_⟩
  obtain ⟨hi, rfl, hP⟩ := hW
  have hL := hl i H hi hP
  by_cases z : i < xs.length
  · refine .inr ⟨⟨xs, xs[i], hL, List.getElem?_eq_getElem z⟩, Pv (i + 1), fun H' p => ⟨xs.length - (i + 1), by omega, by omega, rfl, p⟩, fun x H' hy => ?_⟩
    obtain ⟨rfl, hx⟩ := hy
    exact hs i x _ (hx xs hL) hP
  · have e : i = xs.length := by omega
    subst e
    exact .inl ⟨⟨xs, hL, Nat.le_refl _⟩, he H hP⟩
theorem dl_any (l : List Int) (c : Int) : (l.any fun y => y == c) = decide (c ∈ l) := by
  rw [Bool.eq_iff_iff, List.any_eq_true, decide_eq_true_iff]
  constructor
  · rintro ⟨y, h, e⟩
    rw [beq_iff_eq] at e
    exact e ▸ h
  · exact fun h => ⟨c, h, beq_self_eq_true c⟩
def setL (w : World) (D : Addr) (l : List Int) : HO := SetO w D (fun j => decide (j ∈ dl l)) (dl l).length
theorem setL_snoc {w : World} {D : Addr} {l : List Int} {c : Int} : SetO w D (fun j => decide (j ∈ dl l) || decide (j = c)) (if decide (c ∈ dl l) = true then (dl l).length else (dl l).length + 1) = setL w D (l ++ [c]) := by
  unfold setL
  rw [dl_snoc, dl_any]
  by_cases h : c ∈ dl l
  · rw [decide_eq_true h, if_pos rfl, if_pos rfl]
    have : (fun j => decide (j ∈ dl l) || decide (j = c)) = fun j => decide (j ∈ dl l) := by
      funext j
      by_cases e : j = c
      · rw [e, decide_eq_true h]; rfl
      · rw [decide_eq_false e, Bool.or_false]
    rw [this]
  · rw [decide_eq_false h, if_neg Bool.false_ne_true, if_neg Bool.false_ne_true]
    have : (fun j => decide (j ∈ dl l) || decide (j = c)) = fun j => decide (j ∈ dl l ++ [c]) := by
      funext j
      rw [Bool.eq_iff_iff]
      simp
    rw [this, List.length_append, List.length_singleton]
section
variable {K : PySem.W.Frag} {w : World} {G : Gm} {te tl ta : TE} {j : Nat} {ds : List PyData}
theorem sv_lenSetG {ns : List Int} (ha : Rl ta G (ns.map PyData.int)) (hz : ns.length < 4000) : Sv (tLenSetG K ta) G (isD (.int ((dl ns).length : Nat))) := fun M0 σ B M H Q q => ha M0 σ B M H _ fun a vs B1 e1 d1 hh q1 =>
  ⟨a, ns, rfl, by rw [← DqAll_ints q1]; exact sq_of hh, hz, q _ B1 e1 d1 (.int _)⟩
theorem sv_lenSc (h : Rl tl G ds) (g : PyData → Int) (hj : j < G.length) (hz : ds.length < 4000) (he : ∀ d, d ∈ ds → Sv te (Gv G j d) (isD (.int (g d)))) : Sv (tCB (rLenSO w) (tCons (tScI w (iList K tl) (gName j) tYes te [j]) tNil)) G (isD (.int ((dl (ds.map g)).length : Nat))) := fun M0 σ B M H Q q => h M0 σ B M H _ fun a vs B1 e1 d1 hh q1 => by
  have hlen := DqAll_len q1
  refine ⟨a, rfl, ⟨vs, sq_of hh⟩, fun D hD => ?_⟩
  have hM := (jn_free hD).2
  refine scI_list (xs := vs) (fun i H => ∃ B', H = jn B' (upd M D (setL w D ((ds.take i).map g))) ∧ Ex B1 B' ∧ Dj B' (upd M D (setL w D ((ds.take i).map g)))) ⟨B1, ?_, Ex.refl B1, ?_⟩ (fun i H' _ p => ?_) (fun i x H' hx p => ?_) (fun H' p => ?_)
  · show upd (jn B1 M) D _ = jn B1 (upd M D _)
    rw [← upd_own]
    rfl
  · exact dj_own d1 (jn_free hD).1
  · obtain ⟨B', rfl, e, dj⟩ := p
    refine sq_of ?_
    have hne : a ≠ D := fun z => by rw [z, hD] at hh; cases hh
    unfold jn at hh ⊢
    rw [upd_ne hne]
    cases z : M a with
    | some u => rw [z] at hh; exact hh
    | none => rw [z] at hh; exact e _ _ hh
  · obtain ⟨B', rfl, e, dj⟩ := p
    obtain ⟨d, hd, px⟩ := DqAll_getV q1 hx
    have hi := (List.getElem?_eq_some_iff.mp hd).1
    refine ⟨wipe_one σ j x, ?_⟩
    have hB' : B' D = none := dj_free dj upd_same
    have djM : Dj B' M := fun b u z => by
      have := dj b u z
      by_cases y : b = D
      · rw [y]; exact hM
      · rw [upd_ne y] at this; exact this
    have H2 : Holds M0 (Gv G j d) ((L2.wipe σ [j]).set j (some x)) B' (upd M D (setL w D ((ds.take i).map g))) := by
      have h1 := (((H.ext e1 d1).ext e djM).wipes [j]).more (p := D) (o := setL w D ((ds.take i).map g)) (show jn B' M D = none by rw [jn_N hM]; exact hB')
      exact h1.setIm (by show j < (G.set j .no).length; rw [List.length_set]; exact hj) (Dq_ex e d x px)
    refine st_yes M0 _ _ _ H2 _ fun B3 e3 d3 => ?_
    rw [if_pos rfl]
    refine he d (List.mem_of_getElem? hd) M0 _ _ _ (H2.ext e3 d3) _ fun v B4 e4 d4 p4 => ?_
    refine ⟨g d, fun j => decide (j ∈ dl ((ds.take i).map g)), (dl ((ds.take i).map g)).length, dp_int p4, jn_M upd_same, ?_, ?_⟩
    · have := dl_le ((ds.take i).map g)
      rw [List.length_map, List.length_take] at this
      have : scanBound = 4096 := rfl
      omega
    · have es : (ds.take (i + 1)).map g = (ds.take i).map g ++ [g d] := by rw [List.take_succ, hd, List.map_append]; rfl
      refine ⟨B4, ?_, (e.trans e3).trans e4, ?_⟩
      · rw [upd_own, upd_upd, setL_snoc, es]
      · intro b u z
        have := d4 b u z
        by_cases y : b = D
        · rw [y, upd_same] at this; cases this
        · rw [upd_ne y] at this ⊢; exact this
  · obtain ⟨B', rfl, e, dj⟩ := p
    rw [hlen, List.take_length] at *
    have hB' : B' D = none := dj_free dj upd_same
    refine ⟨D, _, _, rfl, jn_M upd_same, ?_⟩
    rw [jn_push hM]
    exact q _ _ ((e1.trans e).trans (ex_new (M := M) (by rw [jn_N hM]; exact hB'))) (dj_push dj hM) (.int _)
end
end Mini

namespace Mini
open PySem L2 Evl PyProof.Rows

/-! ### t[::-1] of a tuple -/
theorem rev_places (n : Nat) : Builtin.Slice.slicePlaces ((n : Int) - 1) (-1) (-1) = n := by
  unfold Builtin.Slice.slicePlaces
  rw [if_neg (by omega)]
  by_cases h : (n : Int) - 1 > -1
  · rw [if_pos h]
    have : ((n : Int) - 1 - -1 - 1) / - -1 + 1 = n := by rw [Int.neg_neg, Int.ediv_one]; omega
    rw [this]; rfl
  · rw [if_neg h]; omega
theorem sliceApplied_rev {prog : Program} {w : World} {A : Around} {E : Value → Shared → Prop} {s : Shared} {sl : Addr} {st : Value} {n : Nat} {Q : Int × Int × Nat → Shared → Prop} (hs : s.heap.IsSliceOf sl .none .none st) (hp : IsPart st (some (-1))) (q : Q ((n : Int) - 1, -1, n) s) :
    wpAny (model prog w) A (Builtin.Slice.sliceApplied (.ref sl) (pure (n : Int))) Q E s := by
  obtain ⟨o, h1, _, h2⟩ := hs
  unfold Builtin.Slice.sliceApplied Builtin.Slice.sliceFields
  refine wpAny_bind (wpAny_bind (wpAny_field (i := 0) h1 h2 rfl (wpAny_bind (wpAny_field (i := 1) h1 h2 rfl (wpAny_bind (wpAny_field (i := 2) h1 h2 rfl (wpAny_pure ?_)))))))
  refine wpAny_bind (HT.slicePart_ hp ?_)
  rw [if_neg (by decide)]
  refine wpAny_bind (slicePart_none (wpAny_bind (slicePart_none (wpAny_bind (wpAny_pure (wpAny_pure ?_))))))
  have e : Builtin.Slice.sliceAdjust none none (-1) (n : Int) = ((n : Int) - 1, -1) := rfl
  show Q ((n : Int) - 1, -1, Builtin.Slice.slicePlaces ((n : Int) - 1) (-1) (-1)) s
  rw [rev_places]
  exact q
theorem rev_pick (xs : List Value) : (List.range xs.length).filterMap (fun k : Nat => xs.toArray[(((xs.length : Nat) : Int) - 1 + (k : Int) * (-1)).toNat]?) = xs.reverse := by
  have h : ∀ k ∈ List.range xs.length, (fun k : Nat => xs.toArray[(((xs.length : Nat) : Int) - 1 + (k : Int) * (-1)).toNat]?) k = some (xs.reverse.getD k .none) := fun k hk => by
    have hk := List.mem_range.mp hk
    have e : (((xs.length : Nat) : Int) - 1 + (k : Int) * (-1)).toNat = xs.length - 1 - k := by omega
    show xs.toArray[_]? = _
    rw [e, List.getElem?_toArray, List.getD_eq_getElem?_getD, List.getElem?_reverse hk, List.getElem?_eq_getElem (by omega)]
    rfl
  have f : ∀ (l : List Nat), (∀ k ∈ l, xs.toArray[(((xs.length : Nat) : Int) - 1 + ((k : Nat) : Int) * (-1)).toNat]? = some (xs.reverse.getD k .none)) → l.filterMap (fun k : Nat => xs.toArray[(((xs.length : Nat) : Int) - 1 + (k : Int) * (-1)).toNat]?) = l.map fun k => xs.reverse.getD k .none := by
    intro l
    induction l with
    | nil => intro _; rfl
    | cons a l ih => intro g; rw [List.filterMap_cons, g a List.mem_cons_self, List.map_cons, ih fun k hk => g k (List.mem_cons_of_mem _ hk)]
  rw [f _ h]
  apply List.ext_getElem
  · simp
  · intro i h1 h2
    simp [List.getD_eq_getElem?_getD, List.getElem?_eq_getElem h2]
theorem getItem_tup_rev {prog : Program} {w : World} {A : Around} {E : Value → Shared → Prop} {s : Shared} {t sl : Addr} {xs : List Value} {st : Value} {Q : Value → Shared → Prop} (ht : IsTup s.heap t xs.toArray) (hs : s.heap.IsSliceOf sl .none .none st) (hp : IsPart st (some (-1)))
    (q : Q (.ref s.heap.objs.size) ⟨s.heap.push { cls := .type "tuple", data := Data.seq xs.reverse.toArray }, s.gens, s.drawn, s.toks, s.os⟩) (hz : xs.length ≤ sizeLine) : wpAny (model prog w) A (getItem (.ref t) (.ref sl)) Q E s := by
  have hsl : s.TypeIs (.ref sl) "slice" := by
    obtain ⟨o, h1, h2, h3⟩ := hs
    exact ⟨o, h1, h2⟩
  refine wpAny_getItem_slot ht.typeIs (by decide) slot_tuple_getitem (wpAny_call_entry slot_tuple_getitem ht.typeIs entry_tuple_getitem ?_ (args_tuple_getitem _ _))
  show wpAny _ _ (Builtin.Tuple.tupleItemsOf (.ref t) >>= _) _ _ _
  refine wpAny_bind (tupleItemsOf_ ht (wpAny_bind (wpAny_typeOf hsl ?_)))
  rw [if_pos (by decide)]
  refine wpAny_bind ?_
  rw [List.size_toArray]
  refine sliceApplied_rev hs hp ?_
  dsimp only
  rw [if_neg (by simp)]
  rw [rev_pick]
  refine wpAny_bind (wpAny_newObj_type ?_ (by show xs.reverse.toArray.size ≤ sizeLine; rw [List.size_toArray, List.length_reverse]; exact hz))
  exact wpAny_pure ⟨_, rfl, q⟩

def tRevT (K : PySem.W.Frag) (te : TE) : TE := fun σ H Q => te σ H fun x H1 => ∃ a xs, x = .ref a ∧ SqT K H1 a xs ∧ ∀ p, H1 p = none → Q (.ref p) (upd H1 p (.tup xs.reverse))
theorem pe_revT {X : Cx} {K : PySem.W.Frag} {e : Expr} {te : TE} {k : Nat} {p1 p2 p3 pos : Pos} (he : PE X e te) (hK : X.K = K := by rfl) : PE X (.Subscript e (.Slice none none (some (.UnaryOp .USub (.Constant (.int 1) k p1) p2)) p3) pos) (tRevT K te) := by
  subst hK
  refine ⟨fun pins s σ H Q I h => ?_⟩
  refine Subscript_ (thn (he.run pins s σ H _ I h) fun v s1 hh => ?_)
  obtain ⟨x, H1, I1, rx, a, xs, rfl, hx, q⟩ := hh
  obtain rfl : v = Value.ref a := rx
  have hst : PO X (some (.UnaryOp .USub (.Constant (.int 1) k p1) p2)) (tPart (tUn (rU fun i => .int (-i)) (tC (.int 1)))) := po_some (pe_un un_neg pe_int)
  refine wpAny_Slice (thn (po_none.run pins s1 σ H1 (fun o H2 => o = none ∧ H2 = H1) I1 ⟨rfl, rfl⟩) fun vl s2 h2 => ?_)
  obtain ⟨_, _, I2, pl, rfl, rfl⟩ := h2
  refine thn (po_none.run pins s2 σ _ (fun o H2 => o = none ∧ H2 = _) I2 ⟨rfl, rfl⟩) fun vu s3 h3 => ?_
  obtain ⟨_, _, I3, pu, rfl, rfl⟩ := h3
  refine thn (hst.run pins s3 σ _ (fun o H4 => o = some (-1) ∧ H4 = _) I3 ⟨1, rfl, -1, rfl, rfl, rfl⟩) fun vs s4 h4 => ?_
  obtain ⟨_, _, I4, ps, rfl, rfl⟩ := h4
  cases pl
  cases pu
  have I5 := I4.kept (t' := s4.toks) (h' := s4.heap.push { cls := Value.type "slice", data := Data.fields #[.none, .none, vs] }) fun b ob q => Heap.get?_push_of_some _ q
  obtain ⟨its, r, ht, hz⟩ := I5.tuple hx
  refine tail_any ht.typeIs slot_tuple_getitem.lookup ?_ rfl
  refine getItem_tup_rev ht (Heap.IsSliceOf.new _ _ _ _) ps ?_ (by rw [← r.length]; exact hz)
  refine ⟨.ref _, _, I5.laid (fun b o e => Heap.get?_push_of_some _ e) (Nat.le_refl _) ?_, rfl, q _ (I5.hok.fresh (Nat.le_refl _))⟩
  exact ⟨by rw [List.length_reverse]; exact hz, _, r.reverse, IsTup.new _ _⟩
section
variable {K : PySem.W.Frag} {G : Gm} {ta : TE} {ds : List PyData}
theorem DqAll_rev {B : Hp} : ∀ {ds : List PyData} {vs : List V}, DqAll B vs ds → DqAll B vs.reverse ds.reverse
  | [], _, h => by cases h; exact .nil
  | d :: ds, _, h => by
    cases h with
    | cons a b => rw [List.reverse_cons, List.reverse_cons]; exact DqAll_append (DqAll_rev b) (.cons a .nil)
theorem sv_revT (ha : Sv ta G (isD (.tuple ds))) : Sv (tRevT K ta) G (isD (.tuple ds.reverse)) := fun M0 σ B M H Q q => ha M0 σ B M H _ fun x B1 e1 d1 p1 => by
  obtain ⟨a, vs, rfl, h1, q1⟩ := dq_tup p1
  refine ⟨a, vs, rfl, st_of (jn_B d1 h1), fun p hp => ?_⟩
  rw [upd_new hp]
  exact q _ _ (e1.trans (ex_new hp)) (dj_new d1 hp) (.tup upd_same (DqAll_ex (ex_new hp) (DqAll_rev q1)))
end
end Mini

namespace Mini
open PySem L2 Evl PyProof.Rows

/-! ### a, b, c = a list -/
theorem drawL {prog : Program} {w : World} {A : Around} {E : Value → Shared → Prop} {it l : Addr} {items : Array Value} (ne : l ≠ it) : ∀ (n i : Nat) (s : Shared) (Q : List Value → Shared → Prop), s.heap.IsListIter it l i → s.heap.IsList l items → i + n ≤ items.size →
    (∀ h' : Heap, h'.IsListIter it l (i + n) → Heap.SameBut it s.heap h' → Q ((items.toList.drop i).take n) ⟨h', s.gens, s.drawn, s.toks, s.os⟩) → wpAny (model prog w) A (draw (.ref it) n) Q E s
  | 0, i, s, Q, hi, hl, hn, q => by
    rw [draw]
    refine wpAny_pure ?_
    have := q s.heap hi ⟨rfl, fun _ _ => rfl⟩
    rw [List.take_zero] at this
    exact this
  | n + 1, i, s, Q, hi, hl, hn, q => by
    rw [draw]
    have hlt : i < items.size := by omega
    refine wpAny_bind (wpAny_pyNext_list_item hi hl (Array.getElem?_eq_getElem hlt) fun h' hi' sb => ?_)
    refine wpAny_bind (wpAny_holding ?_)
    have hl' : h'.IsList l items := by
      obtain ⟨o, a, b⟩ := hl
      exact ⟨o, (sb.2 l ne).trans a, b⟩
    refine drawL ne n (i + 1) _ _ hi' hl' (by omega) fun h2 hi2 sb2 => wpAny_pure ?_
    have e : (items.toList.drop i).take (n + 1) = items[i] :: (items.toList.drop (i + 1)).take n := by
      rw [List.drop_eq_getElem_cons (by rw [Array.length_toList]; exact hlt), List.take_succ_cons]
      rfl
    have := q h2 (by rw [show i + (n + 1) = i + 1 + n by omega]; exact hi2) ⟨sb2.1.trans sb.1, fun b hb => (sb2.2 b hb).trans (sb.2 b hb)⟩
    rw [e] at this
    exact this
theorem unpackItemsL {prog : Program} {w : World} {A : Around} {E : Value → Shared → Prop} {s : Shared} {l : Addr} {items : Array Value} {Q : List Value → Shared → Prop} (hA : A.handled = none) (hl : s.heap.IsList l items)
    (q : ∀ h', Heap.ExtBut s.heap.objs.size s.heap h' → Q items.toList ⟨h', s.gens, s.drawn, s.toks, s.os⟩) : wpAny (model prog w) A (unpackItems (.ref l) items.size none) Q E s := by
  have hlt : l < s.heap.objs.size := by
    obtain ⟨o, a, _⟩ := hl
    exact Heap.lt_size a
  unfold unpackItems notIterableAtAll
  refine wpAny_bind (wpAny_bind (wpAny_specialOf hl.typeIs F.slot_list_iter.lookup ?_))
  rw [if_pos (show (some (Value.builtin "list.__iter__")).isSome = true from rfl)]
  refine wpAny_pure ?_
  rw [if_neg Bool.false_ne_true]
  refine wpAny_bind (wpAny_holding (wpAny_pyIter_list hl ?_))
  refine wpAny_bind (wpAny_holding ?_)
  have hl1 : (s.heap.push { cls := .type "list_iterator", data := Data.fields #[.ref l, .int 0 0] }).IsList l items := by
    obtain ⟨o, a, b⟩ := hl
    exact ⟨o, Heap.get?_push_of_some _ a, b⟩
  refine drawL (l := l) (items := items) (Nat.ne_of_lt hlt) items.size 0 _ _ ⟨_, Heap.get?_push_size _ rfl, rfl, rfl⟩ hl1 (by omega) fun h1 hi1 sb1 => ?_
  have e : (items.toList.drop 0).take items.size = items.toList := by rw [List.drop_zero, List.take_of_length_le (by rw [Array.length_toList]; exact Nat.le_refl _)]
  rw [e]
  have hlen : ¬ items.toList.length < items.size := by rw [Array.length_toList]; exact Nat.lt_irrefl _
  rw [if_neg hlen]
  have hl2 : h1.IsList l items := by
    obtain ⟨o, a, b⟩ := hl1
    exact ⟨o, (sb1.2 l (Nat.ne_of_lt hlt)).trans a, b⟩
  refine wpAny_bind (wpAny_holding (wpAny_pyNext_list_end (items := items) hA hi1 hl2 (by rw [Nat.zero_add]; exact Array.getElem?_eq_none (Nat.le_refl _)) fun h2 ex => ?_))
  refine wpAny_pure (q h2 fun b o ne hb => ex b o ne ((sb1.2 b ne).trans (Heap.get?_push_of_some _ hb)))
def gTupL (K : PySem.W.Frag) (n : Nat) (t : TGs) : TG := fun v σ H Q => ∃ a xs, v = .ref a ∧ SqL K H a xs ∧ xs.length = n ∧ t xs σ H Q
theorem pg_tupL {X : Cx} {pos : Pos} {es : List Expr} {k n : Nat} {t : TGs} (hc : X.calm = true) (h : PGs X es t) (hn : (assignEach es X.env).length = n := by rfl) (hs : (assignEach es X.env).findIdx? (fun x => x.1) = none := by rfl) : PG X (.Tuple es k pos) (gTupL X.K n t) := by
  refine ⟨fun pins s σ H v u Q I r hh => ?_⟩
  obtain ⟨a, xs, rfl, hx, hl, q⟩ := hh
  obtain rfl : u = Value.ref a := r
  obtain ⟨its, rv, pl, _⟩ := I.list hx
  have hz : n = its.toArray.size := by rw [List.size_toArray, ← rv.length, hl]
  show wpAny _ _ (do standAt pos; unpack (.ref a) (assignEach es X.env)) _ _ _
  refine wpAny_bind (wpAny_standAt ?_)
  unfold unpack
  rw [hs, hn, hz]
  refine wpAny_bind (wpAny_holding (unpackItemsL (I.ok.hd hc) pl.isList fun h' ex => ?_))
  exact h.run pins _ σ H xs its _ (I.kept fun b o e => ex b o (Nat.ne_of_lt (Heap.lt_size e)) e) rv q

/-! ### lists of typed things -/
inductive AllP (B : Hp) : List V → List Ty → Prop where
  | nil : AllP B [] []
  | cons {v P vs Ps} : P.p v B → AllP B vs Ps → AllP B (v :: vs) (P :: Ps)
theorem AllP.ext {B B' : Hp} (e : Ex B B') {vs : List V} {Ps : List Ty} (h : AllP B vs Ps) : AllP B' vs Ps := by
  induction h with
  | nil => exact .nil
  | cons a _ ih => exact .cons (Ty.mono _ e a) ih
theorem AllP.len {B : Hp} {vs : List V} {Ps : List Ty} (h : AllP B vs Ps) : vs.length = Ps.length := by
  induction h with
  | nil => rfl
  | cons a _ ih => simp [ih]
theorem AllP.snoc {B : Hp} {vs : List V} {Ps : List Ty} (h : AllP B vs Ps) {v : V} {P : Ty} (p : P.p v B) : AllP B (vs ++ [v]) (Ps ++ [P]) := by
  induction h with
  | nil => exact .cons p .nil
  | cons a _ ih => exact .cons a ih
theorem AllP.get {B : Hp} {vs : List V} {Ps : List Ty} (h : AllP B vs Ps) {i : Nat} {v : V} (e : vs[i]? = some v) : ∃ P, Ps[i]? = some P ∧ P.p v B := by
  induction h generalizing i with
  | nil => simp at e
  | @cons u P us Qs a b ih =>
    cases i with
    | zero => simp at e; subst e; exact ⟨P, rfl, a⟩
    | succ i => exact ih e
def isQ (Ps : List Ty) : Ow := ⟨fun _ o B => ∃ vs, o = .lst vs ∧ AllP B vs Ps, fun e ⟨vs, h, q⟩ => ⟨vs, h, q.ext e⟩⟩
def isQI (Ps : List Ty) : Ty := ⟨fun v B => ∃ a vs, v = .ref a ∧ B a = some (.lst vs) ∧ AllP B vs Ps, fun e ⟨a, vs, h1, h2, h3⟩ => ⟨a, vs, h1, e _ _ h2, h3.ext e⟩⟩
section
variable {K : PySem.W.Frag} {E : L2.St → XK} {G : Gm} {te tl ta tb tc : TE} {tt : TT} {ts : TS} {o : Out} {P : Ty} {Ps : List Ty} {n i j l : Nat} {ds es fs : List PyData}
theorem ss_ownQ (h : G[n]? = some (.ow (isL []))) (k : Ss E ts (G.set n (.ow (isQ []))) o) : Ss E ts G o := fun M0 D σ B M H q => by
  obtain ⟨l, ob, a, c, ⟨vs, rfl, r⟩, f⟩ := H.ow n _ h
  cases r
  have H' := H.change (R' := isQ []) (o' := .lst []) h a c ⟨[], rfl, .nil⟩
  have e : upd M l (.lst []) = M := by
    funext b
    by_cases z : b = l
    · rw [z, upd_same, c]
    · rw [upd_ne z]
  rw [e] at H'
  exact k M0 D σ B M H' q
theorem ss_freezeQ (h : G[n]? = some (.ow (isQ Ps))) (k : Ss E ts (G.set n (.im (isQI Ps))) o) : Ss E ts G o := fun M0 D σ B M H q => by
  obtain ⟨l, ob, a, c, ⟨vs, rfl, r⟩, f⟩ := H.ow n _ h
  obtain ⟨H', ex⟩ := H.freeze h a c (P := isQI Ps) ⟨l, vs, rfl, upd_same, r.ext (Ex.new (dj_free H.dj c))⟩
  have k' := k M0 D σ _ _ H' (q.ext ex)
  rw [jn_del c] at k'
  exact k'
theorem ss_appendQ (h : G[n]? = some (.ow (isQ Ps))) (he : Sv te G P) (hz : Ps.length < sizeLine) : Ss E (tDrop (tBM K "list" rAppend (tVar n) (tCons te tNil))) G (.nx (G.set n (.ow (isQ (Ps ++ [P]))))) := fun M0 D σ B M H q => by
  obtain ⟨l, ob, a, c, ⟨vs, rfl, r⟩, f⟩ := H.ow n _ h
  refine ⟨.ref l, a, Or.inl ⟨rfl, vs, sq_of (jn_M c)⟩, ?_⟩
  refine he M0 σ B M H _ fun v B' e dj p => ?_
  refine ⟨l, vs, v, rfl, rfl, jn_M c, by rw [r.len]; exact hz, ?_⟩
  rw [upd_own]
  exact q σ B' _ e ((H.ext e dj).change h a c ⟨_, rfl, (r.ext e).snoc p⟩)
theorem ss_unp3 {P1 P2 P3 : Ty} (h : Sv te G (isQI [P1, P2, P3])) (hi : i < G.length := by exact Nat.le_of_ble_eq_true rfl) (hj : j < G.length := by exact Nat.le_of_ble_eq_true rfl) (hl : l < G.length := by exact Nat.le_of_ble_eq_true rfl) :
    Ss E (tAsg te (gTupL K 3 (gCons (gName i) (gCons (gName j) (gCons (gName l) gNil))))) G (.nx (((G.set i (.im P1)).set j (.im P2)).set l (.im P3))) := fun M0 D σ B M H q => by
  refine h M0 σ B M H _ fun v B' e dj p => ?_
  obtain ⟨a, vs, rfl, h1, h2⟩ := p
  cases h2 with
  | cons p1 h2 => cases h2 with
    | cons p2 h2 => cases h2 with
      | cons p3 h2 =>
        cases h2
        refine ⟨a, _, rfl, sq_of (jn_B dj h1), rfl, _, _, rfl, _, _, rfl, _, _, rfl, rfl, ?_⟩
        exact q _ B' M e ((((H.ext e dj).setIm hi p1).setIm (by rw [List.length_set]; exact hj) p2).setIm (by rw [List.length_set, List.length_set]; exact hl) p3)
end
end Mini

namespace Mini
open PySem L2 Evl PyProof.Rows

/-! ### more comprehensions -/
/-- over typed things -/
def GvP (G : Gm) (j : Nat) (P : Ty) : Gm := (wipeG G [j]).set j (.im P)
section
variable {K : PySem.W.Frag} {G : Gm} {te tl twi : TE} {j l : Nat} {ds : List PyData} {Ps : List Ty}
theorem svl_lcQ (h : Sv tl G (isQI Ps)) (y : Nat → PyData) (hj : j < G.length) (hz : Ps.length < 10000000) (he : ∀ i P, Ps[i]? = some P → Sv te (GvP G j P) (isD (y i))) : Svl (tLc (iList K tl) (gName j) tYes te [j]) G ((List.range Ps.length).map y) := fun M0 σ B M H Q q => h M0 σ B M H _ fun v B1 e1 d1 p1 => by
  obtain ⟨a, vs, rfl, hh, q1⟩ := p1
  have hlen := q1.len
  refine ⟨a, rfl, ⟨vs, sq_of (jn_B d1 hh)⟩, fun Dl hD => ?_⟩
  have hM := (jn_free hD).2
  refine lc_list (xs := vs) (Pvc B1 M Dl fun i => (List.range i).map y) ⟨B1, [], by rw [upd_own], Ex.refl B1, dj_own d1 (jn_free hD).1, .nil⟩ (fun i H' _ p => ?_) (fun i x H' hx p => ?_) (fun H' p => ?_)
  · obtain ⟨B', acc, rfl, e, dj, _⟩ := p
    exact sq_of (jn_B dj (e _ _ hh))
  · obtain ⟨B', acc, rfl, e, dj, ha⟩ := p
    obtain ⟨P, hP, px⟩ := q1.get hx
    have hi := (List.getElem?_eq_some_iff.mp hP).1
    refine ⟨wipe_one σ j x, ?_⟩
    have hB' : B' Dl = none := dj_free dj upd_same
    have djM : Dj B' M := fun a u q => by
      have := dj a u q
      by_cases z : a = Dl
      · rw [z]; exact hM
      · rw [upd_ne z] at this; exact this
    have H2 : Holds M0 (GvP G j P) ((L2.wipe σ [j]).set j (some x)) B' (upd M Dl (.lst acc)) := by
      have h1 := (((H.ext e1 d1).ext e djM).wipes [j]).more (p := Dl) (o := .lst acc) (show jn B' M Dl = none by rw [jn_N hM]; exact hB')
      exact h1.setIm (by show j < (G.set j .no).length; rw [List.length_set]; exact hj) (P.mono e px)
    refine st_yes M0 _ _ _ H2 _ fun B3 e3 d3 => ?_
    rw [if_pos rfl]
    refine he i P hP M0 _ _ _ (H2.ext e3 d3) _ fun v B4 e4 d4 p4 => ?_
    refine ⟨acc, jn_M upd_same, by rw [DqAll_len ha, List.length_map, List.length_range, sizeLine_eq]; omega, ?_⟩
    rw [upd_own, upd_upd]
    refine ⟨B4, acc ++ [v], rfl, (e.trans e3).trans e4, ?_, ?_⟩
    · intro a u q
      have := d4 a u q
      by_cases z : a = Dl
      · rw [z, upd_same] at this; cases this
      · rw [upd_ne z] at this ⊢; exact this
    · show DqAll B4 (acc ++ [v]) ((List.range (i + 1)).map y)
      rw [List.range_succ, List.map_append]
      exact DqAll_append (DqAll_ex (e3.trans e4) ha) (.cons p4 .nil)
  · rw [hlen] at p
    exact lc_end hM (Ex.refl _) (fun p vs B' e dj hf hv => q p vs B' (e1.trans e) dj hf hv) H' p
theorem tyes_ite {σ : L2.St} {H : Hp} {A B : Hp → Prop} (h : A H) : tYes σ H (fun b H3 => if b = true then A H3 else B H3) := by
  show (if true = true then A H else B H)
  rw [if_pos rfl]; exact h
/-- two loops over tuples, the inner thing itself -/
def Gv2 (G : Gm) (j l : Nat) (d : PyData) : Gm := (wipeG G [j, l]).set j (.im (isD d))
theorem wipe_two (σ : L2.St) {j l : Nat} (h : j ≠ l) (x : V) : L2.wipe ((L2.wipe σ [j, l]).set j (some x)) [j, l] = L2.wipe σ [j, l] := by
  show ((((σ.set l none).set j none).set j (some x)).set l none).set j none = (σ.set l none).set j none
  rw [List.set_set, List.set_comm _ _ h, List.set_set, List.set_set]
theorem svl_lc2T (h : Sv tl G (isD (.tuple ds))) (es : PyData → List PyData) (hj : j < G.length) (hl : l < G.length) (hjl : j ≠ l) (hz : (ds.flatMap es).length < 10000000) (hi : ∀ d ∈ ds, Sv twi (Gv2 G j l d) (isD (.tuple (es d)))) :
    Svl (tLc2 (iTup K tl) (gName j) tYes (iTup K twi) (gName l) tYes (tVar l) [j, l] [l]) G (ds.flatMap es) := fun M0 σ B M H Q q => h M0 σ B M H _ fun v B1 e1 d1 p1 => by
  obtain ⟨a, vs, rfl, hh, q1⟩ := dq_tup p1
  have hlen := DqAll_len q1
  refine ⟨a, rfl, ⟨vs, st_of (jn_B d1 hh)⟩, fun Dl hD => ?_⟩
  have hM := (jn_free hD).2
  refine ⟨fun i m H' => i ≤ vs.length ∧ m = vs.length - i ∧ Pvc B1 M Dl (fun i => (ds.take i).flatMap es) i H', ⟨vs.length, Nat.zero_le _, rfl, B1, [], by rw [upd_own], Ex.refl B1, dj_own d1 (jn_free hD).1, .nil⟩, fun i m H' hW => ?_⟩
  obtain ⟨hle, rfl, B', acc, rfl, e, dj, ha⟩ := hW
  have hB' : B' Dl = none := dj_free dj upd_same
  have djM : Dj B' M := fun a u q => by
    have := dj a u q
    by_cases z : a = Dl
    · rw [z]; exact hM
    · rw [upd_ne z] at this; exact this
  have hS : SqT K (jn B' (upd M Dl (.lst acc))) a vs := st_of (jn_B dj (e _ _ hh))
  by_cases z : i < vs.length
  · refine .inr ⟨⟨vs, vs[i], hS, List.getElem?_eq_getElem z⟩, fun H' => Pvc B1 M Dl (fun i => (ds.take i).flatMap es) (i + 1) H', fun H' p => ⟨vs.length - (i + 1), by omega, by omega, rfl, p⟩, fun x H' hy => ?_⟩
    obtain ⟨rfl, hx⟩ := hy
    obtain ⟨d, hd, px⟩ := DqAll_getV q1 (hx vs hS)
    refine ⟨wipe_two σ hjl x, ?_⟩
    have H2 : Holds M0 (Gv2 G j l d) ((L2.wipe σ [j, l]).set j (some x)) B' (upd M Dl (.lst acc)) := by
      have h1 := (((H.ext e1 d1).ext e djM).wipes [j, l]).more (p := Dl) (o := .lst acc) (show jn B' M Dl = none by rw [jn_N hM]; exact hB')
      exact h1.setIm (by show j < ((G.set l .no).set j .no).length; rw [List.length_set, List.length_set]; exact hj) (Dq_ex e d x px)
    refine st_yes M0 _ _ _ H2 _ fun B3 e3 d3 => ?_
    rw [if_pos rfl]
    refine hi d (List.mem_of_getElem? hd) M0 _ _ _ (H2.ext e3 d3) _ fun v B4 e4 d4 p4 => ?_
    obtain ⟨b, us, rfl, hb, q4⟩ := dq_tup p4
    have hlu := DqAll_len q4
    have hlt : ((ds.take (i + 1)).flatMap es) = (ds.take i).flatMap es ++ es d := by rw [List.take_succ, hd, List.flatMap_append]; simp
    have htot : ((ds.take i).flatMap es).length + (es d).length < 10000000 := by
      rw [← List.length_append, ← hlt]
      have e2 : ds.flatMap es = (ds.take (i + 1)).flatMap es ++ (ds.drop (i + 1)).flatMap es := by rw [← List.flatMap_append, List.take_append_drop]
      rw [e2, List.length_append] at hz
      omega
    refine ⟨b, rfl, ⟨us, st_of (jn_B d4 hb)⟩, ?_⟩
    refine ⟨fun r k H' => r ≤ us.length ∧ k = us.length - r ∧ ∃ B5 acc5, H' = jn B5 (upd M Dl (.lst acc5)) ∧ Ex B4 B5 ∧ Dj B5 (upd M Dl (.lst acc5)) ∧ DqAll B5 acc5 ((ds.take i).flatMap es ++ (es d).take r), ⟨us.length, Nat.zero_le _, rfl, B4, acc, rfl, Ex.refl _, d4, ?_⟩, fun r k H' hW1 => ?_⟩
    · rw [List.take_zero, List.append_nil]
      exact DqAll_ex (e3.trans e4) ha
    obtain ⟨hr, rfl, B5, acc5, rfl, e5, dj5, ha5⟩ := hW1
    have hS5 : SqT K (jn B5 (upd M Dl (.lst acc5))) b us := st_of (jn_B dj5 (e5 _ _ hb))
    by_cases zr : r < us.length
    · refine .inr ⟨⟨us, us[r], hS5, List.getElem?_eq_getElem zr⟩, fun H' => ∃ B5 acc5, H' = jn B5 (upd M Dl (.lst acc5)) ∧ Ex B4 B5 ∧ Dj B5 (upd M Dl (.lst acc5)) ∧ DqAll B5 acc5 ((ds.take i).flatMap es ++ (es d).take (r + 1)), fun H' p => ⟨us.length - (r + 1), by omega, by omega, rfl, p⟩, fun y H' hy => ?_⟩
      obtain ⟨rfl, hy⟩ := hy
      obtain ⟨f, hf, py⟩ := DqAll_getV q4 (hy us hS5)
      refine ⟨wipe_one _ l y, ?_⟩
      refine tyes_ite ?_
      have hll : l < ((((σ.set l none).set j none).set j (some x)).set l none).length := by
        rw [List.length_set, List.length_set, List.length_set, List.length_set, H.len]; exact hl
      refine ⟨y, List.getElem?_set_self hll, acc5, jn_M upd_same, ?_, ?_⟩
      · rw [DqAll_len ha5, List.length_append, List.length_take, sizeLine_eq]; omega
      · rw [upd_own, upd_upd]
        refine ⟨B5, acc5 ++ [y], rfl, e5, ?_, ?_⟩
        · intro a u q
          have := dj5 a u q
          by_cases z : a = Dl
          · rw [z, upd_same] at this; cases this
          · rw [upd_ne z] at this ⊢; exact this
        · rw [List.take_succ, hf, ← List.append_assoc]
          exact DqAll_append ha5 (.cons (Dq_ex e5 f y py) .nil)
    · have er : r = us.length := by omega
      subst er
      refine .inl ⟨⟨us, hS5, Nat.le_refl _⟩, B5, acc5, rfl, (e.trans (e3.trans e4)).trans e5, dj5, ?_⟩
      show DqAll B5 acc5 ((ds.take (i + 1)).flatMap es)
      rw [hlt]
      rw [hlu, List.take_length] at ha5
      exact ha5
  · have ei : i = vs.length := by omega
    subst ei
    refine .inl ⟨⟨vs, hS, Nat.le_refl _⟩, ?_⟩
    refine lc_end (es := fun i => (ds.take i).flatMap es) (i := vs.length) hM (Ex.refl _) (fun p us B2 e2 dj2 hf hv => ?_) _ ⟨B', acc, rfl, e, dj, ha⟩
    rw [hlen, List.take_length] at hv
    exact q p us B2 (e1.trans e2) dj2 hf hv
end
end Mini

namespace Mini
open PySem L2 Evl PyProof.Rows
theorem pe_fldK {X : Cx} {K : PySem.W.Frag} {e : Expr} {f : Str} {pos : Pos} {ta : TE} (h : PE X e ta) (hb : attributeBase e f X.env (eval e X.env) = eval e X.env) (hK : X.K = K := by rfl) : PE X (.Attribute e f pos) (tFld K ta f) := hK ▸ pe_fld h hb
theorem pi_tupK {X : Cx} {K : PySem.W.Frag} {tg l : Expr} {tl : TE} (h : PE X l tl) (hK : X.K = K := by rfl) : PI X tg l (iTup K tl) := hK ▸ pi_tup h
theorem pi_listK {X : Cx} {K : PySem.W.Frag} {tg l : Expr} {tl : TE} (h : PE X l tl) (hK : X.K = K := by rfl) : PI X tg l (iList K tl) := hK ▸ pi_list h
abbrev rLenK (K : PySem.W.Frag) : List V → Hp → VK → Prop := fun xs H Q => ∃ x n, xs = [x] ∧ LenV K x H n ∧ Q (.int n) H
section
variable {K : PySem.W.Frag} {E : L2.St → XK} {G : Gm} {ta tb tc : TE} {ds es fs : List PyData} {i j l : Nat}
/-- a, b, c = (new lists), through a tuple -/
theorem ss_tup3 (ha : Svl ta G ds) (hb : Svl tb G es) (hc : Svl tc G fs) (hi : i < G.length := by exact Nat.le_of_ble_eq_true rfl) (hj : j < G.length := by exact Nat.le_of_ble_eq_true rfl) (hl : l < G.length := by exact Nat.le_of_ble_eq_true rfl) :
    Ss E (tAsg (tTup (tCons ta (tCons tb (tCons tc tNil)))) (gTup K 3 (gCons (gName i) (gCons (gName j) (gCons (gName l) gNil))))) G (.nx (((G.set i (.ow (isL ds))).set j (.ow (isL es))).set l (.ow (isL fs)))) := fun M0 D σ B M H q =>
  ha M0 σ B M H _ fun p vs B1 e1 d1 hf ha1 => by
    rw [upd_own]
    have H1 := (H.ext e1 d1).more (p := p) (o := .lst vs) hf
    refine hb M0 σ B1 _ H1 _ fun p2 us B2 e2 d2 hf2 ha2 => ?_
    rw [upd_own]
    have H2 := (H1.ext e2 d2).more (p := p2) (o := .lst us) hf2
    refine hc M0 σ B2 _ H2 _ fun p3 ws B3 e3 d3 hf3 ha3 => ?_
    rw [upd_own]
    have n2 : p ≠ p2 := ne_of_none (show (upd M p (HO.lst vs)) p = some _ from upd_same) (jn_free hf2).2
    have m1 : (upd (upd M p (HO.lst vs)) p2 (HO.lst us)) p = some (.lst vs) := by rw [upd_ne n2]; exact upd_same
    have b1 : B3 p = none := dj_free d3 m1
    have b2 : B3 p2 = none := dj_free d3 upd_same
    have b3 : B3 p3 = none := (jn_free hf3).1
    have djM : Dj B3 M := fun a u z => by
      have w := d3 a u z
      by_cases y2 : a = p2
      · rw [y2] at z; rw [b2] at z; cases z
      · rw [upd_ne y2] at w
        by_cases y1 : a = p
        · rw [y1] at z; rw [b1] at z; cases z
        · rw [upd_ne y1] at w; exact w
    have hM1 := (jn_free hf).2
    have hM2 := (jn_free hf2).2
    have hM3 := (jn_free hf3).2
    have K1 : Holds M0 (G.set i (.ow (isL ds))) (σ.set i (some (.ref p))) B3 (upd M p (.lst vs)) := (((H.ext e1 d1).ext (e2.trans e3) djM)).setOw hi (by rw [jn_N hM1]; exact b1) ⟨vs, rfl, DqAll_ex (e2.trans e3) ha1⟩
    have K2 := K1.setOw (n := j) (R := isL es) (p := p2) (o := .lst us) (by rw [List.length_set]; exact hj) (by rw [jn_N hM2]; exact b2) ⟨us, rfl, DqAll_ex e3 ha2⟩
    have K3 := K2.setOw (n := l) (R := isL fs) (p := p3) (o := .lst ws) (by rw [List.length_set, List.length_set]; exact hl) (by rw [jn_N hM3]; exact b3) ⟨ws, rfl, ha3⟩
    refine ⟨by show 3 ≤ sizeLine; decide, fun t ht => ?_⟩
    rw [upd_new ht]
    refine ⟨t, _, rfl, st_of (jn_B (dj_new K3.dj ht) upd_same), rfl, _, _, rfl, _, _, rfl, _, _, rfl, rfl, ?_⟩
    exact q _ _ _ ((e1.trans (e2.trans e3)).trans (ex_new ht)) (K3.ext (ex_new ht) (dj_new K3.dj ht))
end
end Mini

namespace Mini
open PySem L2 Evl PyProof.Rows

/-! ### dicts from ints to ints -/
/-- y = {..}, y a local name -/
theorem ps_setDc {X : Cx} {i : Nat} {y : Str} {py : Pos} {kx vx tg iter : Expr} {ifs : List Expr} {scope : Scope} {own : List (Str × Nat)} {pos spos : Pos} {wi : TI} {g : TG} {tt : TT} {tk tv : TE} (hc : X.calm = true) (hN : X.N.Nodup) (hy : X.N[i]? = some y) (hyl : X.env.scope.names.lookup y = some .local)
    (hsw : swapsWith (.DictComp kx vx [⟨tg, iter, ifs, 0⟩] scope pos) (some (.Name y py)) spos.line X.env = pure true) (hi : PI X tg iter wi) (ok : BlkOk X.N X.env.scope scope own)
    (hg : ∀ (s : Shared) (H : Hp) (C : Addr) (cl : List (Str × Addr)) (fp : List Addr), PG (X.blk s H scope (compEnvC scope cl C X.env) fp) tg g)
    (ht : ∀ (s : Shared) (H : Hp) (C : Addr) (cl : List (Str × Addr)) (fp : List Addr), PTs (X.blk s H scope (compEnvC scope cl C X.env) fp) ifs tt)
    (hk : ∀ (s : Shared) (H : Hp) (C : Addr) (cl : List (Str × Addr)) (fp : List Addr), PE (X.blk s H scope (compEnvC scope cl C X.env) fp) kx tk)
    (he : ∀ (s : Shared) (H : Hp) (C : Addr) (cl : List (Str × Addr)) (fp : List Addr), PE (X.blk s H scope (compEnvC scope cl C X.env) fp) vx tv)
    (hs : ∀ x, foldedSetIterable iter X.env x = pure x := by exact fun _ => rfl) : PS X (.Assign [.Name y py] (.DictComp kx vx [⟨tg, iter, ifs, 0⟩] scope pos) spos) (tAsg (tDc wi g tt tk tv (own.map (·.2))) (gName i)) := by
  refine ⟨fun pins s σ H D I h => ?_⟩
  rw [exec_Assign_Name_used y py _ spos hsw]
  refine wpAny_bind (wpAny_standAt (wpAny_bind ?_))
  refine wpAny_bind (thn (dc_core hc hN I hi ok hg ht hk he hs h fun L C s' m H' I' q hn f => ?_) fun x s' hq => wpAny_pure (wpAny_pure hq))
  refine wpAny_assign_Name (store_ok2 (v := V.ref L) I' hN hy (.inl hyl) rfl (fun s2 I2 hx => ?_) (.inr hyl))
  obtain ⟨a, sb, ha⟩ := hx
  have haC : C ≠ a := by
    rcases ha with z | z
    · rw [z]; exact f.2.1
    · exact fun e => f.2.2.2.2.1 y a z e.symm
  exact ⟨m, hn.sameBut sb haC, fun h3 sb3 => ⟨σ.set i (some (.ref L)), H', Inv.turned I2 (fun b o hb e => (sb3.2 b hb).trans e) f.1 f.2.1 f.2.2.2.1 f.2.2.2.2.1 f.2.2.2.2.2, q⟩⟩
theorem pg_tupK {X : Cx} {K : PySem.W.Frag} {pos : Pos} {es : List Expr} {k : Nat} {t : TGs} {n : Nat} (hc : X.calm = true) (h : PGs X es t) (hn : (assignEach es X.env).length = n := by rfl) (hs : (assignEach es X.env).findIdx? (fun x => x.1) = none := by rfl) (hK : X.K = K := by rfl) : PG X (.Tuple es k pos) (gTup K n t) := hK ▸ pg_tup hc h hn hs

def putI (kvs : List (Int × Int)) (k v : Int) : List (Int × Int) := if (kvs.any fun p => decide (p.1 = k)) = true then kvs.map (fun p => if p.1 = k then (p.1, v) else p) else kvs ++ [(k, v)]
def dkV (kvs : List (Int × Int)) : List (Key × V) := kvs.map fun p => (Sum.inl p.1, V.int p.2)
theorem put_dkV (kvs : List (Int × Int)) (k v : Int) : putK (dkV kvs) (Sum.inl k) (V.int v) = dkV (putI kvs k v) := by
  have e : ((dkV kvs).any fun kv => decide (kv.1 = (Sum.inl k : Key))) = kvs.any fun p => decide (p.1 = k) := by
    unfold dkV
    rw [List.any_map]
    congr 1
    funext p
    show decide ((Sum.inl p.1 : Key) = Sum.inl k) = decide (p.1 = k)
    by_cases z : p.1 = k
    · rw [decide_eq_true z, decide_eq_true (by rw [z])]
    · rw [decide_eq_false z, decide_eq_false (fun q => z (Sum.inl.inj q))]
  unfold putK putI
  rw [e]
  split
  · unfold dkV
    rw [List.map_map, List.map_map]
    refine List.map_congr_left fun p _ => ?_
    show (if (Sum.inl p.1 : Key) = Sum.inl k then _ else _) = _
    by_cases z : p.1 = k
    · rw [if_pos (by rw [z])]
      show _ = (fun p : Int × Int => ((Sum.inl p.1 : Key), V.int p.2)) (if p.1 = k then (p.1, v) else p)
      rw [if_pos z]
    · rw [if_neg (fun q => z (Sum.inl.inj q))]
      show _ = (fun p : Int × Int => ((Sum.inl p.1 : Key), V.int p.2)) (if p.1 = k then (p.1, v) else p)
      rw [if_neg z]
  · unfold dkV
    rw [List.map_append]
    rfl
theorem putI_len (kvs : List (Int × Int)) (k v : Int) : (putI kvs k v).length ≤ kvs.length + 1 := by
  unfold putI
  split
  · rw [List.length_map]; omega
  · rw [List.length_append, List.length_singleton]; omega
/-- {key of d: its number} -/
def dE (kf : PyData → Int) (ds : List PyData) : Nat → List (Int × Int)
  | 0 => []
  | i + 1 => putI (dE kf ds i) (kf (ds.getD i .none)) i
theorem dE_len (kf : PyData → Int) (ds : List PyData) : ∀ i, (dE kf ds i).length ≤ i
  | 0 => Nat.le_refl 0
  | i + 1 => by
    have := dE_len kf ds i
    have := putI_len (dE kf ds i) (kf (ds.getD i .none)) i
    show (putI (dE kf ds i) _ _).length ≤ i + 1
    omega
def isDi (kvs : List (Int × Int)) : Ty := ⟨fun v B => ∃ a, v = .ref a ∧ B a = some (.dK (dkV kvs)), fun e ⟨a, h1, h2⟩ => ⟨a, h1, e _ _ h2⟩⟩
def getI (kvs : List (Int × Int)) (k : Int) : PyData := match kvs.find? fun p => decide (p.1 = k) with
  | some p => .int p.2
  | none => .none
theorem val_dkV (kvs : List (Int × Int)) (k : Int) : valV (dkV kvs) (Sum.inl k : Key) = (kvs.find? fun p => decide (p.1 = k)).map fun p => V.int p.2 := by
  unfold valV dkV
  rw [List.find?_map, Option.map_map]
  have e : ((fun kv : Key × V => decide (kv.1 = (Sum.inl k : Key))) ∘ fun p : Int × Int => ((Sum.inl p.1 : Key), V.int p.2)) = fun p : Int × Int => decide (p.1 = k) := by
    funext p
    show decide ((Sum.inl p.1 : Key) = Sum.inl k) = decide (p.1 = k)
    by_cases z : p.1 = k
    · rw [decide_eq_true z, decide_eq_true (by rw [z])]
    · rw [decide_eq_false z, decide_eq_false (fun q => z (Sum.inl.inj q))]
  rw [e]
  rfl
def GvE (G : Gm) (j l : Nat) (i : Nat) (d : PyData) : Gm := ((wipeG G [j, l]).set j (.im (isD (.int (i : Int))))).set l (.im (isD d))
section
variable {K : PySem.W.Frag} {E : L2.St → XK} {G : Gm} {td ty tl tk : TE} {j l n : Nat} {k : Int} {kvs : List (Int × Int)} {ds : List PyData}
theorem sv_dget (hd : Sv td G (isDi kvs)) (hk : Sv ty G (isD (.int k))) : Sv (tDGet1 td ty) G (isD (getI kvs k)) := fun M0 σ B M H Q q => hd M0 σ B M H _ fun v B1 e1 d1 p1 => by
  obtain ⟨a, rfl, h1⟩ := p1
  refine ⟨a, rfl, .inl ⟨_, .inl (jn_B d1 h1)⟩, ?_⟩
  refine hk M0 σ B1 M (H.ext e1 d1) _ fun y B2 e2 d2 p2 => ?_
  refine ⟨_, .inl ⟨_, Sum.inl k, .inl (jn_B d2 (e2 _ _ h1)), dp_int p2, rfl⟩, ?_⟩
  refine q _ B2 (e1.trans e2) d2 ?_
  rw [val_dkV]
  show Dq B2 _ (getI kvs k)
  unfold getI
  cases kvs.find? fun p => decide (p.1 = k) with
  | none => exact .non
  | some p => exact .int _
theorem wipe_two2 (σ : L2.St) {j l : Nat} (h : j ≠ l) (x y : V) : L2.wipe (((L2.wipe σ [j, l]).set j (some x)).set l (some y)) [j, l] = L2.wipe σ [j, l] := by
  show (((((σ.set l none).set j none).set j (some x)).set l (some y)).set l none).set j none = (σ.set l none).set j none
  rw [List.set_set, List.set_set, List.set_comm _ _ h, List.set_set, List.set_set]
theorem ss_setDcE (h : Rl tl G ds) (kf : PyData → Int) (hn : n < G.length) (hj : j < G.length) (hl : l < G.length) (hjl : j ≠ l) (hz : ds.length < 1000000) (hk : ∀ i d, ds[i]? = some d → Sv tk (GvE G j l i d) (isD (.int (kf d)))) :
    Ss E (tAsg (tDc (iEnum K (tCons tl tNil)) (gTup K 2 (gCons (gName j) (gCons (gName l) gNil))) tYes tk (tVar j) [j, l]) (gName n)) G (.nx (G.set n (.im (isDi (dE kf ds ds.length))))) := fun M0 D σ B M H q => h M0 σ B M H _ fun a vs B1 e1 d1 hh q1 => by
  have hlen := DqAll_len q1
  refine ⟨a, vs, rfl, sq_of hh, fun Dl hD => ?_⟩
  have hM := (jn_free hD).2
  refine ⟨fun i m H' => i ≤ vs.length ∧ m = vs.length - i ∧ ∃ B', H' = jn B' (upd M Dl (.dK (dkV (dE kf ds i)))) ∧ Ex B1 B' ∧ Dj B' (upd M Dl (.dK (dkV (dE kf ds i)))), ⟨vs.length, Nat.zero_le _, rfl, B1, by rw [upd_own]; rfl, Ex.refl B1, dj_own d1 (jn_free hD).1⟩, fun i m H' hW => ?_⟩
  obtain ⟨hle, rfl, B', rfl, e, dj⟩ := hW
  have hB' : B' Dl = none := dj_free dj upd_same
  have djM : Dj B' M := fun a u q => by
    have := dj a u q
    by_cases z : a = Dl
    · rw [z]; exact hM
    · rw [upd_ne z] at this; exact this
  have hS : SqL K (jn B' (upd M Dl (.dK (dkV (dE kf ds i))))) a vs := by
    refine sq_of ?_
    have hne : a ≠ Dl := fun z => by rw [z, hD] at hh; cases hh
    unfold jn at hh ⊢
    rw [upd_ne hne]
    cases z : M a with
    | some u => rw [z] at hh; exact hh
    | none => rw [z] at hh; exact e _ _ hh
  by_cases z : i < vs.length
  · refine .inr ⟨⟨vs, vs[i], hS, List.getElem?_eq_getElem z⟩, fun H' => ∃ B', H' = jn B' (upd M Dl (.dK (dkV (dE kf ds (i + 1))))) ∧ Ex B1 B' ∧ Dj B' (upd M Dl (.dK (dkV (dE kf ds (i + 1))))), fun H' p => ⟨vs.length - (i + 1), by omega, by omega, rfl, p⟩, fun v H' hy => ?_⟩
    obtain ⟨t, x, rfl, ht, rfl, hx⟩ := hy
    obtain ⟨d, hd, px⟩ := DqAll_getV q1 (hx vs hS)
    rw [upd_new ht]
    refine ⟨t, _, rfl, st_of (jn_B (dj_new dj ht) upd_same), rfl, _, _, rfl, _, _, rfl, rfl, ?_⟩
    refine ⟨wipe_two2 σ hjl _ _, ?_⟩
    have et : Ex B' (upd B' t (.tup [V.int i, x])) := ex_new ht
    have djt : Dj (upd B' t (.tup [V.int i, x])) (upd M Dl (.dK (dkV (dE kf ds i)))) := dj_new dj ht
    have H2 : Holds M0 (GvE G j l i d) (((L2.wipe σ [j, l]).set j (some (V.int i))).set l (some x)) (upd B' t (.tup [V.int i, x])) (upd M Dl (.dK (dkV (dE kf ds i)))) := by
      have h1 := ((((H.ext e1 d1).ext e djM).wipes [j, l]).more (p := Dl) (o := .dK (dkV (dE kf ds i))) (show jn B' M Dl = none by rw [jn_N hM]; exact hB')).ext et djt
      have h2 := h1.setIm (n := j) (v := V.int i) (P := isD (.int (i : Int))) (by show j < ((G.set l .no).set j .no).length; rw [List.length_set, List.length_set]; exact hj) (.int _)
      exact h2.setIm (by rw [List.length_set]; show l < ((G.set l .no).set j .no).length; rw [List.length_set, List.length_set]; exact hl) (Dq_ex (e.trans et) d x px)
    refine tyes_ite ?_
    refine hk i d hd M0 _ _ _ H2 _ fun y B4 e4 d4 p4 => ?_
    have hjj : (((L2.wipe σ [j, l]).set j (some (V.int i))).set l (some x))[j]? = some (some (V.int i)) := by
      rw [List.getElem?_set_ne (Ne.symm hjl)]
      exact List.getElem?_set_self (by show j < ((σ.set l none).set j none).length; rw [List.length_set, List.length_set, H.len]; exact hj)
    refine ⟨_, hjj, dkV (dE kf ds i), Sum.inl (kf d), dp_int p4, jn_M upd_same, ?_, ?_⟩
    · have := dE_len kf ds i
      unfold dkV
      rw [List.length_map, sizeLine_eq]
      omega
    · have ed : ds.getD i .none = d := by rw [List.getD_eq_getElem?_getD, hd]; rfl
      refine ⟨B4, ?_, (e.trans et).trans e4, ?_⟩
      · rw [upd_own, upd_upd, put_dkV]
        show _ = jn B4 (upd M Dl (.dK (dkV (putI (dE kf ds i) (kf (ds.getD i .none)) i))))
        rw [ed]
      · intro b u q
        have := d4 b u q
        by_cases z : b = Dl
        · rw [z, upd_same] at this; cases this
        · rw [upd_ne z] at this ⊢; exact this
  · have ei : i = vs.length := by omega
    subst ei
    refine .inl ⟨⟨vs, hS, Nat.le_refl _⟩, ?_⟩
    show D.nx (σ.set n (some (.ref Dl))) _
    rw [jn_push hM, hlen]
    have hDn : jn B' M Dl = none := by rw [jn_N hM]; exact hB'
    have eN : Ex B' (upd B' Dl (.dK (dkV (dE kf ds ds.length)))) := ex_new hDn
    rw [hlen] at dj
    have djN : Dj (upd B' Dl (.dK (dkV (dE kf ds ds.length)))) M := dj_push dj hM
    exact q _ _ M ((e1.trans e).trans eN) ((((H.ext e1 d1).ext e djM).ext eN djN).setIm hn ⟨Dl, rfl, upd_same⟩)
end
end Mini

namespace Mini
open PySem L2 Evl PyProof.Rows
section
variable {K : PySem.W.Frag} {E : L2.St → XK} {G : Gm} {te : TE} {n : Nat} {i j : Int}
/-- x += e -/
theorem ss_aug (h : G[n]? = some (.im (isD (.int i)))) (he : Sv te G (isD (.int j))) : Ss E (tAug n te (ipI fun i j => i + j)) G (.nx (G.set n (.im (isD (.int (i + j)))))) := fun M0 D σ B M H q => by
  obtain ⟨v, a, b⟩ := H.im n _ h
  refine ⟨v, a, he M0 σ B M H _ fun y B1 e1 d1 p1 => ?_⟩
  refine ⟨i, j, dp_int b, dp_int p1, ?_⟩
  exact q _ B1 M e1 ((H.ext e1 d1).setIm (List.getElem?_eq_some_iff.mp h).1 (.int _))
end
theorem cut_mid {α : Type} (ds : List α) {a b : Int} (h0 : 0 ≤ a) (h1 : a ≤ b) (h2 : a ≤ ds.length) : cutD ds (some a) (some b) = (ds.drop a.toNat).take (b - a).toNat := by
  unfold cutD
  obtain ⟨n, rfl⟩ := Int.eq_ofNat_of_zero_le h0
  obtain ⟨m, rfl⟩ := Int.eq_ofNat_of_zero_le (Int.le_trans h0 h1)
  rw [HT.sIx_nat, HT.sIx_nat, Int.toNat_natCast, Nat.min_eq_left (show n ≤ ds.length by omega)]
  have e : ((m : Int) - (n : Int)).toNat = m - n := by omega
  rw [e]
  by_cases h : m ≤ ds.length
  · rw [Nat.min_eq_left h]
  · rw [Nat.min_eq_right (by omega), List.take_of_length_le (by rw [List.length_drop]; omega), List.take_of_length_le (by rw [List.length_drop]; omega)]
/-! a step that is made as long as it can be -/
def itS {S : Type} (f : S → Option S) (s : S) : Nat → S
  | 0 => s
  | i + 1 => match f (itS f s i) with
    | some s' => s'
    | none => itS f s i
theorem itS_cons {S : Type} {f : S → Option S} {s s' : S} (h : f s = some s') : ∀ i, itS f s (i + 1) = itS f s' i
  | 0 => by show (match f s with | some s' => s' | none => s) = s'; rw [h]
  | i + 1 => by
    show (match f (itS f s (i + 1)) with | some s' => s' | none => itS f s (i + 1)) = _
    rw [itS_cons h i]
    rfl
def runS {S R : Type} (f : S → Option S) (fin : S → R) (d : R) : Nat → S → R
  | 0, _ => d
  | n + 1, s => match f s with
    | some s' => runS f fin d n s'
    | none => fin s
theorem run_stop {S R : Type} {f : S → Option S} {fin : S → R} {d : R} (μ : S → Nat) (hμ : ∀ s s', f s = some s' → μ s' < μ s) : ∀ (n : Nat) (s : S), μ s < n → ∃ N, N ≤ μ s ∧ (∀ i, i < N → ∃ s', f (itS f s i) = some s' ∧ itS f s (i + 1) = s') ∧ f (itS f s N) = none ∧ runS f fin d n s = fin (itS f s N)
  | 0, s, h => absurd h (Nat.not_lt_zero _)
  | n + 1, s, h => by
    cases e : f s with
    | none => exact ⟨0, Nat.zero_le _, fun i hi => absurd hi (Nat.not_lt_zero _), e, by show (match f s with | some s' => runS f fin d n s' | none => fin s) = _; rw [e]; rfl⟩
    | some s' =>
      have hlt := hμ s s' e
      obtain ⟨N, h0, h1, h2, h3⟩ := run_stop μ hμ n s' (by omega)
      refine ⟨N + 1, by omega, fun i hi => ?_, by rw [itS_cons e]; exact h2, by rw [itS_cons e]; show (match f s with | some s' => runS f fin d n s' | none => fin s) = _; rw [e]; exact h3⟩
      cases i with
      | zero => exact ⟨s', e, by rw [itS_cons e]; rfl⟩
      | succ i =>
        rw [itS_cons e, itS_cons e]
        exact h1 i (by omega)
end Mini
namespace Mini
open PySem L2 Evl PyProof.Rows
section
variable {K : PySem.W.Frag} {E : L2.St → XK} {G : Gm} {ta tb : TE} {P : Ty} {ds : List PyData} {i j : Nat}
/-- a, b = (a new list, a value), through a tuple -/
theorem ss_tup2 (ha : Svl ta G ds) (hb : Sv tb G P) (hi : i < G.length := by exact Nat.le_of_ble_eq_true rfl) (hj : j < G.length := by exact Nat.le_of_ble_eq_true rfl) :
    Ss E (tAsg (tTup (tCons ta (tCons tb tNil))) (gTup K 2 (gCons (gName i) (gCons (gName j) gNil)))) G (.nx ((G.set i (.ow (isL ds))).set j (.im P))) := fun M0 D σ B M H q =>
  ha M0 σ B M H _ fun p vs B1 e1 d1 hf ha1 => by
    rw [upd_own]
    have H1 := (H.ext e1 d1).more (p := p) (o := .lst vs) hf
    refine hb M0 σ B1 _ H1 _ fun v B2 e2 d2 p2 => ?_
    have hM1 := (jn_free hf).2
    have b1 : B2 p = none := dj_free d2 upd_same
    have djM : Dj B2 M := fun a u z => by
      have w := d2 a u z
      by_cases y1 : a = p
      · rw [y1] at z; rw [b1] at z; cases z
      · rw [upd_ne y1] at w; exact w
    have K1 : Holds M0 (G.set i (.ow (isL ds))) (σ.set i (some (.ref p))) B2 (upd M p (.lst vs)) := ((H.ext e1 d1).ext e2 djM).setOw hi (by rw [jn_N hM1]; exact b1) ⟨vs, rfl, DqAll_ex e2 ha1⟩
    have K2 := K1.setIm (n := j) (v := v) (P := P) (by rw [List.length_set]; exact hj) p2
    refine ⟨by show 2 ≤ sizeLine; decide, fun t ht => ?_⟩
    rw [upd_new ht]
    refine ⟨t, _, rfl, st_of (jn_B (dj_new K2.dj ht) upd_same), rfl, _, _, rfl, _, _, rfl, rfl, ?_⟩
    exact q _ _ _ ((e1.trans e2).trans (ex_new ht)) (K2.ext (ex_new ht) (dj_new K2.dj ht))
end
end Mini

namespace Mini
open PySem L2 Evl PyProof.Rows
section
variable {K : PySem.W.Frag} {E : L2.St → XK} {G : Gm} {te ta tb tl : TE} {n : Nat} {i j l : Nat} {d d1 d2 d3 e : PyData} {ds es : List PyData} {ns : List Int} {k : Int} {b c : Bool}
/-! in, is True, str(n), tuple(range(n)) -/
theorem inV_ints (k : Int) (ns : List Int) : inV (.int k) (ns.map V.int) = decide (k ∈ ns) := by
  unfold inV
  induction ns with
  | nil => rfl
  | cons a ns ih =>
    rw [List.map_cons, List.any_cons, ih]
    show ((a == k) || decide (k ∈ ns)) = _
    by_cases e : a = k
    · subst e; simp
    · have e' : ¬ k = a := fun z => e z.symm
      simp [e, e']
theorem sv_inT (ha : Sv ta G (isD (.int k))) (hb : Sv tb G (isD (.tuple (ns.map .int)))) : Sv (tOp (rIn K false) ta tb) G (isD (.bool (decide (k ∈ ns)))) := fun M0 σ B M H Q q =>
  ha M0 σ B M H _ fun x B1 e1 d1 p1 => hb M0 σ B1 M (H.ext e1 d1) _ fun y B2 e2 d2 p2 => by
    rw [dp_int p1]
    obtain ⟨a, vs, rfl, h1, h2⟩ := dq_tup p2
    rw [DqAll_ints h2] at h1
    refine ⟨a, ns.map V.int, rfl, .inr (st_of (jn_B d2 h1)), rfl, ?_, ?_⟩
    · rw [List.all_eq_true]
      intro v hv
      obtain ⟨m, _, rfl⟩ := List.mem_map.mp hv
      rfl
    · rw [inV_ints]
      exact q _ B2 (e1.trans e2) d2 (.bl _)
abbrev rIsBl : R2 := fun x y H Q => ∃ a b, x = .bl a ∧ y = .bl b ∧ Q (.bl (decide (a = b))) H
theorem sv_isBl (ha : Sv ta G (isD (.bool b))) (hb : Sv tb G (isD (.bool c))) : Sv (tOp rIsBl ta tb) G (isD (.bool (decide (b = c)))) := fun M0 σ B M H Q q =>
  ha M0 σ B M H _ fun x B1 e1 d1 p1 => hb M0 σ B1 M (H.ext e1 d1) _ fun y B2 e2 d2 p2 => ⟨b, c, dp_bool p1, dp_bool p2, q _ B2 (e1.trans e2) d2 (.bl _)⟩
abbrev cStr : List V → Hp → VK → Prop := fun xs H Q => ∃ i, xs = [.int i] ∧ i.natAbs.log2 < 1920 ∧ Q (.str (toString i)) H
theorem sv_strI (ha : Sv ta G (isD (.int k))) (hk : k.natAbs.log2 < 1920) : Sv (tCB cStr (tCons ta tNil)) G (isD (.str (toString k))) := fun M0 σ B M H Q q =>
  ha M0 σ B M H _ fun x B1 e1 d1 p1 => ⟨k, by rw [dp_int p1], hk, q _ B1 e1 d1 (.str _)⟩
theorem sv_tupRg (ha : Sv ta G (isD (.int k))) (h0 : 0 ≤ k) (h1 : k ≤ 16777216) : Sv (tTupRg (tRg1 ta)) G (isD (.tuple ((List.range k.toNat).map fun i : Nat => PyData.int (i : Int)))) := fun M0 σ B M H Q q =>
  ha M0 σ B M H _ fun x B1 e1 d1 p1 => ⟨k, dp_int p1, RgOk.of_le (by omega) (by omega) (by omega) h0, fun t ht => by
    have e : rgV 0 k = ((List.range k.toNat).map fun i : Nat => (i : Int)).map V.int := by
      unfold rgV
      rw [Int.sub_zero, List.map_map]
      apply List.map_congr_left
      intro i _
      show V.int (0 + (i : Int)) = V.int (i : Int)
      rw [Int.zero_add]
    rw [upd_new ht, e]
    refine q _ _ (e1.trans (ex_new ht)) (dj_new d1 ht) (.tup upd_same ?_)
    have h := DqAll_ofInts (H := upd B1 t (.tup (((List.range k.toNat).map fun i : Nat => (i : Int)).map V.int))) ((List.range k.toNat).map fun i : Nat => (i : Int))
    have e5 : ((List.range k.toNat).map fun i : Nat => (i : Int)).map PyData.int = (List.range k.toNat).map fun i : Nat => PyData.int (i : Int) := by rw [List.map_map]; rfl
    rw [e5] at h
    exact h⟩
/-! a, b, c = a tuple; xs().append(e) of a new list that nobody holds -/
theorem ss_unpT3 (h : Sv te G (isD (.tuple [d1, d2, d3]))) (hi : i < G.length := by exact Nat.le_of_ble_eq_true rfl) (hj : j < G.length := by exact Nat.le_of_ble_eq_true rfl) (hl : l < G.length := by exact Nat.le_of_ble_eq_true rfl) :
    Ss E (tAsg te (gTup K 3 (gCons (gName i) (gCons (gName j) (gCons (gName l) gNil))))) G (.nx (((G.set i (.im (isD d1))).set j (.im (isD d2))).set l (.im (isD d3)))) := fun M0 D σ B M H q => by
  refine h M0 σ B M H _ fun v B' e dj p => ?_
  obtain ⟨a, vs, rfl, h1, h2⟩ := dq_tup p
  cases h2 with
  | cons p1 h2 => cases h2 with
    | cons p2 h2 => cases h2 with
      | cons p3 h2 =>
        cases h2
        refine ⟨a, _, rfl, st_of (jn_B dj h1), rfl, _, _, rfl, _, _, rfl, _, _, rfl, rfl, ?_⟩
        exact q _ B' M e ((((H.ext e dj).setIm (P := isD d1) hi p1).setIm (P := isD d2) (by rw [List.length_set]; exact hj) p2).setIm (P := isD d3) (by rw [List.length_set, List.length_set]; exact hl) p3)
theorem ss_unpT2 (h : Sv te G (isD (.tuple [d1, d2]))) (hi : i < G.length := by exact Nat.le_of_ble_eq_true rfl) (hj : j < G.length := by exact Nat.le_of_ble_eq_true rfl) :
    Ss E (tAsg te (gTup K 2 (gCons (gName i) (gCons (gName j) gNil)))) G (.nx ((G.set i (.im (isD d1))).set j (.im (isD d2)))) := fun M0 D σ B M H q => by
  refine h M0 σ B M H _ fun v B' e dj p => ?_
  obtain ⟨a, vs, rfl, h1, h2⟩ := dq_tup p
  cases h2 with
  | cons p1 h2 => cases h2 with
    | cons p2 h2 =>
      cases h2
      refine ⟨a, _, rfl, st_of (jn_B dj h1), rfl, _, _, rfl, _, _, rfl, rfl, ?_⟩
      exact q _ B' M e (((H.ext e dj).setIm (P := isD d1) hi p1).setIm (P := isD d2) (by rw [List.length_set]; exact hj) p2)
theorem ss_appT (h : Svl tl G ds) (he : Sv te G (isD e)) (hz : ds.length < sizeLine) : Ss E (tDrop (tBM K "list" rAppend tl (tCons te tNil))) G (.nx G) := fun M0 D σ B M H q => by
  refine h M0 σ B M H _ fun p vs B1 e1 d1 hf ha => ?_
  rw [upd_own]
  refine ⟨Or.inl ⟨rfl, vs, sq_of (jn_M upd_same)⟩, ?_⟩
  have H1 := (H.ext e1 d1).more (p := p) (o := .lst vs) hf
  refine he M0 σ B1 _ H1 _ fun v B2 e2 d2 p2 => ?_
  refine ⟨p, vs, v, rfl, rfl, jn_M upd_same, by rw [DqAll_len ha]; exact hz, ?_⟩
  rw [upd_own]
  have djM : Dj B2 M := fun a u z => by
    have w := d2 a u z
    by_cases y1 : a = p
    · subst y1; exact (jn_free hf).2
    · rw [upd_ne y1] at w; exact w
  have hfp : jn B2 M p = none := by rw [jn_N (jn_free hf).2]; exact dj_free d2 upd_same
  have e3 : upd (upd M p (.lst vs)) p (.lst (vs ++ [v])) = upd M p (.lst (vs ++ [v])) := by
    funext a
    by_cases y1 : a = p
    · subst y1; rw [upd_same, upd_same]
    · rw [upd_ne y1, upd_ne y1, upd_ne y1]
  rw [e3]
  exact q σ B2 _ (e1.trans e2) (((H.ext e1 d1).ext e2 djM).more hfp)
end
end Mini

namespace Mini
open PySem L2 Evl PyProof.Rows
theorem eqvB (a b : Bool) : PyData.eqv (.bool a) (.bool b) = decide (a = b) := by cases a <;> cases b <;> decide +kernel
theorem shapedB (a : Bool) : SeqAt.shaped (.bool a) = true := by cases a <;> decide +kernel
theorem eqvInt (a b : Int) : PyData.eqv (.int a) (.int b) = decide (a = b) := by
  unfold PyData.eqv
  by_cases h : a = b
  · simp [h]
  · simp [h]
theorem shapedI (a : Int) : SeqAt.shaped (.int a) = true := by simp [SeqAt.shaped, PyData.canLay0, PyData.depth]
section
variable {K : PySem.W.Frag} {E : L2.St → XK} {G : Gm} {te ta tb tl : TE} {b c : Bool} {i j : Int} {a a' : List Int} {ds es : List PyData}
/-- tests that compare with what is due -/
theorem neB (h1 : Sv ta G (isD (.bool b))) (h2 : Sv tb G (isD (.bool c))) (e : b = c) : St' (tTest (tOp (rNeD K) ta tb)) G false := st_is (st_test (sv_ne h1 h2 (shapedB _) (shapedB _))) (by rw [eqvB, decide_eq_true e]; rfl)
theorem neM (h1 : Sv ta G (isD (.int i))) (h2 : Sv tb G (isD (.int j))) (e : i = j) : St' (tTest (tOp (rNeD K) ta tb)) G false := st_is (st_test (sv_neI h1 h2)) (by simp [e])
theorem neT (h1 : Sv ta G (isD (.tuple (a.map .int)))) (h2 : Sv tb G (isD (.tuple (a'.map .int)))) (e : a = a') : St' (tTest (tOp (rNeD K) ta tb)) G false := st_is (st_test (sv_ne h1 h2 (shaped_tints a) (shaped_tints a'))) (by rw [eqv_tints, decide_eq_true e]; rfl)
theorem neLI (h1 : Sv ta G (isD (.list (a.map .int)))) (h2 : Sv tb G (isD (.list (a'.map .int)))) (e : a = a') : St' (tTest (tOp (rNeD K) ta tb)) G false := st_is (st_test (sv_ne h1 h2 (shaped_ints a) (shaped_ints a'))) (by rw [eqv_ints, decide_eq_true e]; rfl)
theorem neD {d : PyData} (h1 : Sv ta G (isD d)) (h2 : Sv tb G (isD d)) (hs : SeqAt.shaped d = true) : St' (tTest (tOp (rNeD K) ta tb)) G false := st_is (st_test (sv_ne h1 h2 hs hs)) (by rw [SeqAt.eqv_refl d (SeqAt.canLay_of_shaped hs)]; rfl)
end
/-- all that come of tests with the index -/
def fil (f : Nat → Bool) (n : Nat) : List Nat := (List.range n).filter f
theorem fil_succ (f : Nat → Bool) (n : Nat) : fil f (n + 1) = if f n = true then fil f n ++ [n] else fil f n := by
  unfold fil
  rw [List.range_succ, List.filter_append]
  by_cases h : f n = true
  · simp [h]
  · simp [h]
end Mini

namespace Mini
open PySem L2 Evl PyProof.Rows
theorem dl_nd : ∀ (l acc : List Int), acc.Nodup → (l.foldl (fun acc x => if acc.any (fun y => y == x) = true then acc else acc ++ [x]) acc).length = acc.length + l.length → (acc ++ l).Nodup
  | [], acc, h, _ => by rw [List.append_nil]; exact h
  | x :: l, acc, h, e => by
    rw [List.foldl_cons] at e
    have hle : ∀ (l acc : List Int), (l.foldl (fun acc x => if acc.any (fun y => y == x) = true then acc else acc ++ [x]) acc).length ≤ acc.length + l.length := by
      intro l
      induction l with
      | nil => intro acc; simp
      | cons a l ih =>
        intro acc
        rw [List.foldl_cons]
        split
        · have := ih acc; rw [List.length_cons]; omega
        · have := ih (acc ++ [a]); rw [List.length_append, List.length_singleton] at this; rw [List.length_cons]; omega
    by_cases c : (acc.any fun y => y == x) = true
    · rw [if_pos c] at e
      have := hle l acc
      rw [e, List.length_cons] at this
      omega
    · rw [if_neg c] at e
      have hx : x ∉ acc := fun z => c (by rw [dl_any]; exact decide_eq_true z)
      have hnd : (acc ++ [x]).Nodup := by
        rw [List.nodup_append]
        refine ⟨h, by simp, fun a ha b hb => ?_⟩
        rw [List.mem_singleton] at hb
        rw [hb]
        exact fun z => hx (z ▸ ha)
      have := dl_nd l (acc ++ [x]) hnd (by rw [e, List.length_append, List.length_singleton, List.length_cons]; omega)
      rw [List.append_assoc] at this
      exact this
theorem nd_dl : ∀ (l acc : List Int), (acc ++ l).Nodup → (l.foldl (fun acc x => if acc.any (fun y => y == x) = true then acc else acc ++ [x]) acc).length = acc.length + l.length
  | [], acc, _ => by simp
  | x :: l, acc, h => by
    rw [List.foldl_cons]
    have hx : x ∉ acc := fun z => by
      rw [List.nodup_append] at h
      exact h.2.2 x z x List.mem_cons_self rfl
    have c : ¬ (acc.any fun y => y == x) = true := by rw [dl_any]; exact fun z => hx (of_decide_eq_true z)
    rw [if_neg c, nd_dl l (acc ++ [x]) (by rw [List.append_assoc]; exact h), List.length_append, List.length_singleton, List.length_cons]
    omega
theorem nd_get {l : List Int} (h : l.Nodup) {i j : Nat} (hi : i < l.length) (hj : j < l.length) (e : l[i] = l[j]) : i = j := by
  have p := List.pairwise_iff_getElem.mp h
  rcases Nat.lt_trichotomy i j with z | z | z
  · exact absurd e (p i j hi hj z)
  · exact z
  · exact absurd e.symm (p j i hj hi z)
end Mini

namespace Mini
open PySem L2 Evl PyProof.Rows
/-! ### xs[a::c] of a list -/
def placesI (n : Nat) (i c : Int) : List Nat := sliceRange (sliceBounds (some i) none (some c) n).1 (sliceBounds (some i) none (some c) n).2.1 (sliceBounds (some i) none (some c) n).2.2
def stepL {α : Type} (xs : List α) (i c : Int) : List α := (placesI xs.length i c).filterMap fun j => xs[j]?
theorem step_pick (xs : List Value) (i c : Int) : slicePick xs.toArray (some i) none (some c) = (stepL xs i c).toArray := by
  unfold slicePick stepL placesI
  rw [List.size_toArray]
  congr 1
  refine congrArg (fun f => List.filterMap f _) (funext fun x => ?_)
  rw [List.getElem?_toArray]
theorem placesI_len (n : Nat) {i c : Int} (hc : 0 < c) : (placesI n i c).length ≤ n := by
  have e : placesI n i c = sliceRange (max 0 (min (if i < 0 then i + (n : Int) else i) (n : Int))) n c := by
    unfold placesI sliceBounds
    simp only [Option.getD_some, gt_iff_lt, hc, if_true]
  rw [e]
  unfold sliceRange
  rw [List.length_map, List.length_range, if_pos hc]
  generalize hb : max 0 (min (if i < 0 then i + (n : Int) else i) (n : Int)) = b
  have hb0 : 0 ≤ b := by rw [← hb]; omega
  have hbn : b ≤ n := by rw [← hb]; omega
  by_cases h : b < (n : Int)
  · rw [if_pos h]
    have h1 := ceilDiv_le ((n : Int) - b) c (by omega) (by omega)
    omega
  · rw [if_neg h]; simp
theorem filterMap_len {α β : Type} (f : α → Option β) (l : List α) : (l.filterMap f).length ≤ l.length := List.length_filterMap_le f l
theorem vals_step {vs : List V} {us : List Value} (r : Vals vs us) (l : List Nat) : Vals (l.filterMap fun j => vs[j]?) (l.filterMap fun j => us[j]?) := by
  induction l with
  | nil => exact .nil
  | cons j l ih =>
    rw [List.filterMap_cons, List.filterMap_cons]
    cases e : vs[j]? with
    | none =>
      have e2 : us[j]? = none := by
        rw [List.getElem?_eq_none_iff] at e ⊢
        rw [← r.length]; exact e
      rw [e2]; exact ih
    | some v =>
      obtain ⟨u, e2, ru⟩ := r.get e
      rw [e2]; exact .cons ru ih
theorem DqAll_step {B : Hp} {ds : List PyData} {vs : List V} (h : DqAll B vs ds) (l : List Nat) : DqAll B (l.filterMap fun j => vs[j]?) (l.filterMap fun j => ds[j]?) := by
  induction l with
  | nil => exact .nil
  | cons j l ih =>
    rw [List.filterMap_cons, List.filterMap_cons]
    cases e : ds[j]? with
    | none =>
      have e2 : vs[j]? = none := by
        rw [List.getElem?_eq_none_iff] at e ⊢
        rw [DqAll_len h]; exact e
      rw [e2]; exact ih
    | some d =>
      obtain ⟨v, e2, q⟩ := DqAll_get h e
      rw [e2]; exact .cons q ih
def tStep (K : PySem.W.Frag) (te ta tc : TE) : TE := fun σ H Q => te σ H fun x H1 => tPart ta σ H1 fun lo H2 => tPart tc σ H2 fun st H3 => ∃ a xs i c, x = .ref a ∧ lo = some i ∧ st = some c ∧ 0 < c ∧ SqL K H3 a xs ∧ ∀ p, H3 p = none → Q (.ref p) (upd H3 p (.lst (stepL xs i c)))
theorem pe_step {X : Cx} {K : PySem.W.Frag} {e ea ec : Expr} {te ta tc : TE} {p3 pos : Pos} (he : PE X e te) (ha : PE X ea ta) (hc : PE X ec tc) (hK : X.K = K := by rfl) : PE X (.Subscript e (.Slice (some ea) none (some ec) p3) pos) (tStep K te ta tc) := by
  subst hK
  refine ⟨fun pins s σ H Q I h => ?_⟩
  refine Subscript_ (thn (he.run pins s σ H _ I h) fun v s1 ⟨x, H1, I1, r1, q1⟩ => ?_)
  refine wpAny_Slice (thn ((po_some ha).run pins s1 σ H1 _ I1 q1) fun vl s2 ⟨l, H2, I2, pl, q2⟩ => ?_)
  refine thn (po_none.run pins s2 σ H2 (fun o H3 => o = none ∧ H3 = H2) I2 ⟨rfl, rfl⟩) fun vu s3 ⟨u, H3, I3, pu, eu, e3⟩ => ?_
  subst eu e3
  refine thn ((po_some hc).run pins s3 σ H3 _ I3 q2) fun vs s4 ⟨o, H4, I4, ps, a, xs, y, c, ex, el, eo, hc0, hx, q⟩ => ?_
  subst el
  subst eo ex
  cases r1
  have I5 : Inv X pins σ H4 { s4 with heap := s4.heap.push { cls := .type "slice", data := .fields #[vl, vu, vs] } } := I4.kept (t' := s4.toks) fun b ob q => Heap.get?_push_of_some _ q
  obtain ⟨its, r, ht, hz⟩ := I5.list hx
  have hlen := r.length
  show wpAny (model X.prog X.w) X.A (subscriptTail e (.Slice (some ea) none (some ec) p3) (.ref a) (.ref s4.heap.objs.size)) (EP X pins σ Q) X.xe { s4 with heap := s4.heap.push { cls := .type "slice", data := .fields #[vl, vu, vs] } }
  refine tail_any (ops := [.ref a, .ref s4.heap.objs.size]) ht.isList.typeIs (PySem.slot_list_getitem.lookup) ?_ (by with_unfolding_all rfl)
  refine wpAny_getItem_list_slice ht.isList (Heap.IsSliceOf.new _ vl vu vs) pl pu ps (by intro z; cases z; omega) ?_ (by rw [List.size_toArray]; omega)
  rw [step_pick]
  refine ⟨.ref _, _, I5.laid (t' := s4.toks) (o := .lst (stepL xs y c)) (fun b ob q => Heap.get?_push_of_some _ q) (Nat.le_refl _) ?_, rfl, q _ (I5.hok.fresh (Nat.le_refl _))⟩
  have hsl : (stepL xs y c).length ≤ xs.length := Nat.le_trans (filterMap_len _ _) (placesI_len _ hc0)
  have hvv : Vals (stepL xs y c) (stepL its y c) := by
    unfold stepL
    rw [hlen]
    exact vals_step r _
  exact ⟨Nat.le_trans hsl hz, _, 0, hvv, Heap.get?_push_size _ rfl⟩
section
variable {K : PySem.W.Frag} {G : Gm} {te ta tc : TE} {ds : List PyData} {i c : Int}
theorem svl_step (h : Rl te G ds) (ha : Sv ta G (isD (.int i))) (hc : Sv tc G (isD (.int c))) (h0 : 0 < c) : Svl (tStep K te ta tc) G (stepL ds i c) := fun M0 σ B M H Q q =>
  h M0 σ B M H _ fun a vs B1 e1 d1 hh q1 => ha M0 σ B1 M (H.ext e1 d1) _ fun y B2 e2 d2 p2 => ⟨i, dp_int p2, hc M0 σ B2 M ((H.ext e1 d1).ext e2 d2) _ fun z B3 e3 d3 p3 => ⟨c, dp_int p3, by
    have hh3 : jn B3 M a = some (.lst vs) := jn_mono (e2.trans e3) d3 a _ hh
    refine ⟨a, vs, i, c, rfl, rfl, rfl, h0, sq_of hh3, fun p hp => q p _ B3 ((e1.trans e2).trans e3) d3 hp ?_⟩
    have q3 := DqAll_ex (e2.trans e3) q1
    unfold stepL
    rw [DqAll_len q3]
    exact DqAll_step q3 _⟩⟩
end
/-- a column of a table of s rows of k -/
theorem placesI_col {s k i : Nat} (hi : i < k) : placesI (s * k) i k = (List.range s).map fun j => i + k * j := by
  unfold placesI sliceBounds sliceRange
  have hk : (0 : Int) < (k : Int) := by omega
  simp only [Option.getD_some, gt_iff_lt, hk, if_true]
  rw [if_neg (show ¬ ((i : Int) < 0) by omega)]
  cases s with
  | zero =>
    rw [Nat.zero_mul]
    have e : max 0 (min (i : Int) ((0 : Nat) : Int)) = 0 := by omega
    rw [e]; rfl
  | succ s =>
    have hm : k ≤ (s + 1) * k := by rw [Nat.succ_mul]; omega
    have e : max 0 (min (i : Int) (((s + 1) * k : Nat) : Int)) = i := by omega
    rw [e, if_pos (by omega)]
    have ec : ((((s + 1) * k : Nat) : Int) - i + k - 1) / (k : Int) = ((s + 1 : Nat) : Int) := by
      have h1 : (((s + 1) * k : Nat) : Int) = ((s + 1 : Nat) : Int) * (k : Int) := Int.natCast_mul _ _
      rw [h1]
      have h2 : ((s + 1 : Nat) : Int) * (k : Int) - i + k - 1 = (k - 1 - i) + ((s + 1 : Nat) : Int) * (k : Int) := by omega
      rw [h2, Int.add_mul_ediv_right _ _ (by omega), Int.ediv_eq_zero_of_lt (by omega) (by omega), Int.zero_add]
    rw [ec, Int.toNat_natCast]
    refine List.map_congr_left fun j _ => ?_
    rw [← Int.natCast_mul, ← Int.natCast_add, Int.toNat_natCast]
theorem step_col {xs : List Int} {s k i : Nat} (hi : i < k) (hl : xs.length = s * k) : stepL xs i k = (List.range s).map fun j => xs.getD (i + k * j) 0 := by
  unfold stepL
  rw [hl, placesI_col hi]
  rw [List.filterMap_map]
  have h : ∀ j ∈ List.range s, ((fun j => xs[j]?) ∘ fun j => i + k * j) j = some (xs.getD (i + k * j) 0) := fun j hj => by
    have hj := List.mem_range.mp hj
    have hb : i + k * j < xs.length := by
      rw [hl]
      have h1 : (j + 1) * k ≤ s * k := Nat.mul_le_mul_right k (by omega)
      rw [Nat.succ_mul, Nat.mul_comm j k] at h1
      omega
    show xs[i + k * j]? = _
    rw [List.getD_eq_getElem?_getD, List.getElem?_eq_getElem hb]; rfl
  have f : ∀ (l : List Nat), (∀ j ∈ l, ((fun j => xs[j]?) ∘ fun j => i + k * j) j = some (xs.getD (i + k * j) 0)) → l.filterMap ((fun j => xs[j]?) ∘ fun j => i + k * j) = l.map fun j => xs.getD (i + k * j) 0 := by
    intro l
    induction l with
    | nil => intro _; rfl
    | cons a l ih => intro g; rw [List.filterMap_cons, g a List.mem_cons_self, List.map_cons, ih fun j hj => g j (List.mem_cons_of_mem _ hj)]
  exact f _ h
theorem step_map {α β : Type} (f : α → β) (xs : List α) (i c : Int) : stepL (xs.map f) i c = (stepL xs i c).map f := by
  unfold stepL
  rw [List.length_map, List.map_filterMap]
  refine congrArg (fun g => List.filterMap g _) (funext fun x => ?_)
  rw [List.getElem?_map]
end Mini

namespace Mini
open PySem L2 Evl PyProof.Rows
/-! ### two loops in a comprehension, over whatever is walked -/
def WkOk (J : It) (B : Hp) (ds : List PyData) : Prop := ∀ B2 M2, Ex B B2 → Dj B2 M2 → (∀ i, ds.length ≤ i → J.stop i (jn B2 M2)) ∧ (∀ i, i < ds.length → J.go i (jn B2 M2)) ∧ ∀ i x H', i < ds.length → J.yld i (jn B2 M2) x H' → H' = jn B2 M2 ∧ ∃ d, ds[i]? = some d ∧ Dq B2 x d
def Wk (wi : TI) (G : Gm) (ds : List PyData) : Prop := ∀ (M0 : Hp) (σ : L2.St) (B M : Hp), Holds M0 G σ B M → ∀ R : It → Hp → Prop, (∀ J B', Ex B B' → Dj B' M → WkOk J B' ds → R J (jn B' M)) → wi σ (jn B M) R
section
variable {K : PySem.W.Frag} {G : Gm} {te tl : TE} {wi wi1 : TI} {j l : Nat} {ds : List PyData} {n : Int}
theorem wk_list (h : Sv tl G (isD (.list ds))) : Wk (iList K tl) G ds := fun M0 σ B M H R q => h M0 σ B M H _ fun v B1 e1 d1 p1 => by
  obtain ⟨a, vs, rfl, hh, q1⟩ := dq_lst p1
  have hlen := DqAll_len q1
  refine ⟨a, rfl, ⟨vs, sq_of (jn_B d1 hh)⟩, q _ B1 e1 d1 fun B2 M2 e2 d2 => ?_⟩
  have hS : SqL K (jn B2 M2) a vs := sq_of (jn_B d2 (e2 _ _ hh))
  refine ⟨fun i hi => ⟨vs, hS, by omega⟩, fun i hi => ⟨vs, vs[i]'(by omega), hS, List.getElem?_eq_getElem (by omega)⟩, fun i x H' hi hy => ?_⟩
  obtain ⟨rfl, hx⟩ := hy
  obtain ⟨d, hd, px⟩ := DqAll_getV q1 (hx vs hS)
  exact ⟨rfl, d, hd, Dq_ex e2 d x px⟩
theorem wk_tup (h : Sv tl G (isD (.tuple ds))) : Wk (iTup K tl) G ds := fun M0 σ B M H R q => h M0 σ B M H _ fun v B1 e1 d1 p1 => by
  obtain ⟨a, vs, rfl, hh, q1⟩ := dq_tup p1
  have hlen := DqAll_len q1
  refine ⟨a, rfl, ⟨vs, st_of (jn_B d1 hh)⟩, q _ B1 e1 d1 fun B2 M2 e2 d2 => ?_⟩
  have hS : SqT K (jn B2 M2) a vs := st_of (jn_B d2 (e2 _ _ hh))
  refine ⟨fun i hi => ⟨vs, hS, by omega⟩, fun i hi => ⟨vs, vs[i]'(by omega), hS, List.getElem?_eq_getElem (by omega)⟩, fun i x H' hi hy => ?_⟩
  obtain ⟨rfl, hx⟩ := hy
  obtain ⟨d, hd, px⟩ := DqAll_getV q1 (hx vs hS)
  exact ⟨rfl, d, hd, Dq_ex e2 d x px⟩
theorem wk_rng (h : Sv te G (isD (.int n))) (h1 : n ≤ 2 ^ 60) (h0 : -(2 ^ 60) ≤ n) : Wk (iRng1 (tCons te tNil)) G ((List.range n.toNat).map fun i : Nat => .int (i : Int)) := fun M0 σ B M H R q => h M0 σ B M H _ fun v B1 e1 d1 p1 => by
  refine ⟨n, by rw [dp_int p1], by omega, by omega, q _ B1 e1 d1 fun B2 M2 e2 d2 => ?_⟩
  rw [List.length_map, List.length_range]
  refine ⟨fun i hi => hi, fun i hi => hi, fun i x H' hi hy => ?_⟩
  obtain ⟨rfl, rfl⟩ := hy
  refine ⟨rfl, .int (i : Int), ?_, ?_⟩
  · rw [List.getElem?_map, List.getElem?_range hi]; rfl
  · rw [Int.zero_add]; exact .int _
theorem svl_lc2 (h : Wk wi G ds) (es : PyData → List PyData) (y : PyData → PyData → PyData) (hj : j < G.length) (hl : l < G.length) (hjl : j ≠ l) (hz : (ds.flatMap fun d => (es d).map (y d)).length < 10000000) (hi : ∀ d ∈ ds, Wk wi1 (Gv2 G j l d) (es d)) (he : ∀ d ∈ ds, ∀ f ∈ es d, Sv te (Gv (Gv2 G j l d) l f) (isD (y d f))) :
    Svl (tLc2 wi (gName j) tYes wi1 (gName l) tYes te [j, l] [l]) G (ds.flatMap fun d => (es d).map (y d)) := fun M0 σ B M H Q q => h M0 σ B M H _ fun J B1 e1 d1 w1 Dl hD => by
  have hM := (jn_free hD).2
  let F : PyData → List PyData := fun d => (es d).map (y d)
  refine ⟨fun i m H' => i ≤ ds.length ∧ m = ds.length - i ∧ Pvc B1 M Dl (fun i => (ds.take i).flatMap F) i H', ⟨ds.length, Nat.zero_le _, rfl, B1, [], by rw [upd_own], Ex.refl B1, dj_own d1 (jn_free hD).1, .nil⟩, fun i m H' hW => ?_⟩
  obtain ⟨hle, rfl, B', acc, rfl, e, dj, ha⟩ := hW
  have hB' : B' Dl = none := dj_free dj upd_same
  have djM : Dj B' M := fun a u q => by
    have := dj a u q
    by_cases z : a = Dl
    · rw [z]; exact hM
    · rw [upd_ne z] at this; exact this
  obtain ⟨w1s, w1g, w1y⟩ := w1 B' (upd M Dl (.lst acc)) e dj
  by_cases z : i < ds.length
  · refine .inr ⟨w1g i z, fun H' => Pvc B1 M Dl (fun i => (ds.take i).flatMap F) (i + 1) H', fun H' p => ⟨ds.length - (i + 1), by omega, by omega, rfl, p⟩, fun x H' hy => ?_⟩
    obtain ⟨rfl, d, hd, px⟩ := w1y i x H' z hy
    refine ⟨wipe_two σ hjl x, ?_⟩
    have H2 : Holds M0 (Gv2 G j l d) ((L2.wipe σ [j, l]).set j (some x)) B' (upd M Dl (.lst acc)) := by
      have h1 := (((H.ext e1 d1).ext e djM).wipes [j, l]).more (p := Dl) (o := .lst acc) (show jn B' M Dl = none by rw [jn_N hM]; exact hB')
      exact h1.setIm (by show j < ((G.set l .no).set j .no).length; rw [List.length_set, List.length_set]; exact hj) px
    refine tyes_ite ?_
    refine hi d (List.mem_of_getElem? hd) M0 _ _ _ H2 _ fun J4 B4 e4 d4 w4 => ?_
    have hlt : ((ds.take (i + 1)).flatMap F) = (ds.take i).flatMap F ++ F d := by rw [List.take_succ, hd, List.flatMap_append]; simp
    have hFl : (F d).length = (es d).length := List.length_map _
    have htot : ((ds.take i).flatMap F).length + (F d).length < 10000000 := by
      rw [← List.length_append, ← hlt]
      have e2 : ds.flatMap F = (ds.take (i + 1)).flatMap F ++ (ds.drop (i + 1)).flatMap F := by rw [← List.flatMap_append, List.take_append_drop]
      have hz' : (ds.flatMap F).length < 10000000 := hz
      rw [e2, List.length_append] at hz'
      omega
    refine ⟨fun r k H' => r ≤ (es d).length ∧ k = (es d).length - r ∧ ∃ B5 acc5, H' = jn B5 (upd M Dl (.lst acc5)) ∧ Ex B4 B5 ∧ Dj B5 (upd M Dl (.lst acc5)) ∧ DqAll B5 acc5 ((ds.take i).flatMap F ++ (F d).take r), ⟨(es d).length, Nat.zero_le _, rfl, B4, acc, rfl, Ex.refl _, d4, ?_⟩, fun r k H' hW1 => ?_⟩
    · rw [List.take_zero, List.append_nil]
      exact DqAll_ex e4 ha
    obtain ⟨hr, rfl, B5, acc5, rfl, e5, dj5, ha5⟩ := hW1
    obtain ⟨w4s, w4g, w4y⟩ := w4 B5 (upd M Dl (.lst acc5)) e5 dj5
    have hB5 : B5 Dl = none := dj_free dj5 upd_same
    have djM5 : Dj B5 M := fun a u q => by
      have := dj5 a u q
      by_cases z : a = Dl
      · rw [z]; exact hM
      · rw [upd_ne z] at this; exact this
    by_cases zr : r < (es d).length
    · refine .inr ⟨w4g r zr, fun H' => ∃ B5 acc5, H' = jn B5 (upd M Dl (.lst acc5)) ∧ Ex B4 B5 ∧ Dj B5 (upd M Dl (.lst acc5)) ∧ DqAll B5 acc5 ((ds.take i).flatMap F ++ (F d).take (r + 1)), fun H' p => ⟨(es d).length - (r + 1), by omega, by omega, rfl, p⟩, fun x1 H' hy1 => ?_⟩
      obtain ⟨rfl, f, hf, py⟩ := w4y r x1 H' zr hy1
      refine ⟨wipe_one _ l x1, ?_⟩
      refine tyes_ite ?_
      have e15 : Ex B1 B5 := (e.trans e4).trans e5
      have H5 : Holds M0 (Gv2 G j l d) ((L2.wipe σ [j, l]).set j (some x)) B5 (upd M Dl (.lst acc5)) := by
        have h1 := (((H.ext e1 d1).ext e15 djM5).wipes [j, l]).more (p := Dl) (o := .lst acc5) (show jn B5 M Dl = none by rw [jn_N hM]; exact hB5)
        exact h1.setIm (by show j < ((G.set l .no).set j .no).length; rw [List.length_set, List.length_set]; exact hj) (Dq_ex (e4.trans e5) d x px)
      have H6 : Holds M0 (Gv (Gv2 G j l d) l f) ((L2.wipe ((L2.wipe σ [j, l]).set j (some x)) [l]).set l (some x1)) B5 (upd M Dl (.lst acc5)) :=
        (H5.wipes [l]).setIm (by show l < ((((G.set l .no).set j .no).set j (.im (isD d))).set l .no).length; rw [List.length_set, List.length_set, List.length_set, List.length_set]; exact hl) py
      refine he d (List.mem_of_getElem? hd) f (List.mem_of_getElem? hf) M0 _ _ _ H6 _ fun v B7 e7 d7 p7 => ?_
      refine ⟨acc5, jn_M upd_same, ?_, ?_⟩
      · rw [DqAll_len ha5, List.length_append, List.length_take, sizeLine_eq]; omega
      · rw [upd_own, upd_upd]
        refine ⟨B7, acc5 ++ [v], rfl, e5.trans e7, ?_, ?_⟩
        · intro a u q
          have := d7 a u q
          by_cases z : a = Dl
          · rw [z, upd_same] at this; cases this
          · rw [upd_ne z] at this ⊢; exact this
        · have hFr : (F d)[r]? = some (y d f) := by show ((es d).map (y d))[r]? = _; rw [List.getElem?_map, hf]; rfl
          rw [List.take_succ, hFr, ← List.append_assoc]
          exact DqAll_append (DqAll_ex e7 ha5) (.cons p7 .nil)
    · have er : r = (es d).length := by omega
      subst er
      refine .inl ⟨w4s _ (Nat.le_refl _), B5, acc5, rfl, (e.trans e4).trans e5, dj5, ?_⟩
      show DqAll B5 acc5 ((ds.take (i + 1)).flatMap F)
      rw [hlt]
      rw [← hFl, List.take_length] at ha5
      exact ha5
  · have ei : i = ds.length := by omega
    subst ei
    refine .inl ⟨w1s _ (Nat.le_refl _), ?_⟩
    refine lc_end (es := fun i => (ds.take i).flatMap F) (i := ds.length) hM (Ex.refl _) (fun p us B2 e2 dj2 hf hv => ?_) _ ⟨B', acc, rfl, e, dj, ha⟩
    rw [List.take_length] at hv
    exact q p us B2 (e1.trans e2) dj2 hf hv
end
/-! ### what stands where in lists put together -/
theorem flat_len {α : Type} {f : Nat → List α} {L : Nat} (hf : ∀ q, (f q).length = L) : ∀ s : Nat, ((List.range s).flatMap f).length = s * L
  | 0 => by simp
  | s + 1 => by rw [List.range_succ, List.flatMap_append, List.length_append, flat_len hf s, Nat.succ_mul]; simp [hf]
theorem flat_get {α : Type} {f : Nat → List α} {L : Nat} (hf : ∀ q, (f q).length = L) (d : α) {q k : Nat} (hk : k < L) : ∀ s : Nat, q < s → ((List.range s).flatMap f).getD (q * L + k) d = (f q).getD k d
  | 0, h => by omega
  | s + 1, h => by
    rw [List.range_succ, List.flatMap_append]
    have hl := flat_len hf s
    by_cases z : q < s
    · have hb : q * L + k < s * L := by
        have : (q + 1) * L ≤ s * L := Nat.mul_le_mul_right L z
        rw [Nat.succ_mul] at this
        omega
      rw [List.getD_eq_getElem?_getD, List.getElem?_append_left (by rw [hl]; exact hb), ← List.getD_eq_getElem?_getD]
      exact flat_get hf d hk s z
    · have e : q = s := by omega
      subst e
      rw [List.getD_eq_getElem?_getD, List.getElem?_append_right (by rw [hl]; omega), hl]
      have e2 : q * L + k - q * L = k := by omega
      rw [e2]
      simp
end Mini

namespace Mini
open PySem L2 Evl PyProof.Rows
theorem pe_tupleOfK {X : Cx} {K : PySem.W.Frag} {a : Expr} {ta : TE} {p pos : Pos} (hg : Gl X "tuple") (hm : X.mg "tuple" = none) (ha : PE X a ta) (na : starEach [a] X.env = (false, eval a X.env) :: starEach [] X.env := by rfl) (hK : X.K = K := by rfl) : PE X (.Call (.Name "tuple" p) [a] [] pos) (tThen ta (kTup K)) := by
  subst hK
  exact pe_tupleOf hg hm ha na
/-- a comprehension within a comprehension -/
theorem blkOk_in {N : List Str} {scope sc0 scD : Scope} {own : List (Str × Nat)} {env : Env} (hs : env.scope = scD) (h : blkC N (relabel sc0 (envOfC "" scD 0 0 .none)) scope own = true) : BlkOk N (relabel sc0 env) scope own := by
  have e : relabel sc0 env = relabel sc0 (envOfC "" scD 0 0 .none) := by
    unfold relabel Env.kindOf
    rw [hs]
    rfl
  rw [e]
  exact blkOk_by h
end Mini

namespace Mini
open PySem L2 Evl PyProof.Rows
section
variable {K : PySem.W.Frag} {E : L2.St → XK} {tu ts : TS} {te tl ta tb : TE} {tt : TT} {G : Gm} {o : Out} {ds es : List PyData} {n lo hi : Int} {j l : Nat}
/-- for i, x in enumerate(a list that stays) -/
theorem ss_forE (h : Sv tl G (isD (.list ds))) (Gi : Nat → Gm) (N : Nat) (hN : N ≤ ds.length) (h0 : Le G (Gi 0)) (hj : ∀ i, i ≤ N → j < (Gi i).length) (hl : ∀ i, i ≤ N → l < (Gi i).length)
    (hs : ∀ i d, ds[i]? = some d → i < N → Turn E tu (((Gi i).set j (.im (isD (.int (i : Int))))).set l (.im (isD d))) (Gi (i + 1)))
    (hd : EndsAs E tu Gi (fun i => ((Gi i).set j (.im (isD (.int (i : Int))))).set l (.im (isD (ds.getD i .none)))) N ds.length o) :
    Ss E (tFor (iEnum K (tCons tl tNil)) (gTup K 2 (gCons (gName j) (gCons (gName l) gNil))) tu) G o := fun M0 D σ B M H q =>
  h M0 σ B M H _ fun v B1 e1 d1 p1 => by
    obtain ⟨a, vs, rfl, ha, hv⟩ := dq_lst p1
    have hlen := DqAll_len hv
    refine ⟨a, vs, rfl, sq_of (jn_B d1 ha), ?_⟩
    refine ⟨fun i m σ H => m = vs.length - i ∧ i ≤ vs.length ∧ Pvl M0 B1 Gi N i σ H, ⟨vs.length, by simp, Nat.zero_le _, Nat.zero_le _, B1, M, rfl, Ex.refl B1, (H.ext e1 d1).le h0⟩, ?_⟩
    rintro i m σ' H1 ⟨rfl, hi, p⟩
    obtain ⟨hiN, B', M', rfl, e, H'⟩ := p
    have hS : SqL K (jn B' M') a vs := sq_of (jn_B H'.dj (e _ _ ha))
    by_cases hlt : i < vs.length
    · refine .inr ⟨⟨vs, vs[i], hS, List.getElem?_eq_getElem hlt⟩, Pvl M0 B1 Gi N (i + 1), fun σ' H' p' => ⟨vs.length - (i + 1), by omega, rfl, hlt, p'⟩, fun x H2 y => ?_⟩
      obtain ⟨t, x, rfl, ht, rfl, hx⟩ := y
      obtain ⟨d, hd1, px⟩ := DqAll_getV hv (hx vs hS)
      rw [upd_new ht]
      have dj2 := dj_new (o := .tup [.int (i : Nat), x]) H'.dj ht
      have ex2 := ex_new (o := .tup [.int (i : Nat), x]) ht
      refine ⟨t, _, rfl, st_of (jn_B dj2 upd_same), rfl, _, _, rfl, _, _, rfl, rfl, ?_⟩
      have HH := ((H'.ext ex2 dj2).setIm (hj i hiN) (P := isD (.int (i : Int))) (v := .int (i : Int)) (Dq.int _)).setIm (n := l) (P := isD d) (v := x) (by rw [List.length_set]; exact hl i hiN) (Dq_ex (e.trans ex2) d x px)
      refine turn_ok (o := o) hiN HH (e.trans ex2) (fun w => hs i d hd1 w) (fun w => ?_) (q.ext e1)
      rcases hd with ⟨b, _⟩ | ⟨_, b⟩
      · omega
      · have z : ds.getD N .none = d := by rw [← w, List.getD_eq_getElem?_getD, hd1]; rfl
        dsimp only at b
        rw [z, ← w] at b
        exact b
    · refine .inl ⟨⟨vs, hS, by omega⟩, ?_⟩
      rcases hd with ⟨b, c⟩ | ⟨b, _⟩
      · rw [c] at q
        have ei : i = N := by omega
        rw [ei] at H'
        exact q σ' B' M' (e1.trans e) H'
      · omega
/-- min(m, n) -/
theorem sv_min2 {i k : Int} (ha : Sv ta G (isD (.int i))) (hb : Sv tb G (isD (.int k))) : Sv (tCB (fun xs H Q => ∃ i j, xs = [.int i, .int j] ∧ Q (.int (if j < i then j else i)) H) (tCons ta (tCons tb tNil))) G (isD (.int (if k < i then k else i))) := fun M0 σ B M H Q q => ha M0 σ B M H _ fun x B1 e1 d1 p1 => hb M0 σ B1 M (H.ext e1 d1) _ fun y B2 e2 d2 p2 =>
  ⟨i, k, by rw [dp_int p1, dp_int p2], q _ B2 (e1.trans e2) d2 (.int _)⟩
end
end Mini

namespace Mini
open PySem L2 Evl PyProof.Rows
/-! ### data that may stand in the module's own top -/
def KT (K : PySem.W.Frag) (a : Addr) (xs : List V) : Prop := ∃ (o : Obj) (its : Array Value) (n : Nat), K.lookup a = some o ∧ o.cls = .type "tuple" ∧ o.data = .seq its n ∧ its.size ≤ sizeLine ∧ Vals xs its.toList
theorem KT.st {K : PySem.W.Frag} {a : Addr} {xs : List V} (h : KT K a xs) (H : Hp) : SqT K H a xs := Or.inr h
mutual
inductive DqK (K : PySem.W.Frag) (H : Hp) : V → PyData → Prop
  | non : DqK K H .non .none
  | bl (b : Bool) : DqK K H (.bl b) (.bool b)
  | int (i : Int) : DqK K H (.int i) (.int i)
  | str (x : Str) : DqK K H (.str x) (.str x)
  | lst {a : Addr} {xs : List V} {ds : List PyData} : H a = some (.lst xs) → DqKA K H xs ds → DqK K H (.ref a) (.list ds)
  | tup {a : Addr} {xs : List V} {ds : List PyData} : (H a = some (.tup xs) ∨ KT K a xs) → DqKA K H xs ds → DqK K H (.ref a) (.tuple ds)
inductive DqKA (K : PySem.W.Frag) (H : Hp) : List V → List PyData → Prop
  | nil : DqKA K H [] []
  | cons {v : V} {vs : List V} {d : PyData} {ds : List PyData} : DqK K H v d → DqKA K H vs ds → DqKA K H (v :: vs) (d :: ds)
end
theorem DqK_ex {K : PySem.W.Frag} {H H' : Hp} (e : Ex H H') : ∀ (d : PyData) (v : V), DqK K H v d → DqK K H' v d
  | .none, _, h => by cases h; exact .non
  | .bool b, _, h => by cases h; exact .bl b
  | .int i, _, h => by cases h; exact .int i
  | .str x, _, h => by cases h; exact .str x
  | .list ds, _, h => by
    cases h with
    | lst hs ha => exact .lst (e _ _ hs) (go e ds _ ha)
  | .tuple ds, _, h => by
    cases h with
    | tup hs ha => exact .tup (hs.imp (e _ _) id) (go e ds _ ha)
  | .dict _, _, h => by cases h
where
  go {K : PySem.W.Frag} {H H' : Hp} (e : Ex H H') : ∀ (ds : List PyData) (vs : List V), DqKA K H vs ds → DqKA K H' vs ds
  | [], _, h => by cases h; exact .nil
  | d :: ds, _, h => by
    cases h with
    | cons a b => exact .cons (DqK_ex e d _ a) (go e ds _ b)
theorem Dq_K {K : PySem.W.Frag} {H : Hp} : ∀ (d : PyData) (v : V), Dq H v d → DqK K H v d
  | .none, _, h => by cases h; exact .non
  | .bool b, _, h => by cases h; exact .bl b
  | .int i, _, h => by cases h; exact .int i
  | .str x, _, h => by cases h; exact .str x
  | .list ds, _, h => by
    cases h with
    | lst hs ha => exact .lst hs (go ds _ ha)
  | .tuple ds, _, h => by
    cases h with
    | tup hs ha => exact .tup (.inl hs) (go ds _ ha)
  | .dict _, _, h => by cases h
where
  go {K : PySem.W.Frag} {H : Hp} : ∀ (ds : List PyData) (vs : List V), DqAll H vs ds → DqKA K H vs ds
  | [], _, h => by cases h; exact .nil
  | d :: ds, _, h => by
    cases h with
    | cons a b => exact .cons (Dq_K d _ a) (go ds _ b)
theorem DqKA_len {K : PySem.W.Frag} {H : Hp} : ∀ {ds : List PyData} {vs : List V}, DqKA K H vs ds → vs.length = ds.length
  | [], _, h => by cases h; rfl
  | d :: ds, _, h => by cases h with | cons a b => simp [DqKA_len b]
theorem DqKA_get {K : PySem.W.Frag} {H : Hp} : ∀ {ds : List PyData} {vs : List V} {i : Nat} {d : PyData}, DqKA K H vs ds → ds[i]? = some d → ∃ v, vs[i]? = some v ∧ DqK K H v d
  | [], _, i, d, h, e => by simp at e
  | x :: ds, _, 0, d, h, e => by
    cases h with | cons a b => simp at e; subst e; exact ⟨_, rfl, a⟩
  | x :: ds, _, i + 1, d, h, e => by
    cases h with | cons a b => simpa using DqKA_get (i := i) b (by simpa using e)
/-- what is a whole number, a truth, a text or nothing -/
def AtomP : PyData → Prop
  | .int _ => True
  | .bool _ => True
  | .none => True
  | .str s => PyData.strOk s = true
  | _ => False
def isP (K : PySem.W.Frag) (d : PyData) : Ty := ⟨fun v B => DqK K B v d, fun e h => DqK_ex e d _ h⟩
section
variable {K : PySem.W.Frag} {E : L2.St → XK} {G : Gm} {te ta tb tl : TE} {tas : TA} {d : PyData} {ds es : List PyData} {i : Int} {b : Bool}
theorem sv_pD (h : Sv te G (isD d)) : Sv te G (isP K d) := fun M0 σ B M H Q q => h M0 σ B M H Q fun v B' e dj p => q v B' e dj (Dq_K d v p)
theorem sv_pA (ha : AtomP d) (h : Sv te G (isP K d)) : Sv te G (isD d) := fun M0 σ B M H Q q => h M0 σ B M H Q fun v B' e dj p => q v B' e dj (by
  have p : DqK K B' v d := p
  show Dq B' v d
  cases d with
  | none => cases p; exact .non
  | bool b => cases p; exact .bl b
  | int i => cases p; exact .int i
  | str x => cases p; exact .str x
  | _ => exact absurd ha (by simp [AtomP]))
theorem sv_pS {e : PyData} (h : Sv te G (isP K d)) (q : d = e) : Sv te G (isP K e) := q ▸ h
theorem sv_pK {v : V} (h : ∀ B, DqK K B v d) : Sv (tC v) G (isP K d) := sv_cV h
theorem jn_st {B M : Hp} {a : Addr} {xs : List V} (dj : Dj B M) (h : B a = some (.tup xs) ∨ KT K a xs) : SqT K (jn B M) a xs := by
  rcases h with h | h
  · exact st_of (jn_B dj h)
  · exact h.st _
theorem sv_lenP (ha : Sv ta G (isP K (.tuple ds))) : Sv (tCB (fun xs H Q => ∃ x n, xs = [x] ∧ LenV K x H n ∧ Q (.int n) H) (tCons ta tNil)) G (isD (.int ds.length)) := fun M0 σ B M H Q q => ha M0 σ B M H _ fun x B1 e1 d1 p1 => by
  cases (show DqK K B1 x (.tuple ds) from p1) with
  | tup hs hh => exact ⟨_, ds.length, rfl, .inr ⟨_, jn_st d1 hs, (DqKA_len hh).symm⟩, q _ B1 e1 d1 (.int _)⟩
theorem sv_lenPL (ha : Sv ta G (isP K (.list ds))) : Sv (tCB (fun xs H Q => ∃ x n, xs = [x] ∧ LenV K x H n ∧ Q (.int n) H) (tCons ta tNil)) G (isD (.int ds.length)) := fun M0 σ B M H Q q => ha M0 σ B M H _ fun x B1 e1 d1 p1 => by
  cases (show DqK K B1 x (.list ds) from p1) with
  | lst hs hh => exact ⟨_, ds.length, rfl, .inl ⟨_, sq_of (jn_B d1 hs), (DqKA_len hh).symm⟩, q _ B1 e1 d1 (.int _)⟩
theorem DqKA_atI {B : Hp} {vs : List V} (h : DqKA K B vs ds) {i : Int} (e : atI ds i = some d) : ∃ v, atI vs i = some v ∧ DqK K B v d := by
  unfold atI at e ⊢
  rw [DqKA_len h]
  cases q : ixN ds.length i with
  | none => rw [q] at e; cases e
  | some j => rw [q] at e; exact DqKA_get h e
theorem sv_ixP (ha : Sv ta G (isP K (.tuple ds))) (hb : Sv tb G (isD (.int i))) (hi : atI ds i = some d) : Sv (tOp (rIx K) ta tb) G (isP K d) := fun M0 σ B M H Q q =>
  ha M0 σ B M H _ fun x B1 e1 d1 p1 => hb M0 σ B1 M (H.ext e1 d1) _ fun y B2 e2 d2 p2 => by
    cases (show DqK K B2 x (.tuple ds) from (isP K (.tuple ds)).mono e2 p1) with
    | tup hs hh =>
      rw [dp_int p2]
      obtain ⟨v, h1, h2⟩ := DqKA_atI hh hi
      exact .inr (.inl ⟨_, _, i, v, rfl, rfl, jn_st d2 hs, h1, q v B2 (e1.trans e2) d2 h2⟩)
theorem sv_ixPL (ha : Sv ta G (isP K (.list ds))) (hb : Sv tb G (isD (.int i))) (hi : atI ds i = some d) : Sv (tOp (rIx K) ta tb) G (isP K d) := fun M0 σ B M H Q q =>
  ha M0 σ B M H _ fun x B1 e1 d1 p1 => hb M0 σ B1 M (H.ext e1 d1) _ fun y B2 e2 d2 p2 => by
    cases (show DqK K B2 x (.list ds) from (isP K (.list ds)).mono e2 p1) with
    | lst hs hh =>
      rw [dp_int p2]
      obtain ⟨v, h1, h2⟩ := DqKA_atI hh hi
      exact .inl ⟨_, _, i, v, rfl, rfl, sq_of (jn_B d2 hs), h1, q v B2 (e1.trans e2) d2 h2⟩
theorem DqK_ty {H : Hp} {v : V} (h : DqK K H v d) : TyX K H v (.type (tyName d)) := by
  cases h with
  | non => exact .base .non
  | bl b => exact .base (.bl b)
  | int i => exact .base (.int i)
  | str x => exact .base (.str x)
  | lst e _ => exact .base (.lst e)
  | tup e _ =>
    rcases e with e | ⟨o, its, n, e, c, _⟩
    · exact .base (.tup e)
    · exact .kTuple e c
theorem sv_isiP {n : String} (ha : Sv ta G (isP K d)) (hb : Sv tb G (isV (.ty n))) (h : kitB (tyName d) n = some b) : Sv (tCB (rIsi K) (tCons ta (tCons tb tNil))) G (isD (.bool b)) := fun M0 σ B M H Q q =>
  ha M0 σ B M H _ fun x B1 e1 d1 p1 => hb M0 σ B1 M (H.ext e1 d1) _ fun y B2 e2 d2 p2 => ⟨x, y, _, _, b, rfl, by rw [show y = .ty n from p2]; exact .ty n, DqK_ty (DqK_ex (e2.trans (jn_ex d2)) d x p1), kit_ty h, q _ B2 (e1.trans e2) d2 (.bl _)⟩
theorem sv_isTupP (ha : Sv ta G (isP K d)) : Sv (tCB (rIsi K) (tCons ta (tCons (tC (.ty "tuple")) tNil))) G (isD (.bool (dTup d))) := sv_isiP ha sv_val (kit_tup d)
theorem sv_isLstP (ha : Sv ta G (isP K d)) : Sv (tCB (rIsi K) (tCons ta (tCons (tC (.ty "list")) tNil))) G (isD (.bool (dLst d))) := sv_isiP ha sv_val (kit_lst d)
theorem arsP {B M : Hp} : ∀ {ds : List PyData} {vs : List V}, ArsOk (ds.map fun d => .im (isP K d)) vs B M → DqKA K B vs ds
  | [], _, h => by cases h; exact .nil
  | d :: ds, _, h => by cases h with | cons a b => exact .cons a (arsP b)
theorem sv_tupP (h : Sa tas G (ds.map fun d => .im (isP K d))) (hz : ds.length ≤ sizeLine) : Sv (tTup tas) G (isP K (.tuple ds)) := fun M0 σ B M H Q q => h M0 σ B M H _ fun vs B1 e1 d1 p1 => by
  have p2 := arsP p1
  refine ⟨by rw [DqKA_len p2]; exact hz, fun t ht => ?_⟩
  rw [upd_new ht]
  exact q _ _ (e1.trans (ex_new ht)) (dj_new d1 ht) (.tup (.inl upd_same) (DqK_ex.go (ex_new ht) ds vs p2))
theorem sa_pms {tr : TA} (h : Sv te G (isP K d)) (hr : Sa tr G (ds.map fun d => .im (isP K d))) : Sa (tCons te tr) G ((d :: ds).map fun d => .im (isP K d)) := sa_im h hr
end
end Mini

namespace Mini
open PySem L2 Evl PyProof.Rows
section
variable {K : PySem.W.Frag} {E : L2.St → XK} {G : Gm} {td ty tl tk : TE} {j l n : Nat} {k : Int} {kvs : List (Int × Int)} {ds : List PyData}
/-- {e: k for k, x in enumerate(xs)}, not stored -/
theorem sv_dcE (h : Rl tl G ds) (kf : PyData → Int) (hj : j < G.length) (hl : l < G.length) (hjl : j ≠ l) (hz : ds.length < 1000000) (hk : ∀ i d, ds[i]? = some d → Sv tk (GvE G j l i d) (isD (.int (kf d)))) :
    Sv (tDc (iEnum K (tCons tl tNil)) (gTup K 2 (gCons (gName j) (gCons (gName l) gNil))) tYes tk (tVar j) [j, l]) G (isDi (dE kf ds ds.length)) := fun M0 σ B M H Q q => h M0 σ B M H _ fun a vs B1 e1 d1 hh q1 => by
  have hlen := DqAll_len q1
  refine ⟨a, vs, rfl, sq_of hh, fun Dl hD => ?_⟩
  have hM := (jn_free hD).2
  refine ⟨fun i m H' => i ≤ vs.length ∧ m = vs.length - i ∧ ∃ B', H' = jn B' (upd M Dl (.dK (dkV (dE kf ds i)))) ∧ Ex B1 B' ∧ Dj B' (upd M Dl (.dK (dkV (dE kf ds i)))), ⟨vs.length, Nat.zero_le _, rfl, B1, by rw [upd_own]; rfl, Ex.refl B1, dj_own d1 (jn_free hD).1⟩, fun i m H' hW => ?_⟩
  obtain ⟨hle, rfl, B', rfl, e, dj⟩ := hW
  have hB' : B' Dl = none := dj_free dj upd_same
  have djM : Dj B' M := fun a u q => by
    have := dj a u q
    by_cases z : a = Dl
    · rw [z]; exact hM
    · rw [upd_ne z] at this; exact this
  have hS : SqL K (jn B' (upd M Dl (.dK (dkV (dE kf ds i))))) a vs := by
    refine sq_of ?_
    have hne : a ≠ Dl := fun z => by rw [z, hD] at hh; cases hh
    unfold jn at hh ⊢
    rw [upd_ne hne]
    cases z : M a with
    | some u => rw [z] at hh; exact hh
    | none => rw [z] at hh; exact e _ _ hh
  by_cases z : i < vs.length
  · refine .inr ⟨⟨vs, vs[i], hS, List.getElem?_eq_getElem z⟩, fun H' => ∃ B', H' = jn B' (upd M Dl (.dK (dkV (dE kf ds (i + 1))))) ∧ Ex B1 B' ∧ Dj B' (upd M Dl (.dK (dkV (dE kf ds (i + 1))))), fun H' p => ⟨vs.length - (i + 1), by omega, by omega, rfl, p⟩, fun v H' hy => ?_⟩
    obtain ⟨t, x, rfl, ht, rfl, hx⟩ := hy
    obtain ⟨d, hd, px⟩ := DqAll_getV q1 (hx vs hS)
    rw [upd_new ht]
    refine ⟨t, _, rfl, st_of (jn_B (dj_new dj ht) upd_same), rfl, _, _, rfl, _, _, rfl, rfl, ?_⟩
    refine ⟨wipe_two2 σ hjl _ _, ?_⟩
    have et : Ex B' (upd B' t (.tup [V.int i, x])) := ex_new ht
    have djt : Dj (upd B' t (.tup [V.int i, x])) (upd M Dl (.dK (dkV (dE kf ds i)))) := dj_new dj ht
    have H2 : Holds M0 (GvE G j l i d) (((L2.wipe σ [j, l]).set j (some (V.int i))).set l (some x)) (upd B' t (.tup [V.int i, x])) (upd M Dl (.dK (dkV (dE kf ds i)))) := by
      have h1 := ((((H.ext e1 d1).ext e djM).wipes [j, l]).more (p := Dl) (o := .dK (dkV (dE kf ds i))) (show jn B' M Dl = none by rw [jn_N hM]; exact hB')).ext et djt
      have h2 := h1.setIm (n := j) (v := V.int i) (P := isD (.int (i : Int))) (by show j < ((G.set l .no).set j .no).length; rw [List.length_set, List.length_set]; exact hj) (.int _)
      exact h2.setIm (by rw [List.length_set]; show l < ((G.set l .no).set j .no).length; rw [List.length_set, List.length_set]; exact hl) (Dq_ex (e.trans et) d x px)
    refine tyes_ite ?_
    refine hk i d hd M0 _ _ _ H2 _ fun y B4 e4 d4 p4 => ?_
    have hjj : (((L2.wipe σ [j, l]).set j (some (V.int i))).set l (some x))[j]? = some (some (V.int i)) := by
      rw [List.getElem?_set_ne (Ne.symm hjl)]
      exact List.getElem?_set_self (by show j < ((σ.set l none).set j none).length; rw [List.length_set, List.length_set, H.len]; exact hj)
    refine ⟨_, hjj, dkV (dE kf ds i), Sum.inl (kf d), dp_int p4, jn_M upd_same, ?_, ?_⟩
    · have := dE_len kf ds i
      unfold dkV
      rw [List.length_map, sizeLine_eq]
      omega
    · have ed : ds.getD i .none = d := by rw [List.getD_eq_getElem?_getD, hd]; rfl
      refine ⟨B4, ?_, (e.trans et).trans e4, ?_⟩
      · rw [upd_own, upd_upd, put_dkV]
        show _ = jn B4 (upd M Dl (.dK (dkV (putI (dE kf ds i) (kf (ds.getD i .none)) i))))
        rw [ed]
      · intro b u q
        have := d4 b u q
        by_cases z : b = Dl
        · rw [z, upd_same] at this; cases this
        · rw [upd_ne z] at this ⊢; exact this
  · have ei : i = vs.length := by omega
    subst ei
    refine .inl ⟨⟨vs, hS, Nat.le_refl _⟩, ?_⟩
    rw [jn_push hM, hlen]
    have hDn : jn B' M Dl = none := by rw [jn_N hM]; exact hB'
    have eN : Ex B' (upd B' Dl (.dK (dkV (dE kf ds ds.length)))) := ex_new hDn
    rw [hlen] at dj
    have djN : Dj (upd B' Dl (.dK (dkV (dE kf ds ds.length)))) M := dj_push dj hM
    exact q _ _ ((e1.trans e).trans eN) djN ⟨Dl, rfl, upd_same⟩
end
/-- a tuple of the module's own top -/
def KTD (K : PySem.W.Frag) (a : Addr) (xs : List V) : Prop := ∃ (its : Array Value) (n : Nat) (sl : Array (Option Value)), K.lookup a = some ⟨.type "tuple", none, .seq its n, sl⟩ ∧ its.size ≤ sizeLine ∧ Vals xs its.toList
theorem KTD.kt {K : PySem.W.Frag} {a : Addr} {xs : List V} (h : KTD K a xs) : KT K a xs := by
  obtain ⟨its, n, sl, h1, h2, h3⟩ := h
  exact ⟨_, its, n, h1, rfl, rfl, h2, h3⟩
theorem KTD.ty {K : PySem.W.Frag} {a : Addr} {xs : List V} (h : KTD K a xs) (H : Hp) : tyV K "tuple" (.ref a) H := by
  obtain ⟨its, n, sl, h1, h2, h3⟩ := h
  exact .inr (.inl ⟨rfl, _, h1, rfl, rfl⟩)
/-- things of their own types in a tuple -/
def isTT (Ps : List Ty) : Ty := ⟨fun v B => ∃ a vs, v = .ref a ∧ B a = some (.tup vs) ∧ AllP B vs Ps, fun e ⟨a, vs, h1, h2, h3⟩ => ⟨a, vs, h1, e _ _ h2, h3.ext e⟩⟩
theorem ars_all {B M : Hp} : ∀ {Ps : List Ty} {vs : List V}, ArsOk (Ps.map fun P => .im P) vs B M → AllP B vs Ps
  | [], _, h => by cases h; exact .nil
  | P :: Ps, _, h => by cases h with | cons a b => exact .cons a (ars_all b)
theorem AllP.at {B : Hp} {vs : List V} {Ps : List Ty} (h : AllP B vs Ps) {i : Nat} {P : Ty} (e : Ps[i]? = some P) : ∃ v, vs[i]? = some v ∧ P.p v B := by
  induction h generalizing i with
  | nil => simp at e
  | @cons u Q us Qs a b ih =>
    cases i with
    | zero => simp at e; subst e; exact ⟨u, rfl, a⟩
    | succ i => exact ih e
section
variable {K : PySem.W.Frag} {E : L2.St → XK} {G : Gm} {te ta tb : TE} {tas : TA} {P : Ty} {Ps : List Ty} {n : Nat} {i : Int} {C : Addr} {fs : List (Str × Ty)} {f : Str} {a : Addr} {x : Str} {ys : List Str}
theorem sv_tt (h : Sa tas G (Ps.map fun P => .im P)) (hz : Ps.length ≤ sizeLine) : Sv (tTup tas) G (isTT Ps) := fun M0 σ B M H Q q => h M0 σ B M H _ fun vs B1 e1 d1 p1 => by
  have p2 := ars_all p1
  refine ⟨by rw [p2.len]; exact hz, fun t ht => ?_⟩
  rw [upd_new ht]
  exact q _ _ (e1.trans (ex_new ht)) (dj_new d1 ht) ⟨t, vs, rfl, upd_same, p2.ext (ex_new ht)⟩
theorem sv_ixTT {m : Nat} (ha : Sv ta G (isTT Ps)) (hb : Sv tb G (isD (.int i))) (hi : i = (m : Int)) (hm : Ps[m]? = some P) : Sv (tOp (rIx K) ta tb) G P := fun M0 σ B M H Q q =>
  ha M0 σ B M H _ fun x B1 e1 d1 p1 => hb M0 σ B1 M (H.ext e1 d1) _ fun y B2 e2 d2 p2 => by
    obtain ⟨a, vs, rfl, hh, q1⟩ := (isTT Ps).mono e2 p1
    rw [dp_int p2]
    obtain ⟨v, h1, h2⟩ := q1.at hm
    exact .inr (.inl ⟨a, vs, i, v, rfl, rfl, st_of (jn_B d2 hh), by rw [hi]; exact atI_nat h1, q v B2 (e1.trans e2) d2 h2⟩)
/-- self.f of an instance that is being made -/
theorem sv_fldOw {p dx : Addr} (h : G[n]? = some (.ow (owI C p dx (flds fs)))) (hf : fs.lookup f = some P) (c : Cls K C) (hn : NoAttr K C f) : Sv (tFld K (tVar n) f) G P := fun M0 σ B M H Q q => by
  obtain ⟨l, ob, a, c1, r, f1⟩ := H.ow n _ h
  obtain ⟨rfl, vs, rfl, hv, _⟩ := r
  obtain ⟨v, hl, pv⟩ := hv.look.1 P hf
  exact ⟨_, a, _, C, dx, vs, v, rfl, jn_M c1, c, hn, hl, q v B (Ex.refl B) H.dj pv⟩
theorem inV_strs (x : Str) (ys : List Str) : inV (.str x) (ys.map V.str) = decide (x ∈ ys) := by
  unfold inV
  induction ys with
  | nil => rfl
  | cons a ys ih =>
    rw [List.map_cons, List.any_cons, ih]
    show ((a == x) || decide (x ∈ ys)) = _
    by_cases e : a = x
    · subst e; simp
    · have e' : ¬ x = a := fun z => e z.symm
      simp [e, e']
/-- s not in a tuple of texts of the module's top -/
theorem sv_notInK (h : KTD K a (ys.map V.str)) (ha : Sv ta G (isD (.str x))) : Sv (tOp (rIn K true) ta (tC (.ref a))) G (isD (.bool (!decide (x ∈ ys)))) := fun M0 σ B M H Q q =>
  ha M0 σ B M H _ fun v B1 e1 d1 p1 => by
    rw [dp_str p1]
    refine ⟨a, ys.map V.str, rfl, .inr (h.kt.st _), rfl, flat_strs ys, ?_⟩
    rw [inV_strs]
    exact q _ B1 e1 d1 (.bl _)
abbrev rTupIx (K : PySem.W.Frag) : V → List V → Hp → VK → Prop := fun x xs H Q => ∃ p, ∃ ys : List Str, ∃ z j, x = .ref p ∧ xs = [.str z] ∧ SqT K H p (ys.map V.str) ∧ ys[j]? = some z ∧ (∀ m, m < j → ys[m]? ≠ some z) ∧ Q (.int (j : Nat)) H
/-- a tuple of texts' .index(s) -/
theorem sv_indexK {m : Nat} (h : KTD K a (ys.map V.str)) (ha : Sv ta G (isD (.str x))) (hm : ys[m]? = some x) (hno : ∀ k, k < m → ys[k]? ≠ some x) : Sv (tBM K "tuple" (rTupIx K) (tC (.ref a)) (tCons ta tNil)) G (isD (.int (m : Int))) := fun M0 σ B M H Q q =>
  ⟨h.ty _, ha M0 σ B M H _ fun v B1 e1 d1 p1 => by
    rw [dp_str p1]
    exact ⟨a, ys, x, m, rfl, rfl, h.kt.st _, hm, hno, q _ B1 e1 d1 (.int _)⟩⟩
end
end Mini

namespace Mini
open PySem L2 Evl PyProof.Rows
theorem tuple_mul1 (l : Addr) (items : Array Value) (n : Nat) (dd : Option Addr) (sl : Array (Option Value)) (u : Tok) :
    Meets (Builtin.«tuple.__mul__» ⟨[.ref l, .int 1 u], []⟩) (fun _ R s => s.heap.get? l = some { cls := .type "tuple", dict := dd, data := .seq items n, slots := sl } ∧
      R (.ok (.ret (Value.ref l))) s) :=
  .of_wp fun prog w A R s h => by
    obtain ⟨hp, g, d, tk, os⟩ := s
    obtain ⟨hl, h⟩ := h
    have f1 := AutoSeq1.idx_int
    have c1 : (items.isEmpty || (1 : Int) == 1) = true := by simp
    wp_walk using wpAny_loadPart' hl
    repeat (first
      | (refine wpAny_ite_false (by decide) ?_; wp_walk using wpAny_loadPart' hl)
      | (refine wpAny_ite_true (by rw [c1]) ?_; wp_walk using wpAny_loadPart' hl))
    exact ⟨_, rfl, h⟩
theorem tuple_mul0 (l : Addr) (items : Array Value) (n : Nat) (dd : Option Addr) (sl : Array (Option Value)) (u : Tok) (hne : items.isEmpty = false) :
    Meets (Builtin.«tuple.__mul__» ⟨[.ref l, .int 0 u], []⟩) (fun _ R s => s.heap.get? l = some { cls := .type "tuple", dict := dd, data := .seq items n, slots := sl } ∧
      R (.ok (.ret (Value.ref s.heap.objs.size))) { s with heap := s.heap.push { cls := Value.type "tuple", data := Data.seq #[] }, toks := s.toks }) :=
  .of_wp fun prog w A R s h => by
    obtain ⟨hp, g, d, tk, os⟩ := s
    obtain ⟨hl, h⟩ := h
    have f1 := AutoSeq1.idx_int
    have c1 : (items.isEmpty || (0 : Int) == 1) = false := by rw [hne]; rfl
    have c2 : (decide ((0 : Int) ≤ 0) || items.isEmpty) = true := by simp
    wp_walk using wpAny_loadPart' hl
    repeat (first
      | (refine wpAny_ite_false (by decide) ?_; wp_walk using wpAny_loadPart' hl)
      | (refine wpAny_ite_false (decide_eq_false (by rw [c1]; exact Bool.false_ne_true)) ?_; wp_walk using wpAny_loadPart' hl)
      | (refine wpAny_ite_true (by rw [c2]) ?_; wp_walk using wpAny_loadPart' hl))
    exact ⟨_, rfl, h⟩
section
variable {X : Cx}
/-- a tuple once, or not at all -/
def rRepS (K : PySem.W.Frag) : R2 := fun x y H Q => ∃ l xs, x = .ref l ∧ SqT K H l xs ∧ xs ≠ [] ∧ ((y = .int 1 ∧ Q (.ref l) H) ∨ (y = .int 0 ∧ ∀ p, H p = none → Q (.ref p) (upd H p (.tup []))))
theorem op_repS : OpR X (binaryOp .Mult) (rRepS X.K) := by
  intro pins s σ H x y v u Q I rx ry h
  obtain ⟨l, xs, e1, hT, hne, hk⟩ := h
  subst e1
  cases rx
  obtain ⟨its, r, ⟨⟨cls, dd, data, sl⟩, ho, hc, n, hd⟩, hs⟩ := I.tuple hT
  simp only at hc hd
  subst hc hd
  have hi : its.toArray.isEmpty = false := by
    cases its with
    | nil => exact absurd (List.length_eq_zero_iff.mp r.length) hne
    | cons a b => rfl
  rcases hk with ⟨ey, q⟩ | ⟨ey, q⟩
  · subst ey
    obtain ⟨t, rfl⟩ := ry
    refine wpAny_binaryOp_repeat_ref (T := "tuple") (U := "int") (by decide) ⟨_, ho, rfl⟩ (fun s' => typeIs_int s' 1 t) noFill_tuple_mul F.fills_int_mul F.slot_int_rmul repeat_tuple F.slot_int_index.lookup ?_
    refine call_meets F.slot_int_rmul (typeIs_int s 1 t) F.entry_int_rmul (F.args_int_rmul_2 _ _) (int_rmul_tuple 1 t l its.toArray n dd sl) ⟨ho, rfl, ⟨_, ho, rfl⟩, ?_⟩
    exact call_meets F.slot_tuple_mul ⟨_, ho, rfl⟩ F.entry_tuple_mul (F.args_tuple_mul_2 _ _) (tuple_mul1 l its.toArray n dd sl t) ⟨ho, .ref l, H, I, rfl, q⟩
  · subst ey
    obtain ⟨t, rfl⟩ := ry
    refine wpAny_binaryOp_repeat_ref (T := "tuple") (U := "int") (by decide) ⟨_, ho, rfl⟩ (fun s' => typeIs_int s' 0 t) noFill_tuple_mul F.fills_int_mul F.slot_int_rmul repeat_tuple F.slot_int_index.lookup ?_
    refine call_meets F.slot_int_rmul (typeIs_int s 0 t) F.entry_int_rmul (F.args_int_rmul_2 _ _) (int_rmul_tuple 0 t l its.toArray n dd sl) ⟨ho, rfl, ⟨_, ho, rfl⟩, ?_⟩
    refine call_meets F.slot_tuple_mul ⟨_, ho, rfl⟩ F.entry_tuple_mul (F.args_tuple_mul_2 _ _) (tuple_mul0 l its.toArray n dd sl t hi) ⟨ho, ?_⟩
    refine ⟨.ref s.heap.objs.size, _, I.laid (t' := s.toks) (o := .tup []) (fun b ob q => Heap.get?_push_of_some _ q) (Nat.le_refl _) ?_, rfl, q _ (I.hok.fresh (Nat.le_refl _))⟩
    exact ⟨Nat.zero_le _, [], .nil, IsTup.new _ _⟩
def uMul2 (K : PySem.W.Frag) : R2 := fun x y H Q => uMul K x y H Q ∨ rRepS K x y H Q
theorem op_uMul2 : OpR X (binaryOp .Mult) (uMul2 X.K) := OpR.or op_uMul op_repS
end
section
variable {K : PySem.W.Frag} {G : Gm} {ta tb : TE} {ds : List PyData} {i : Int}
theorem sv_repT2 (ha : Sv ta G (isD (.tuple ds))) (hb : Sv tb G (isD (.int i))) (hn : ds ≠ []) (h0 : 0 ≤ i) (hz : (ds.length : Int) * i ≤ 1000000) : Sv (tOp (uMul2 K) ta tb) G (isD (.tuple (List.replicate i.toNat ds).flatten)) := by
  by_cases h2 : 2 ≤ i
  · refine sv_op ha hb (rv_or1 ?_)
    intro B M x y dj p1 p2 Q q
    obtain ⟨a, vs, rfl, h1, h3⟩ := dq_tup p1
    have hne : vs ≠ [] := by intro z; subst z; cases h3; exact hn rfl
    rw [dp_int p2]
    refine .inr (.inr ⟨a, i, vs, rfl, rfl, st_of (jn_B dj h1), hne, h2, by rw [DqAll_len h3]; exact hz, fun p hp => ?_⟩)
    rw [upd_new hp]
    exact q _ _ (ex_new hp) (dj_new dj hp) (.tup upd_same (DqAll_ex (ex_new hp) (DqAll_rep h3 _)))
  · refine sv_op ha hb (rv_or2 ?_)
    intro B M x y dj p1 p2 Q q
    obtain ⟨a, vs, rfl, h1, h3⟩ := dq_tup p1
    have hne : vs ≠ [] := by intro z; subst z; cases h3; exact hn rfl
    rw [dp_int p2]
    have hi : i = 1 ∨ i = 0 := by omega
    refine ⟨a, vs, rfl, st_of (jn_B dj h1), hne, ?_⟩
    rcases hi with rfl | rfl
    · refine .inl ⟨rfl, q _ B (Ex.refl B) dj (.tup h1 ?_)⟩
      simpa using h3
    · refine .inr ⟨rfl, fun p hp => ?_⟩
      rw [upd_new hp]
      exact q _ _ (ex_new hp) (dj_new dj hp) (.tup upd_same .nil)
end
end Mini

namespace Mini
open PySem L2 Evl PyProof.Rows
theorem sv_notN {ta : TE} {G : Gm} {d : PyData} (ha : Sv ta G (isD d)) : Sv (tOp (fun x y H Q => y = .non ∧ Q (.bl (!decide (x = .non))) H) ta (tC .non)) G (isD (.bool (match d with | .none => false | _ => true))) := fun M0 σ B M H Q q => ha M0 σ B M H _ fun v B' e dj p => ⟨rfl, by
  refine q _ B' e dj ?_
  cases p with
  | non => exact .bl _
  | _ => exact .bl true⟩
end Mini

namespace Mini
open PySem L2 Evl PyProof.Rows
/-! ### is not True, is not False, of whatever stands -/
abbrev rNotBl : R2 := fun x y H Q => ∃ b, y = .bl b ∧ Q (.bl (!decide (x = .bl b))) H
abbrev rIsBl2 : R2 := fun x y H Q => ∃ b, y = .bl b ∧ Q (.bl (decide (x = .bl b))) H
theorem op_notBl {X : Cx} : OpR X (compareOp .IsNot) rNotBl := by
  intro pins s σ H x y v u Q I rx ry h
  obtain ⟨b, rfl, q⟩ := h
  cases (show u = Value.bool b from ry)
  cases x with
  | bl a =>
    cases (show v = Value.bool a from rx)
    exact isnot_bool ⟨.bl _, H, I, rfl, by cases a <;> cases b <;> simpa using q⟩
  | non => cases rx; exact wpAny_pure ⟨.bl true, H, I, rfl, by simpa using q⟩
  | ref a => cases rx; exact wpAny_pure ⟨.bl true, H, I, rfl, by simpa using q⟩
  | ty n => cases rx; exact wpAny_pure ⟨.bl true, H, I, rfl, by simpa using q⟩
  | int i => obtain ⟨t, rfl⟩ := rx; exact wpAny_pure ⟨.bl true, H, I, rfl, by simpa using q⟩
  | str i => obtain ⟨t, rfl⟩ := rx; exact wpAny_pure ⟨.bl true, H, I, rfl, by simpa using q⟩
  | byt i => obtain ⟨t, rfl⟩ := rx; exact wpAny_pure ⟨.bl true, H, I, rfl, by simpa using q⟩
  | flt i => obtain ⟨t, rfl⟩ := rx; exact wpAny_pure ⟨.bl true, H, I, rfl, by simpa using q⟩
theorem op_isBl2 {X : Cx} : OpR X (compareOp .Is) rIsBl2 := by
  intro pins s σ H x y v u Q I rx ry h
  obtain ⟨b, rfl, q⟩ := h
  cases (show u = Value.bool b from ry)
  cases x with
  | bl a =>
    cases (show v = Value.bool a from rx)
    exact is_bool ⟨.bl _, H, I, rfl, by cases a <;> cases b <;> simpa using q⟩
  | non => cases rx; exact wpAny_pure ⟨.bl false, H, I, rfl, by simpa using q⟩
  | ref a => cases rx; exact wpAny_pure ⟨.bl false, H, I, rfl, by simpa using q⟩
  | ty n => cases rx; exact wpAny_pure ⟨.bl false, H, I, rfl, by simpa using q⟩
  | int i => obtain ⟨t, rfl⟩ := rx; exact wpAny_pure ⟨.bl false, H, I, rfl, by simpa using q⟩
  | str i => obtain ⟨t, rfl⟩ := rx; exact wpAny_pure ⟨.bl false, H, I, rfl, by simpa using q⟩
  | byt i => obtain ⟨t, rfl⟩ := rx; exact wpAny_pure ⟨.bl false, H, I, rfl, by simpa using q⟩
  | flt i => obtain ⟨t, rfl⟩ := rx; exact wpAny_pure ⟨.bl false, H, I, rfl, by simpa using q⟩
/-- this truth value -/
def blB (d : PyData) (b : Bool) : Bool := match d with
  | .bool a => decide (a = b)
  | _ => false
section
variable {K : PySem.W.Frag} {G : Gm} {ta : TE} {d : PyData} {b : Bool}
theorem dq_bl {B : Hp} {v : V} (p : Dq B v d) : decide (v = .bl b) = blB d b := by
  cases p with
  | bl a => cases a <;> cases b <;> rfl
  | _ => rfl
theorem sv_notBl (ha : Sv ta G (isD d)) : Sv (tOp rNotBl ta (tC (.bl b))) G (isD (.bool (!blB d b))) := fun M0 σ B M H Q q => ha M0 σ B M H _ fun v B' e dj p => ⟨b, rfl, by
  rw [dq_bl p]
  exact q _ B' e dj (.bl _)⟩
theorem sv_isBl2 (ha : Sv ta G (isD d)) : Sv (tOp rIsBl2 ta (tC (.bl b))) G (isD (.bool (blB d b))) := fun M0 σ B M H Q q => ha M0 σ B M H _ fun v B' e dj p => ⟨b, rfl, by
  rw [dq_bl p]
  exact q _ B' e dj (.bl _)⟩
end
end Mini

namespace Mini
open PySem L2 Evl PyProof.Rows
/-! ### a, b, .. = values, new lists, .. through a tuple -/
inductive Pend : List (Ty ⊕ List PyData) → List V → Hp → Hp → Hp → Prop where
  | nil {B M} : Pend [] [] B M M
  | im {P ks v vs B M M'} : P.p v B → Pend ks vs B M M' → Pend (.inl P :: ks) (v :: vs) B M M'
  | nl {ds ks p us vs B M M'} : M p = none → DqAll B us ds → Pend ks vs B (upd M p (.lst us)) M' → Pend (.inr ds :: ks) (.ref p :: vs) B M M'
theorem Pend.len {ks vs B M M'} (h : Pend ks vs B M M') : vs.length = ks.length := by
  induction h with
  | nil => rfl
  | im _ _ ih => simp [ih]
  | nl _ _ _ ih => simp [ih]
theorem Pend.ex {ks vs B M M'} (h : Pend ks vs B M M') : Ex M M' := by
  induction h with
  | nil => exact Ex.refl _
  | im _ _ ih => exact ih
  | nl hp _ _ ih => exact (Ex.new hp).trans ih
theorem Pend.ext {ks vs B B' M M'} (h : Pend ks vs B M M') (e : Ex B B') : Pend ks vs B' M M' := by
  induction h with
  | nil => exact .nil
  | im a _ ih => exact .im (Ty.mono _ e a) (ih e)
  | nl hp a _ ih => exact .nl hp (DqAll_ex e a) (ih e)
def Sn (ta : TA) (G : Gm) (ks : List (Ty ⊕ List PyData)) : Prop := ∀ (M0 : Hp) (σ : L2.St) (B M : Hp), Holds M0 G σ B M → ∀ Q : List V → Hp → Prop, (∀ vs B' M', Ex B B' → Dj B' M' → Pend ks vs B' M M' → Q vs (jn B' M')) → ta σ (jn B M) Q
def kSl : Ty ⊕ List PyData → Sl
  | .inl P => .im P
  | .inr ds => .ow (isL ds)
def setAll (G : Gm) : List Nat → List (Ty ⊕ List PyData) → Gm
  | i :: is, k :: ks => setAll (G.set i (kSl k)) is ks
  | _, _ => G
def setSt (σ : L2.St) : List Nat → List V → L2.St
  | i :: is, v :: vs => setSt (σ.set i (some v)) is vs
  | _, _ => σ
def gNames : List Nat → TGs
  | [] => gNil
  | i :: is => gCons (gName i) (gNames is)
section
variable {K : PySem.W.Frag} {E : L2.St → XK} {G : Gm} {te ta tb tc : TE} {tr : TA} {P P' : Ty} {ds : List PyData} {ks : List (Ty ⊕ List PyData)}
theorem sn_nil : Sn tNil G [] := fun M0 σ B M H Q q => q [] B M (Ex.refl B) H.dj .nil
theorem sn_im (h : Sv te G P) (hr : Sn tr G ks) : Sn (tCons te tr) G (.inl P :: ks) := fun M0 σ B M H Q q =>
  h M0 σ B M H _ fun v B1 e1 d1 p1 => hr M0 σ B1 M (H.ext e1 d1) _ fun vs B2 M2 e2 d2 p2 => q _ B2 M2 (e1.trans e2) d2 (.im (P.mono e2 p1) p2)
theorem sn_nl (h : Svl te G ds) (hr : Sn tr G ks) : Sn (tCons te tr) G (.inr ds :: ks) := fun M0 σ B M H Q q =>
  h M0 σ B M H _ fun p us B1 e1 d1 hf ha => by
    rw [upd_own]
    exact hr M0 σ B1 _ ((H.ext e1 d1).more hf) _ fun vs B2 M2 e2 d2 p2 => q _ B2 M2 (e1.trans e2) d2 (.nl (jn_free hf).2 (DqAll_ex e2 ha) p2)
theorem setAll_len : ∀ {is : List Nat} {ks : List (Ty ⊕ List PyData)} {G : Gm}, (setAll G is ks).length = G.length
  | [], [], _ => rfl
  | [], _ :: _, _ => rfl
  | _ :: _, [], _ => rfl
  | i :: is, k :: ks, G => by rw [setAll, setAll_len, List.length_set]
theorem holds_set {M0 : Hp} : ∀ {is : List Nat} {ks : List (Ty ⊕ List PyData)} {vs : List V} {G : Gm} {σ : L2.St} {B M M' : Hp}, Holds M0 G σ B M → Dj B M' → Pend ks vs B M M' → is.length = ks.length → (∀ i ∈ is, i < G.length) → Holds M0 (setAll G is ks) (setSt σ is vs) B M'
  | [], [], _, G, σ, B, M, M', H, d, h, _, _ => by cases h; exact H
  | [], _ :: _, _, _, _, _, _, _, _, _, _, e, _ => by simp at e
  | _ :: _, [], _, _, _, _, _, _, _, _, _, e, _ => by simp at e
  | i :: is, k :: ks, _, G, σ, B, M, M', H, d, h, e, hl => by
    have hi := hl i (List.mem_cons_self ..)
    have hl' : ∀ S : Sl, ∀ j ∈ is, j < (G.set i S).length := fun S j hj => by rw [List.length_set]; exact hl j (List.mem_cons_of_mem _ hj)
    have e' : is.length = ks.length := by simpa using e
    cases h with
    | @im P _ v vs _ _ _ a h =>
      have h2 := H.setIm hi a
      exact holds_set (is := is) h2 d h e' (hl' _)
    | @nl ds _ p us vs _ _ _ hp a h =>
      have hB := dj_free d (h.ex _ _ upd_same)
      have h2 := H.setOw (R := isL ds) hi (by rw [jn_N hp]; exact hB : jn B M p = none) ⟨us, rfl, a⟩
      exact holds_set (is := is) h2 d h e' (hl' _)
theorem gNames_run {Q : L2.St → Hp → Prop} {H : Hp} : ∀ {is : List Nat} {vs : List V} {σ : L2.St}, is.length = vs.length → Q (setSt σ is vs) H → gNames is vs σ H Q
  | [], [], _, _, q => ⟨rfl, q⟩
  | [], _ :: _, _, e, _ => by simp at e
  | _ :: _, [], _, e, _ => by simp at e
  | i :: is, v :: vs, σ, e, q => ⟨v, vs, rfl, gNames_run (is := is) (by simpa using e) q⟩
theorem ss_tupN (is : List Nat) (h : Sn tr G ks) (hn : is.length = ks.length := by rfl) (hl : ∀ i ∈ is, i < G.length := by exact of_decide_eq_true rfl) (hk : ks.length ≤ 100 := by exact Nat.le_of_ble_eq_true rfl) :
    Ss E (tAsg (tTup tr) (gTup K ks.length (gNames is))) G (.nx (setAll G is ks)) := fun M0 D σ B M H q =>
  h M0 σ B M H _ fun vs B1 M1 e1 d1 p1 => by
    have hlen := p1.len
    refine ⟨by have : (sizeLine : Nat) = 16777216 := sizeLine_eq; omega, fun t ht => ?_⟩
    have dM : Dj B1 M := fun a u z => by
      have w := d1 a u z
      cases hm : M a with
      | none => rfl
      | some o => rw [p1.ex a o hm] at w; cases w
    have K1 := holds_set (H.ext e1 dM) d1 p1 hn hl
    rw [upd_new ht]
    refine ⟨t, vs, rfl, st_of (jn_B (dj_new d1 ht) upd_same), hlen, gNames_run (by omega) ?_⟩
    exact q _ _ _ (e1.trans (ex_new ht)) (K1.ext (ex_new ht) (dj_new d1 ht))
/-- xs[m], a, b = three values: the list's item first -/
theorem ss_tupSet {n i j : Nat} {ix : Int} {k : Nat} {d : PyData} {tm : TE} (h : G[n]? = some (.ow (isL ds))) (ha : Sv ta G (isD d)) (hb : Sv tb G P) (hc : Sv tc G P') (hm : ∀ {M0 : Hp} {σ : L2.St} {B M : Hp}, Holds M0 G σ B M → ∀ Q : VK, Q (.int ix) (jn B M) → tm σ (jn B M) Q) (hk : ixN ds.length ix = some k) (hi : i < G.length := by exact Nat.le_of_ble_eq_true rfl) (hj : j < G.length := by exact Nat.le_of_ble_eq_true rfl) :
    Ss E (tAsg (tTup (tCons ta (tCons tb (tCons tc tNil)))) (gTup K 3 (gCons (gSub (tVar n) tm rSetL) (gCons (gName i) (gCons (gName j) gNil))))) G (.nx (((G.set n (.ow (isL (ds.set k d)))).set i (.im P)).set j (.im P'))) := fun M0 D σ B M H q =>
  ha M0 σ B M H _ fun x B1 e1 d1 p1 => hb M0 σ B1 M (H.ext e1 d1) _ fun y B2 e2 d2 p2 => hc M0 σ B2 M ((H.ext e1 d1).ext e2 d2) _ fun z B3 e3 d3 p3 => by
    refine ⟨by show 3 ≤ sizeLine; decide, fun t ht => ?_⟩
    rw [upd_new ht]
    have e4 := e1.trans (e2.trans (e3.trans (ex_new (o := .tup [x, y, z]) ht)))
    have d4 := dj_new (o := .tup [x, y, z]) d3 ht
    have H4 := H.ext e4 d4
    refine ⟨t, _, rfl, st_of (jn_B d4 upd_same), rfl, _, _, rfl, ?_⟩
    obtain ⟨l, ob, a, c, ⟨vs, rfl, r⟩, f⟩ := H4.ow n _ h
    refine ⟨.ref l, a, hm H4 _ ⟨l, vs, ix, k, rfl, rfl, jn_M c, by rw [DqAll_len r]; exact hk, ?_⟩⟩
    refine ⟨_, _, rfl, _, _, rfl, rfl, ?_⟩
    rw [upd_own]
    have e34 := e3.trans (ex_new (o := .tup [x, y, z]) ht)
    have p1' := Dq_ex (e2.trans e34) d x p1
    exact q _ _ _ e4 (((H4.change h a c (R' := isL (ds.set k d)) ⟨_, rfl, DqAll_set p1' k r⟩).setIm (P := P) (by rw [List.length_set]; exact hi) (P.mono e34 p2)).setIm (P := P') (by rw [List.length_set, List.length_set]; exact hj) (P'.mono (ex_new ht) p3))
theorem at_var {n : Nat} {i : Int} (h : G[n]? = some (.im (isD (.int i)))) : ∀ {M0 : Hp} {σ : L2.St} {B M : Hp}, Holds M0 G σ B M → ∀ Q : VK, Q (.int i) (jn B M) → tVar n σ (jn B M) Q := fun {M0 σ B M} H Q q => by
  obtain ⟨v, a, b⟩ := H.im n _ h
  rw [dp_int b] at a
  exact ⟨_, a, q⟩
/-! what raises within a display, an argument -/
theorem sb_lst {C : Addr} (h : Sb te G E C) : Sb (tLst (tCons te tr)) G E C := fun M0 σ B M H Q q => h M0 σ B M H _ q
theorem sb_tup {C : Addr} (h : Sb te G E C) : Sb (tTup (tCons te tr)) G E C := fun M0 σ B M H Q q => h M0 σ B M H _ q
end
end Mini

namespace Mini
open PySem L2 Evl PyProof.Rows
/-! ### a tuple times a number that is below 0 -/
theorem tuple_mulN (l : Addr) (items : Array Value) (n : Nat) (dd : Option Addr) (sl : Array (Option Value)) (x : Int) (u : Tok) (hne : items.isEmpty = false) (c0 : (decide (x < -(2 ^ 63)) || decide (x ≥ 2 ^ 63)) = false) (hx : x < 0) :
    Meets (Builtin.«tuple.__mul__» ⟨[.ref l, .int x u], []⟩) (fun _ R s => s.heap.get? l = some { cls := .type "tuple", dict := dd, data := .seq items n, slots := sl } ∧
      R (.ok (.ret (Value.ref s.heap.objs.size))) { s with heap := s.heap.push { cls := Value.type "tuple", data := Data.seq #[] }, toks := s.toks }) :=
  .of_wp fun prog w A R s h => by
    obtain ⟨hp, g, d, tk, os⟩ := s
    obtain ⟨hl, h⟩ := h
    have f1 := AutoSeq1.idx_int
    have c1 : (items.isEmpty || x == 1) = false := by rw [hne, Bool.false_or]; exact beq_eq_false_iff_ne.mpr (by omega)
    have c2 : (decide (x ≤ 0) || items.isEmpty) = true := by rw [decide_eq_true (by omega)]; rfl
    wp_walk using wpAny_loadPart' hl
    repeat (first
      | (refine wpAny_ite_false (decide_eq_false (by rw [c0]; exact Bool.false_ne_true)) ?_; wp_walk using wpAny_loadPart' hl)
      | (refine wpAny_ite_false (decide_eq_false (by rw [c1]; exact Bool.false_ne_true)) ?_; wp_walk using wpAny_loadPart' hl)
      | (refine wpAny_ite_true (decide_eq_true c2) ?_; wp_walk using wpAny_loadPart' hl))
    exact ⟨_, rfl, h⟩
section
variable {X : Cx}
def rRepN (K : PySem.W.Frag) : R2 := fun x y H Q => ∃ l xs k, x = .ref l ∧ y = .int k ∧ SqT K H l xs ∧ xs ≠ [] ∧ k < 0 ∧ -(2 ^ 63) ≤ k ∧ ∀ p, H p = none → Q (.ref p) (upd H p (.tup []))
theorem op_repN : OpR X (binaryOp .Mult) (rRepN X.K) := by
  intro pins s σ H x y v u Q I rx ry h
  obtain ⟨l, xs, k, e1, e2, hT, hne, hk, hk2, q⟩ := h
  subst e1 e2
  cases rx
  obtain ⟨t, rfl⟩ := ry
  obtain ⟨its, r, ⟨⟨cls, dd, data, sl⟩, ho, hc, n, hd⟩, hs⟩ := I.tuple hT
  simp only at hc hd
  subst hc hd
  have hi : its.toArray.isEmpty = false := by
    cases its with
    | nil => exact absurd (List.length_eq_zero_iff.mp r.length) hne
    | cons a b => rfl
  have a0 : (decide (k < -(2 ^ 63)) || decide (k ≥ 2 ^ 63)) = false := by
    rw [decide_eq_false (by omega), decide_eq_false (by omega)]; rfl
  refine wpAny_binaryOp_repeat_ref (T := "tuple") (U := "int") (by decide) ⟨_, ho, rfl⟩ (fun s' => typeIs_int s' k t) noFill_tuple_mul F.fills_int_mul F.slot_int_rmul repeat_tuple F.slot_int_index.lookup ?_
  refine call_meets F.slot_int_rmul (typeIs_int s k t) F.entry_int_rmul (F.args_int_rmul_2 _ _) (int_rmul_tuple k t l its.toArray n dd sl) ⟨ho, rfl, ⟨_, ho, rfl⟩, ?_⟩
  refine call_meets F.slot_tuple_mul ⟨_, ho, rfl⟩ F.entry_tuple_mul (F.args_tuple_mul_2 _ _) (tuple_mulN l its.toArray n dd sl k t hi a0 hk) ⟨ho, ?_⟩
  refine ⟨.ref s.heap.objs.size, _, I.laid (t' := s.toks) (o := .tup []) (fun b ob q => Heap.get?_push_of_some _ q) (Nat.le_refl _) ?_, rfl, q _ (I.hok.fresh (Nat.le_refl _))⟩
  exact ⟨Nat.zero_le _, [], .nil, IsTup.new _ _⟩
def uMul3 (K : PySem.W.Frag) : R2 := fun x y H Q => uMul2 K x y H Q ∨ rRepN K x y H Q
theorem op_uMul3 : OpR X (binaryOp .Mult) (uMul3 X.K) := OpR.or op_uMul2 op_repN
end
section
variable {K : PySem.W.Frag} {G : Gm} {ta tb : TE} {ds : List PyData} {i j : Int}
theorem sv_repT3 (ha : Sv ta G (isD (.tuple ds))) (hb : Sv tb G (isD (.int i))) (hn : ds ≠ []) (h0 : -(2 ^ 63) ≤ i) (hz : (ds.length : Int) * i ≤ 1000000) : Sv (tOp (uMul3 K) ta tb) G (isD (.tuple (List.replicate i.toNat ds).flatten)) := by
  by_cases h2 : 0 ≤ i
  · by_cases h3 : 2 ≤ i
    · refine sv_op ha hb (r := uMul3 K) (rv_or1 (rv_or1 ?_))
      intro B M x y dj p1 p2 Q q
      obtain ⟨a, vs, rfl, h1, h3'⟩ := dq_tup p1
      have hne : vs ≠ [] := by intro z; subst z; cases h3'; exact hn rfl
      rw [dp_int p2]
      refine .inr (.inr ⟨a, i, vs, rfl, rfl, st_of (jn_B dj h1), hne, h3, by rw [DqAll_len h3']; exact hz, fun p hp => ?_⟩)
      rw [upd_new hp]
      exact q _ _ (ex_new hp) (dj_new dj hp) (.tup upd_same (DqAll_ex (ex_new hp) (DqAll_rep h3' _)))
    · refine sv_op ha hb (r := uMul3 K) (rv_or1 (rv_or2 ?_))
      intro B M x y dj p1 p2 Q q
      obtain ⟨a, vs, rfl, h1, h3'⟩ := dq_tup p1
      have hne : vs ≠ [] := by intro z; subst z; cases h3'; exact hn rfl
      rw [dp_int p2]
      have hi : i = 1 ∨ i = 0 := by omega
      refine ⟨a, vs, rfl, st_of (jn_B dj h1), hne, ?_⟩
      rcases hi with rfl | rfl
      · refine .inl ⟨rfl, q _ B (Ex.refl B) dj (.tup h1 ?_)⟩
        simpa using h3'
      · refine .inr ⟨rfl, fun p hp => ?_⟩
        rw [upd_new hp]
        exact q _ _ (ex_new hp) (dj_new dj hp) (.tup upd_same .nil)
  · refine sv_op ha hb (r := uMul3 K) (rv_or2 ?_)
    intro B M x y dj p1 p2 Q q
    obtain ⟨a, vs, rfl, h1, h3⟩ := dq_tup p1
    have hne : vs ≠ [] := by intro z; subst z; cases h3; exact hn rfl
    rw [dp_int p2]
    refine ⟨a, vs, i, rfl, rfl, st_of (jn_B dj h1), hne, by omega, h0, fun p hp => ?_⟩
    rw [show i.toNat = 0 by omega] at q
    rw [upd_new hp]
    exact q _ _ (ex_new hp) (dj_new dj hp) (.tup upd_same .nil)
theorem sv_mul3 (ha : Sv ta G (isD (.int i))) (hb : Sv tb G (isD (.int j))) (hc : CMul i j) : Sv (tOp (uMul3 K) ta tb) G (isD (.int (i * j))) := sv_op ha hb (rv_or1 (rv_or1 (rv_or1 (rv_I hc))))
theorem svl_rep3 (ha : Rl ta G ds) (hb : Sv tb G (isD (.int i))) (h0 : -(2 ^ 63) ≤ i) (h1 : i < 2 ^ 63) (hz : ds.length * i.toNat ≤ sizeLine) : Svl (tOp (uMul3 K) ta tb) G (List.replicate i.toNat ds).flatten := fun M0 σ B M H Q q =>
  ha M0 σ B M H _ fun a vs B1 e1 d1 hh q1 => hb M0 σ B1 M (H.ext e1 d1) _ fun y B2 e2 d2 p2 => by
    rw [dp_int p2]
    exact .inl (.inl (.inr (.inl ⟨a, i, vs, rfl, rfl, jn_mono e2 d2 _ _ hh, h0, h1, by rw [DqAll_len q1]; exact hz, fun p hp => q p _ B2 (e1.trans e2) d2 hp (DqAll_rep (DqAll_ex e2 q1) _)⟩)))
end
end Mini

namespace Mini
open PySem L2 Evl PyProof.Rows
def noneB (d : PyData) : Bool := match d with
  | .none => true
  | _ => false
theorem sv_isNb {ta : TE} {G : Gm} {d : PyData} (ha : Sv ta G (isD d)) : Sv (tOp (fun x y H Q => y = .non ∧ Q (.bl (decide (x = .non))) H) ta (tC .non)) G (isD (.bool (noneB d))) := by
  cases d <;> exact sv_isN ha
theorem sv_notNb {ta : TE} {G : Gm} {d : PyData} (ha : Sv ta G (isD d)) : Sv (tOp (fun x y H Q => y = .non ∧ Q (.bl (!decide (x = .non))) H) ta (tC .non)) G (isD (.bool (!noneB d))) := by
  cases d <;> exact sv_notN ha
end Mini

namespace Mini
open PySem L2 Evl PyProof.Rows
section
variable {K : PySem.W.Frag} {E : L2.St → XK} {G : Gm} {ds : List PyData} {n : Nat}
/-- xs.reverse(), xs one's own -/
theorem ss_reverse (h : G[n]? = some (.ow (isL ds))) : Ss E (tDrop (tBM0 K "list" rReverse (tVar n))) G (.nx (G.set n (.ow (isL ds.reverse)))) := fun M0 D σ B M H q => by
  obtain ⟨l, ob, a, c, ⟨vs, rfl, r⟩, f⟩ := H.ow n _ h
  refine ⟨.ref l, a, Or.inl ⟨rfl, vs, sq_of (jn_M c)⟩, ?_⟩
  refine ⟨l, vs, rfl, rfl, jn_M c, ?_⟩
  rw [upd_own]
  exact q σ B _ (Ex.refl B) (H.change h a c ⟨_, rfl, DqAll_rev r⟩)
end
/-- a step that is no more -/
theorem itS_stop {S : Type} {f : S → Option S} {s : S} {N : Nat} (h : f (itS f s N) = none) : ∀ j, itS f s (N + j) = itS f s N
  | 0 => rfl
  | j + 1 => by
    show (match f (itS f s (N + j)) with | some s' => s' | none => itS f s (N + j)) = _
    rw [itS_stop h j, h]
end Mini

namespace Mini
open PySem L2 Evl PyProof.Rows
/-! ### targets of loops and comprehensions: names, tuples of targets -/
theorem wipe_set {j : Nat} {x : Option V} : ∀ {vs : List Nat} {σ : L2.St}, j ∈ vs → L2.wipe (σ.set j x) vs = L2.wipe σ vs
  | [], _, h => absurd h (List.not_mem_nil)
  | v :: vs, σ, h => by
    show (L2.wipe (σ.set j x) vs).set v none = (L2.wipe σ vs).set v none
    have step : ∀ (vs : List Nat) (σ : L2.St), ¬ j ∈ vs → L2.wipe (σ.set j x) vs = (L2.wipe σ vs).set j x := fun vs => by
      induction vs with
      | nil => intro σ _; rfl
      | cons w ws ih =>
        intro σ hn
        show (L2.wipe (σ.set j x) ws).set w none = ((L2.wipe σ ws).set w none).set j x
        rw [ih σ (fun z => hn (List.mem_cons_of_mem _ z)), List.set_comm _ _ (fun z => hn (by rw [z]; exact List.mem_cons_self ..))]
    by_cases h1 : j ∈ vs
    · rw [wipe_set h1]
    · have e : j = v := by rcases List.mem_cons.mp h with e | e; exact e; exact absurd e h1
      rw [step vs σ h1, e, List.set_set]
theorem wipeG_len : ∀ (G : Gm) (vs : List Nat), (wipeG G vs).length = G.length
  | _, [] => rfl
  | G, v :: vs => by show ((wipeG G vs).set v .no).length = _; rw [List.length_set, wipeG_len G vs]
def Tg (N : Nat) (js : List Nat) (g : TG) (P : Ty) (f : Gm → Gm) : Prop := ∀ (M0 : Hp) (G : Gm) (σ : L2.St) (B M : Hp) (v : V), G.length = N → Holds M0 G σ B M → P.p v B → ∀ Q : L2.St → Hp → Prop,
  (∀ σ', (∀ vs : List Nat, (∀ j ∈ js, j ∈ vs) → L2.wipe σ' vs = L2.wipe σ vs) → Holds M0 (f G) σ' B M → Q σ' (jn B M)) → g v σ (jn B M) Q
section
variable {K : PySem.W.Frag} {E : L2.St → XK} {tu ts : TS} {te tl ta tb : TE} {tt : TT} {G : Gm} {o : Out} {ds es : List PyData} {j l N n : Nat} {P : Ty} {g g1 g2 g3 : TG} {js js1 js2 js3 : List Nat} {f f1 f2 f3 : Gm → Gm} {d1 d2 d3 : PyData} {P1 P2 P3 : Ty}
theorem tg_name (hj : j < N) : Tg N [j] (gName j) P (fun G => G.set j (.im P)) := fun M0 G σ B M v hl H p Q q => q _ (fun vs h => wipe_set (h j (List.mem_cons_self ..))) (H.setIm (by rw [hl]; exact hj) p)
theorem tg_tup2 (h1 : Tg N js1 g1 (isD d1) f1) (h2 : Tg N js2 g2 (isD d2) f2) (hf : ∀ G : Gm, (f1 G).length = G.length) : Tg N (js1 ++ js2) (gTup K 2 (gCons g1 (gCons g2 gNil))) (isD (.tuple [d1, d2])) (fun G => f2 (f1 G)) := fun M0 G σ B M v hl H p Q q => by
  obtain ⟨a, vs, rfl, hh, q1⟩ := dq_tup p
  cases q1 with
  | cons p1 q1 => cases q1 with
    | cons p2 q1 =>
      cases q1
      refine ⟨a, _, rfl, st_of (jn_B H.dj hh), rfl, _, _, rfl, ?_⟩
      refine h1 M0 G σ B M _ hl H p1 _ fun σ1 w1 H1 => ⟨_, _, rfl, ?_⟩
      refine h2 M0 (f1 G) σ1 B M _ (by rw [hf]; exact hl) H1 p2 _ fun σ2 w2 H2 => ⟨rfl, ?_⟩
      exact q σ2 (fun vs h => (w2 vs fun j hj => h j (List.mem_append.mpr (.inr hj))).trans (w1 vs fun j hj => h j (List.mem_append.mpr (.inl hj)))) H2
theorem tg_tup3 (h1 : Tg N js1 g1 (isD d1) f1) (h2 : Tg N js2 g2 (isD d2) f2) (h3 : Tg N js3 g3 (isD d3) f3) (hf : ∀ G : Gm, (f1 G).length = G.length) (hf2 : ∀ G : Gm, (f2 G).length = G.length) : Tg N (js1 ++ (js2 ++ js3)) (gTup K 3 (gCons g1 (gCons g2 (gCons g3 gNil)))) (isD (.tuple [d1, d2, d3])) (fun G => f3 (f2 (f1 G))) := fun M0 G σ B M v hl H p Q q => by
  obtain ⟨a, vs, rfl, hh, q1⟩ := dq_tup p
  cases q1 with
  | cons p1 q1 => cases q1 with
    | cons p2 q1 => cases q1 with
      | cons p3 q1 =>
        cases q1
        refine ⟨a, _, rfl, st_of (jn_B H.dj hh), rfl, _, _, rfl, ?_⟩
        refine h1 M0 G σ B M _ hl H p1 _ fun σ1 w1 H1 => ⟨_, _, rfl, ?_⟩
        refine h2 M0 (f1 G) σ1 B M _ (by rw [hf]; exact hl) H1 p2 _ fun σ2 w2 H2 => ⟨_, _, rfl, ?_⟩
        refine h3 M0 (f2 (f1 G)) σ2 B M _ (by rw [hf2, hf]; exact hl) H2 p3 _ fun σ3 w3 H3 => ⟨rfl, ?_⟩
        exact q σ3 (fun vs h => ((w3 vs fun j hj => h j (List.mem_append.mpr (.inr (List.mem_append.mpr (.inr hj))))).trans (w2 vs fun j hj => h j (List.mem_append.mpr (.inr (List.mem_append.mpr (.inl hj)))))).trans (w1 vs fun j hj => h j (List.mem_append.mpr (.inl hj)))) H3
/-- over a list that stays, any target -/
theorem ss_forLg (h : Sv tl G (isD (.list ds))) (fd : PyData → Gm → Gm) (Gi : Nat → Gm) (N : Nat) (hN : N ≤ ds.length) (h0 : Le G (Gi 0)) (hj : ∀ i, i ≤ N → (Gi i).length = n) (hg : ∀ d ∈ ds, Tg n js g (isD d) (fd d))
    (hs : ∀ i d, ds[i]? = some d → i < N → Turn E tu (fd d (Gi i)) (Gi (i + 1))) (hd : EndsAs E tu Gi (fun i => fd (ds.getD i .none) (Gi i)) N ds.length o) :
    Ss E (tFor (iList K tl) g tu) G o := fun M0 D σ B M H q =>
  h M0 σ B M H _ fun v B1 e1 dd1 p1 => by
    obtain ⟨a, vs, rfl, ha, hv⟩ := dq_lst p1
    have hlen := DqAll_len hv
    refine ⟨a, rfl, ⟨vs, sq_of (jn_B dd1 ha)⟩, ?_⟩
    have wide : ∀ i σ' H', Pvl M0 B1 Gi N i σ' H' → SqL K H' a vs := fun i σ' H' p => by
      obtain ⟨_, B', M', rfl, e, H'⟩ := p
      exact sq_of (jn_B H'.dj (e _ _ ha))
    refine for_list (xs := vs) (Pvl M0 B1 Gi N) ⟨Nat.zero_le _, B1, M, rfl, Ex.refl B1, (H.ext e1 dd1).le h0⟩ (fun i σ' H' _ p => wide i σ' H' p) (fun i x σ' H' hx p => ?_) (fun σ' H' p => ?_)
    · obtain ⟨hiN, B', M', rfl, e, H'⟩ := p
      obtain ⟨d, hd1, px⟩ := DqAll_getV hv hx
      refine hg d (List.mem_of_getElem? hd1) M0 (Gi i) σ' B' M' x (hj i hiN) H' (Dq_ex e d x px) _ fun σ2 _ H2 => ?_
      refine turn_ok (o := o) hiN H2 e (fun l => hs i d hd1 l) (fun l => ?_) (q.ext e1)
      rcases hd with ⟨b, _⟩ | ⟨_, b⟩
      · have := (List.getElem?_eq_some_iff.mp hx).1; omega
      · have z : ds.getD N .none = d := by rw [← l, List.getD_eq_getElem?_getD, hd1]; rfl
        dsimp only at b
        rw [z, ← l] at b
        exact b
    · obtain ⟨hiN, B', M', rfl, e, H'⟩ := p
      rcases hd with ⟨b, c⟩ | ⟨b, _⟩
      · rw [c] at q
        rw [hlen, ← b] at H'
        exact q σ' B' M' (e1.trans e) H'
      · omega
/-- for i, target in enumerate(a list that stays) -/
theorem ss_forEg (h : Sv tl G (isD (.list ds))) (fd : PyData → Gm → Gm) (Gi : Nat → Gm) (N : Nat) (hN : N ≤ ds.length) (h0 : Le G (Gi 0)) (hn : ∀ i, i ≤ N → (Gi i).length = n) (hj : j < n) (hg : ∀ d ∈ ds, Tg n js g (isD d) (fd d))
    (hs : ∀ i d, ds[i]? = some d → i < N → Turn E tu (fd d ((Gi i).set j (.im (isD (.int (i : Int)))))) (Gi (i + 1)))
    (hd : EndsAs E tu Gi (fun i => fd (ds.getD i .none) ((Gi i).set j (.im (isD (.int (i : Int)))))) N ds.length o) :
    Ss E (tFor (iEnum K (tCons tl tNil)) (gTup K 2 (gCons (gName j) (gCons g gNil))) tu) G o := fun M0 D σ B M H q =>
  h M0 σ B M H _ fun v B1 e1 d1 p1 => by
    obtain ⟨a, vs, rfl, ha, hv⟩ := dq_lst p1
    have hlen := DqAll_len hv
    refine ⟨a, vs, rfl, sq_of (jn_B d1 ha), ?_⟩
    refine ⟨fun i m σ H => m = vs.length - i ∧ i ≤ vs.length ∧ Pvl M0 B1 Gi N i σ H, ⟨vs.length, by simp, Nat.zero_le _, Nat.zero_le _, B1, M, rfl, Ex.refl B1, (H.ext e1 d1).le h0⟩, ?_⟩
    rintro i m σ' H1 ⟨rfl, hi, p⟩
    obtain ⟨hiN, B', M', rfl, e, H'⟩ := p
    have hS : SqL K (jn B' M') a vs := sq_of (jn_B H'.dj (e _ _ ha))
    by_cases hlt : i < vs.length
    · refine .inr ⟨⟨vs, vs[i], hS, List.getElem?_eq_getElem hlt⟩, Pvl M0 B1 Gi N (i + 1), fun σ' H' p' => ⟨vs.length - (i + 1), by omega, rfl, hlt, p'⟩, fun x H2 y => ?_⟩
      obtain ⟨t, x, rfl, ht, rfl, hx⟩ := y
      obtain ⟨d, hd1, px⟩ := DqAll_getV hv (hx vs hS)
      rw [upd_new ht]
      have dj2 := dj_new (o := .tup [.int (i : Nat), x]) H'.dj ht
      have ex2 := ex_new (o := .tup [.int (i : Nat), x]) ht
      refine ⟨t, _, rfl, st_of (jn_B dj2 upd_same), rfl, _, _, rfl, _, _, rfl, ?_⟩
      have H3 := (H'.ext ex2 dj2).setIm (by rw [hn i hiN]; exact hj : j < (Gi i).length) (P := isD (.int (i : Int))) (v := .int (i : Int)) (Dq.int _)
      refine hg d (List.mem_of_getElem? hd1) M0 _ _ _ M' x (by rw [List.length_set]; exact hn i hiN) H3 (Dq_ex (e.trans ex2) d x px) _ fun σ2 _ HH => ⟨rfl, ?_⟩
      refine turn_ok (o := o) hiN HH (e.trans ex2) (fun w => hs i d hd1 w) (fun w => ?_) (q.ext e1)
      rcases hd with ⟨b, _⟩ | ⟨_, b⟩
      · omega
      · have z : ds.getD N .none = d := by rw [← w, List.getD_eq_getElem?_getD, hd1]; rfl
        dsimp only at b
        rw [z, ← w] at b
        exact b
    · refine .inl ⟨⟨vs, hS, by omega⟩, ?_⟩
      rcases hd with ⟨b, c⟩ | ⟨b, _⟩
      · rw [c] at q
        have ei : i = N := by omega
        rw [ei] at H'
        exact q σ' B' M' (e1.trans e) H'
      · omega
/-! comprehensions over any target -/
theorem lc_turnG {M0 B M : Hp} {σ : L2.St} {vs : List Nat} {Dl : Addr} {es : Nat → List PyData} {i : Nat} {d y : PyData} {x : V} {b : Bool} {B' : Hp} {acc : List V} (H : Holds M0 G σ B M) (hM : M Dl = none) (e : Ex B B') (dj : Dj B' (upd M Dl (.lst acc))) (ha : DqAll B' acc (es i)) (hz : (es i).length < sizeLine)
    (hx : Dq B' x d) (hg : Tg G.length js g (isD d) f) (hjs : ∀ j ∈ js, j ∈ vs) (ht : St' tt (f (wipeG G vs)) b) (he : b = true → Sv te (f (wipeG G vs)) (isD y)) (hs : es (i + 1) = if b then es i ++ [y] else es i) :
    g x (L2.wipe σ vs) (jn B' (upd M Dl (.lst acc))) fun σ2 H2 => L2.wipe σ2 vs = L2.wipe σ vs ∧ tt σ2 H2 fun b H3 =>
      if b = true then te σ2 H3 fun y H4 => ∃ acc, H4 Dl = some (.lst acc) ∧ acc.length < sizeLine ∧ Pvc B M Dl es (i + 1) (upd H4 Dl (.lst (acc ++ [y]))) else Pvc B M Dl es (i + 1) H3 := by
  have hB' : B' Dl = none := dj_free dj upd_same
  have djM : Dj B' M := fun a u q => by
    have := dj a u q
    by_cases z : a = Dl
    · rw [z]; exact hM
    · rw [upd_ne z] at this; exact this
  have h1 := ((H.ext e djM).wipes vs).more (p := Dl) (o := .lst acc) (show jn B' M Dl = none by rw [jn_N hM]; exact hB')
  refine hg M0 _ _ _ _ x (wipeG_len G vs) h1 hx _ fun σ2 w2 H2 => ?_
  have ww : ∀ (vs : List Nat) (σ : L2.St), L2.wipe (L2.wipe σ vs) vs = L2.wipe σ vs := fun vs => by
    induction vs with
    | nil => intro σ; rfl
    | cons v vs ih =>
      intro σ
      show (L2.wipe ((L2.wipe σ vs).set v none) vs).set v none = (L2.wipe σ vs).set v none
      by_cases hv : v ∈ vs
      · rw [wipe_set hv, ih]
      · have st : ∀ (ws : List Nat) (σ : L2.St), ¬ v ∈ ws → L2.wipe (σ.set v none) ws = (L2.wipe σ ws).set v none := fun ws => by
          induction ws with
          | nil => intro σ _; rfl
          | cons w ws ih2 =>
            intro σ hn
            show (L2.wipe (σ.set v none) ws).set w none = ((L2.wipe σ ws).set w none).set v none
            rw [ih2 σ (fun z => hn (List.mem_cons_of_mem _ z)), List.set_comm _ _ (fun z => hn (by rw [z]; exact List.mem_cons_self ..))]
        rw [st vs _ hv, ih, List.set_set]
  refine ⟨by rw [w2 vs hjs]; exact ww vs σ, ?_⟩
  refine ht M0 _ _ _ H2 _ fun B3 e3 d3 => ?_
  cases b with
  | true =>
    rw [if_pos rfl]
    refine he rfl M0 _ _ _ (H2.ext e3 d3) _ fun v B4 e4 d4 p4 => ?_
    refine ⟨acc, jn_M upd_same, by rw [DqAll_len ha]; exact hz, ?_⟩
    rw [upd_own, upd_upd]
    refine ⟨B4, acc ++ [v], rfl, (e.trans e3).trans e4, ?_, ?_⟩
    · intro a u q
      have := d4 a u q
      by_cases z : a = Dl
      · rw [z, upd_same] at this; cases this
      · rw [upd_ne z] at this ⊢; exact this
    · rw [hs, if_pos rfl]
      exact DqAll_append (DqAll_ex (e3.trans e4) ha) (.cons p4 .nil)
  | false =>
    rw [if_neg Bool.false_ne_true]
    refine ⟨B3, acc, rfl, e.trans e3, d3, ?_⟩
    rw [hs, if_neg Bool.false_ne_true]
    exact DqAll_ex e3 ha
theorem take_filter {α β : Type} (b : α → Bool) (y : α → β) (ds : List α) (i : Nat) (d : α) (h : ds[i]? = some d) : ((ds.take (i + 1)).filter b).map y = if b d then ((ds.take i).filter b).map y ++ [y d] else ((ds.take i).filter b).map y := by
  rw [List.take_succ, h, List.filter_append]
  show (_ ++ List.filter b [d]).map y = _
  cases hb : b d with
  | true => rw [List.filter_cons_of_pos hb, List.map_append]; rfl
  | false => rw [List.filter_cons_of_neg (by rw [hb]; simp), List.filter_nil, List.append_nil]; rfl
/-- [y for target in a list if b] -/
theorem svl_lcG {vs : List Nat} (h : Rl tl G ds) (fd : PyData → Gm → Gm) (b : PyData → Bool) (y : PyData → PyData) (hz : ds.length < 10000000) (hg : ∀ d ∈ ds, Tg G.length js g (isD d) (fd d)) (hjs : ∀ j ∈ js, j ∈ vs) (ht : ∀ d ∈ ds, St' tt (fd d (wipeG G vs)) (b d)) (he : ∀ d ∈ ds, b d = true → Sv te (fd d (wipeG G vs)) (isD (y d))) :
    Svl (tLc (iList K tl) g tt te vs) G ((ds.filter b).map y) := fun M0 σ B M H Q q => h M0 σ B M H _ fun a us B1 e1 dd1 hh q1 => by
  have hlen := DqAll_len q1
  let es : Nat → List PyData := fun i => ((ds.take i).filter b).map y
  refine ⟨a, rfl, ⟨us, sq_of hh⟩, fun Dl hD => ?_⟩
  have hM := (jn_free hD).2
  have hl : ∀ i, (es i).length ≤ i := fun i => by
    show (((ds.take i).filter b).map y).length ≤ i
    rw [List.length_map]
    have := List.length_filter_le b (ds.take i)
    rw [List.length_take] at this
    omega
  refine lc_list (xs := us) (Pvc B1 M Dl es) ⟨B1, [], by rw [upd_own], Ex.refl B1, dj_own dd1 (jn_free hD).1, .nil⟩ (fun i H' _ p => ?_) (fun i x H' hx p => ?_) (fun H' p => ?_)
  · obtain ⟨B', acc, rfl, e, dj, _⟩ := p
    refine sq_of ?_
    have hne : a ≠ Dl := fun z => by rw [z, hD] at hh; cases hh
    unfold jn at hh ⊢
    rw [upd_ne hne]
    cases z : M a with
    | some u => rw [z] at hh; exact hh
    | none => rw [z] at hh; exact e _ _ hh
  · obtain ⟨B', acc, rfl, e, dj, ha⟩ := p
    obtain ⟨d, hd, px⟩ := DqAll_getV q1 hx
    have hi := (List.getElem?_eq_some_iff.mp hd).1
    have hm := List.mem_of_getElem? hd
    exact lc_turnG (H.ext e1 dd1) hM e dj ha (by have := hl i; rw [sizeLine_eq]; omega) (Dq_ex e d x px) (hg d hm) hjs (ht d hm) (he d hm) (take_filter b y ds i d hd)
  · rw [hlen] at p
    have ee : es ds.length = (ds.filter b).map y := by show ((ds.take ds.length).filter b).map y = _; rw [List.take_length]
    exact lc_end hM (Ex.refl _) (fun p vs B' e dj hf hv => by rw [ee] at hv; exact q p vs B' (e1.trans e) dj hf hv) H' p
theorem svl_lcGm {vs : List Nat} (h : Rl tl G ds) (fd : PyData → Gm → Gm) (y : PyData → PyData) (hz : ds.length < 10000000) (hg : ∀ d ∈ ds, Tg G.length js g (isD d) (fd d)) (hjs : ∀ j ∈ js, j ∈ vs) (he : ∀ d ∈ ds, Sv te (fd d (wipeG G vs)) (isD (y d))) :
    Svl (tLc (iList K tl) g tYes te vs) G (ds.map y) := by
  have z := svl_lcG (K := K) (vs := vs) h fd (fun _ => true) y hz hg hjs (fun _ _ => st_yes) (fun d hd _ => he d hd)
  rw [List.filter_eq_self.mpr (fun _ _ => rfl)] at z
  exact z
/-- xs.extend(a list), xs one's own -/
theorem ss_extend (h : G[n]? = some (.ow (isL ds))) (he : Rl te G es) (hz : ds.length + es.length ≤ sizeLine) : Ss E (tDrop (tBM K "list" rExtend (tVar n) (tCons te tNil))) G (.nx (G.set n (.ow (isL (ds ++ es))))) := fun M0 D σ B M H q => by
  obtain ⟨l, ob, a, c, ⟨vs, rfl, r⟩, f⟩ := H.ow n _ h
  refine ⟨.ref l, a, Or.inl ⟨rfl, vs, sq_of (jn_M c)⟩, ?_⟩
  refine he M0 σ B M H _ fun b us B' e dj hb hd => ?_
  refine ⟨l, b, vs, us, rfl, rfl, jn_M c, hb, by rw [DqAll_len r, DqAll_len hd]; exact hz, ?_⟩
  rw [upd_own]
  exact q σ B' _ e ((H.ext e dj).change h a c ⟨_, rfl, DqAll_append (DqAll_ex e r) hd⟩)
end
end Mini

namespace Mini
open PySem L2 Evl PyProof.Rows
section
variable {K : PySem.W.Frag} {E : L2.St → XK} {G : Gm} {te ta tb tv : TE} {C : Addr} {n : Nat} {f : Str} {ds : List PyData} {d1 d2 : PyData} {i1 i2 : Int} {k1 k2 : Nat}
/-- self.f = e, and e raises -/
theorem ss_fldBad {to : TE} (h : Sb tv G E C) : Ss E (sFld K to tv f) G (.bad C G) := fun M0 D σ B M H q => h M0 σ B M H _ fun B' e d => q σ B' M e (H.ext e d)
/-- a, b = two values or new lists, side by side -/
theorem ss_parS {ta : TA} {kk1 kk2 : Ty ⊕ List PyData} {i j : Nat} (h : Sn ta G [kk1, kk2]) (hi : i < G.length := by exact Nat.le_of_ble_eq_true rfl) (hj : j < G.length := by exact Nat.le_of_ble_eq_true rfl) : Ss E (tPar i j ta) G (.nx (setAll G [i, j] [kk1, kk2])) := fun M0 D σ B M H q =>
  h M0 σ B M H _ fun vs B1 M1 e1 d1 p1 => by
    have dM : Dj B1 M := fun a u z => by
      have w := d1 a u z
      cases hm : M a with
      | none => rfl
      | some o => rw [p1.ex a o hm] at w; cases w
    have K1 := holds_set (is := [i, j]) (H.ext e1 dM) d1 p1 rfl (fun k hk => by
      rcases List.mem_cons.mp hk with rfl | hk
      · exact hi
      · rcases List.mem_cons.mp hk with rfl | hk
        · exact hj
        · cases hk)
    have hl := p1.len
    match vs, hl with
    | [u, v], _ => exact ⟨u, v, rfl, q _ _ _ e1 K1⟩
/-- an argument raises -/
theorem sb_mkA {D : Addr} {sp : Sp} {tr : TA} (h : Sb te G E C) : Sb (tMk D sp E (tCons te tr)) G E C := fun M0 σ B M H Q q => h M0 σ B M H _ q
/-- xs[i], xs[j] = two values: xs one's own, i and j written -/
theorem ss_tupSet2 (h : G[n]? = some (.ow (isL ds))) (ha : Sv ta G (isD d1)) (hb : Sv tb G (isD d2)) {t1 t2 : TE} (h1 : Sv t1 G (isD (.int i1))) (h2 : ∀ {M0 : Hp} {σ : L2.St} {B M : Hp}, ∀ Q : VK, Q (.int i2) (jn B M) → t2 σ (jn B M) Q) (h1' : ∀ {M0 : Hp} {σ : L2.St} {B M : Hp}, ∀ Q : VK, Q (.int i1) (jn B M) → t1 σ (jn B M) Q) (hk1 : ixN ds.length i1 = some k1) (hk2 : ixN ds.length i2 = some k2) :
    Ss E (tAsg (tTup (tCons ta (tCons tb tNil))) (gTup K 2 (gCons (gSub (tVar n) t1 rSetL) (gCons (gSub (tVar n) t2 rSetL) gNil)))) G (.nx (G.set n (.ow (isL ((ds.set k1 d1).set k2 d2))))) := fun M0 D σ B M H q =>
  ha M0 σ B M H _ fun x B1 e1 dj1 p1 => hb M0 σ B1 M (H.ext e1 dj1) _ fun y B2 e2 dj2 p2 => by
    refine ⟨by show 2 ≤ sizeLine; decide, fun t ht => ?_⟩
    rw [upd_new ht]
    have e4 := e1.trans (e2.trans (ex_new (o := .tup [x, y]) ht))
    have dj4 := dj_new (o := .tup [x, y]) dj2 ht
    have H4 := H.ext e4 dj4
    have ex2 := ex_new (o := .tup [x, y]) ht
    refine ⟨t, _, rfl, st_of (jn_B dj4 upd_same), rfl, _, _, rfl, ?_⟩
    obtain ⟨l, ob, a, c, ⟨vs, rfl, r⟩, fr⟩ := H4.ow n _ h
    refine ⟨.ref l, a, h1' (M0 := M0) (σ := σ) _ ⟨l, vs, i1, k1, rfl, rfl, jn_M c, by rw [DqAll_len r]; exact hk1, ?_⟩⟩
    refine ⟨_, _, rfl, ?_⟩
    rw [upd_own]
    have p1' := Dq_ex (e2.trans ex2) d1 x p1
    have H5 := H4.change h a c (R' := isL (ds.set k1 d1)) ⟨_, rfl, DqAll_set p1' k1 r⟩
    refine ⟨.ref l, a, h2 (M0 := M0) (σ := σ) _ ⟨l, vs.set k1 x, i2, k2, rfl, rfl, jn_M upd_same, by rw [List.length_set, DqAll_len r]; exact hk2, ?_⟩⟩
    refine ⟨rfl, ?_⟩
    rw [upd_own]
    have hn : n < G.length := (List.getElem?_eq_some_iff.mp h).1
    have H6 := H5.change (n := n) (R := isL (ds.set k1 d1)) (R' := isL ((ds.set k1 d1).set k2 d2)) (List.getElem?_set_self hn) a upd_same ⟨_, rfl, DqAll_set (Dq_ex ex2 d2 y p2) k2 (DqAll_set p1' k1 r)⟩
    rw [List.set_set] at H6
    exact q _ _ _ e4 H6
theorem at_int {i : Int} : ∀ {M0 : Hp} {σ : L2.St} {B M : Hp}, ∀ Q : VK, Q (.int i) (jn B M) → tC (.int i) σ (jn B M) Q := fun Q q => q
theorem at_neg {i : Int} : ∀ {M0 : Hp} {σ : L2.St} {B M : Hp}, ∀ Q : VK, Q (.int (-i)) (jn B M) → tUn (rU fun i => .int (-i)) (tC (.int i)) σ (jn B M) Q := fun Q q => ⟨i, rfl, q⟩
end
end Mini

namespace Mini
open PySem L2 Evl PyProof.Rows

/-! ### enumerate of a text -/
def Ites (x : Str) : It := ⟨fun i _ => i < x.cps.size, fun i H v H' => ∃ T c, v = .ref T ∧ H T = none ∧ H' = upd H T (.tup [.int (i : Nat), .str ⟨#[c]⟩]) ∧ x.cps[i]? = some c, fun i _ => x.cps.size ≤ i⟩
theorem turn_enumS {P : Program} {w : World} {K : PySem.W.Frag} {elts : List Expr} {kk : Nat} {tpos : Pos} (x : Str) (t : Tok) (e it : Addr) :
    L2.Turn P w K (.Tuple elts kk tpos) (Ites x) [e, it] e (fun i h => (∃ old, IsEnum h e it ((i : Nat) : Int) old) ∧ h.IsStrIter it (strIterType x) x t i ∧ e ≠ it ∧ i ≤ x.cps.size) where
  mem := by simp
  obj := fun i h st b hb => by
    obtain ⟨⟨old, he⟩, ⟨o, ho, hc, hd⟩, _⟩ := st
    have e' : b = e ∨ b = it := by simpa using hb
    rcases e' with z | z
    · rw [z]; exact ⟨_, he, fun v q => nomatch q⟩
    · rw [z]; exact ⟨o, ho, fun v q => by rw [hd] at q; cases q⟩
  keep := fun i h h' st k => let ⟨⟨old, he⟩, ⟨o, ho, r⟩, hne⟩ := st; ⟨⟨old, k e (by simp) _ he⟩, ⟨o, k it (by simp) o ho, r⟩, hne⟩
  item := by
    intro X hP hw hK hc i pins s σ H E I hf st hg
    subst hP hw hK
    obtain ⟨⟨old, he⟩, hit, hne, hle⟩ := st
    have D : Draws X.prog X.w X.A.in1 it [it] x.cps.size (fun i v => ∃ c u, x.cps[i]? = some c ∧ v = .str ⟨#[c]⟩ u) (fun i h => h.IsStrIter it (strIterType x) x t i) := by
      unfold strIterType
      split
      · exact Draws.strAscii (A := X.A.in1) (show X.A.in1.handled = none from I.ok.hd hc) it x t
      · exact Draws.strWide (A := X.A.in1) (show X.A.in1.handled = none from I.ok.hd hc) it x t
    have hel : e < s.heap.objs.size := Heap.lt_size he
    have hil : it < s.heap.objs.size := by obtain ⟨_, q, _⟩ := hit; exact Heap.lt_size q
    refine wpAny_pyNext_enum_itemD D he hit hg hne (by simpa using hne) fun v h' tk hP ho hit' hT hsz hk => ?_
    obtain ⟨c, u, hcx, rfl⟩ := hP
    refine ⟨_, rfl, wpAny_letOwnedTupleGo_enum (s := { s with heap := h', toks := tk + 1 }) ho fun h'' he' sb => ?_⟩
    have hT2 : h''.get? s.heap.objs.size = some { cls := .type "tuple", data := .seq #[.int i tk, .str ⟨#[c]⟩ u] } := (sb.2 _ (Nat.ne_of_gt hel)).trans hT
    have new : ObjOk X.prog X.w (upd H s.heap.objs.size (.tup [.int (i : Nat), .str ⟨#[c]⟩])) h'' s.heap.objs.size (.tup [.int (i : Nat), .str ⟨#[c]⟩]) :=
      ⟨by show 2 ≤ sizeLine; decide, [.int i tk, .str ⟨#[c]⟩ u], .cons ⟨_, rfl⟩ (.cons ⟨_, rfl⟩ .nil), ⟨_, hT2, rfl, _, rfl⟩⟩
    have I1 : Inv X pins σ (upd H s.heap.objs.size (.tup [.int (i : Nat), .str ⟨#[c]⟩])) { s with heap := h'', toks := tk + 1 } :=
      I.turnedNew (ch := [e, it]) (fun b ob hb q => (sb.2 b (fun z => hb (by simp [z]))).trans (hk b ob (fun z => hb (by simp [z])) (fun z => hb (by simp [z])) q)) hf (Nat.le_refl _) new
    refine ⟨.ref s.heap.objs.size, _, I1, rfl, ⟨_, c, rfl, I.hok.fresh (Nat.le_refl _), rfl, hcx⟩, ⟨⟨.str ⟨#[c]⟩ u, ?_⟩, ?_, hne, hg⟩, fun b hb => ?_⟩
    · have e1 : ((i + 1 : Nat) : Int) = (i : Int) + 1 := by omega
      rw [e1]; exact he'
    · obtain ⟨o, ho2, r⟩ := hit'
      exact ⟨o, (sb.2 it (Ne.symm hne)).trans ho2, r⟩
    · have hb' : b < s.heap.objs.size := by
        have e' : b = e ∨ b = it := by simpa using hb
        rcases e' with z | z
        · rw [z]; exact hel
        · rw [z]; exact hil
      rw [upd_ne (Nat.ne_of_lt hb')]
      exact (hf b hb).1
  done := by
    intro X hP hw hK hc i pins s σ H E I hf st hg
    subst hP hw hK
    obtain ⟨⟨old, he⟩, hit, hne, hle⟩ := st
    have D : Draws X.prog X.w X.A.in1 it [it] x.cps.size (fun i v => ∃ c u, x.cps[i]? = some c ∧ v = .str ⟨#[c]⟩ u) (fun i h => h.IsStrIter it (strIterType x) x t i) := by
      unfold strIterType
      split
      · exact Draws.strAscii (A := X.A.in1) (show X.A.in1.handled = none from I.ok.hd hc) it x t
      · exact Draws.strWide (A := X.A.in1) (show X.A.in1.handled = none from I.ok.hd hc) it x t
    obtain ⟨f0, f1, f2, f3, f4, f5⟩ := hf it (by simp)
    obtain rfl : i = x.cps.size := Nat.le_antisymm hle hg
    exact wpAny_pyNext_enum_endD D he hit fun h' eb => ⟨rfl, I.turned (t' := s.toks) (fun b o hb q => eb b o hb q) f0 f1 f3 f4 f5⟩
  self := fun A i s Q E st h => let ⟨⟨_, he⟩, _⟩ := st; wpAny_pyIter_enum he h
def iEnumS (ta : TA) : TI := fun σ H R => ta σ H fun vs H1 => ∃ x, vs = [.str x] ∧ R (Ites x) H1
theorem pi_enumS {X : Cx} {e : Expr} {ta : TA} {p pos tpos : Pos} {elts : List Expr} {kk : Nat} (hg : Gl X "enumerate") (hm : X.mg "enumerate" = none) (ha : PA X [e] ta) (hs : starEach [e] X.env = [(false, eval e X.env)] := by rfl) :
    PI X (.Tuple elts kk tpos) (.Call (.Name "enumerate" p) [e] [] pos) (iEnumS ta) := by
  refine ⟨fun pins s σ H R I h => ?_⟩
  refine Call_ (ld_blt I hg hm boot_enumerate (PyProof.Rows.callWith_type1 (thn (ha.run pos pins s σ H _ I h) fun us s1 ⟨vs, H1, I1, r1, q1⟩ => ?_) hs rfl))
  obtain ⟨x, ex, q⟩ := q1
  subst ex
  cases r1 with
  | cons r rr =>
    cases rr
    obtain ⟨t, rfl⟩ := r
    refine call_enumerate_str fun h' he hit hsz hk => wpAny_pyIter_enum he ?_
    have I2 : Inv X pins σ H1 { s1 with heap := h' } := I1.kept (t' := s1.toks) hk
    refine ⟨s1.heap.objs.size + 1, [s1.heap.objs.size + 1, s1.heap.objs.size], _, _, H1, rfl, I2, turn_enumS x t (s1.heap.objs.size + 1) s1.heap.objs.size, ⟨⟨.none, he⟩, hit, Nat.succ_ne_self _, Nat.zero_le _⟩, fun b hb => ?_, q⟩
    have e' : b = s1.heap.objs.size + 1 ∨ b = s1.heap.objs.size := by simpa using hb
    have hle : s1.heap.objs.size ≤ b := by
      rcases e' with z | z
      · rw [z]; omega
      · rw [z]; exact Nat.le_refl _
    exact I1.fpOk hle (I1.hok.fresh hle)
end Mini

namespace Mini
open PySem L2 Evl PyProof.Rows

/-! ### texts: slices, items, joins -/
def uSlS (K : PySem.W.Frag) : V → Option Int → Option Int → Hp → VK → Prop := fun x lo hi H Q => uSl K x lo hi H Q ∨ rSlS x lo hi H Q
theorem sl_uSlS {X : Cx} : SlR X (uSlS X.K) := SlR.or sl_uSl sl_str
def rJoin (K : PySem.W.Frag) : V → List V → Hp → VK → Prop := fun x xs H Q => ∃ a p, ∃ ys : List Str, x = .str a ∧ xs = [.ref p] ∧ (SqL K H p (ys.map V.str) ∨ SqT K H p (ys.map V.str)) ∧
      (ys.map (·.length)).sum + ys.length * a.length ≤ 16777216 ∧ Q (.str (Txt.join a ys)) H
theorem DqAll_strs {H : Hp} : ∀ {ns : List Str} {vs : List V}, DqAll H vs (ns.map PyData.str) → vs = ns.map V.str
  | [], _, h => by cases h; rfl
  | n :: ns, _, h => by
    cases h with
    | cons a b => cases a; rw [DqAll_strs b]; rfl
section
variable {K : PySem.W.Frag} {E : L2.St → XK} {G : Gm} {ta tb tl te td ty tk tv : TE} {j l n : Nat} {ds : List PyData} {z w : Str} {i : Int}
theorem sv_catS (ha : Sv ta G (isD (.str z))) (hb : Sv tb G (isD (.str w))) (hz : z.length + w.length ≤ sizeLine) : Sv (tOp (uAdd K) ta tb) G (isD (.str (z ++ w))) := fun M0 σ B M H Q q =>
  ha M0 σ B M H _ fun x B1 e1 d1 p1 => hb M0 σ B1 M (H.ext e1 d1) _ fun y B2 e2 d2 p2 => by
    rw [dp_str p1, dp_str p2]
    exact .inr (.inr (.inr ⟨z, w, rfl, rfl, hz, q _ B2 (e1.trans e2) d2 (.str _)⟩))
theorem sv_lenS (ha : Sv ta G (isD (.str z))) (hz : z.length ≤ sizeLine) : Sv (tCB (fun xs H Q => ∃ x n, xs = [x] ∧ LenV K x H n ∧ Q (.int n) H) (tCons ta tNil)) G (isD (.int ((z.length : Nat) : Int))) := fun M0 σ B M H Q q =>
  ha M0 σ B M H _ fun x B1 e1 d1 p1 => ⟨x, z.length, rfl, by rw [dp_str p1]; exact ⟨hz, rfl⟩, q _ B1 e1 d1 (.int _)⟩
theorem sv_ixS {c : Nat} (ha : Sv ta G (isD (.str z))) (hb : Sv tb G (isD (.int i))) (hz : z.length ≤ sizeLine) (hi : atI z.cps.toList i = some c) : Sv (tOp (rIx K) ta tb) G (isD (.str ⟨#[c]⟩)) := fun M0 σ B M H Q q =>
  ha M0 σ B M H _ fun x B1 e1 d1 p1 => hb M0 σ B1 M (H.ext e1 d1) _ fun y B2 e2 d2 p2 => by
    rw [dp_str p1, dp_int p2]
    exact .inr (.inr ⟨z, i, c, rfl, rfl, hz, hi, q _ B2 (e1.trans e2) d2 (.str _)⟩)
theorem sv_sliceX {to th : TO} {lo hi : Option Int} (ha : Sv ta G (isD (.str z))) (hl : So to G lo) (hu : So th G hi) (hz : z.length ≤ sizeLine) : Sv (tSl (uSlS K) ta to th) G (isD (.str (cutS z lo hi))) := fun M0 σ B M H Q q =>
  ha M0 σ B M H _ fun x B1 e1 d1 p1 => hl M0 σ B1 M (H.ext e1 d1) _ fun B2 e2 d2 => hu M0 σ B2 M ((H.ext e1 d1).ext e2 d2) _ fun B3 e3 d3 => by
    rw [dp_str p1]
    exact .inr ⟨z, rfl, hz, q _ B3 ((e1.trans e2).trans e3) d3 (.str _)⟩
theorem sv_sliceTX {to th : TO} {lo hi : Option Int} (ha : Sv ta G (isD (.tuple ds))) (hl : So to G lo) (hu : So th G hi) : Sv (tSl (uSlS K) ta to th) G (isD (.tuple (cutD ds lo hi))) := fun M0 σ B M H Q q =>
  ha M0 σ B M H _ fun x B1 e1 d1 p1 => hl M0 σ B1 M (H.ext e1 d1) _ fun B2 e2 d2 => hu M0 σ B2 M ((H.ext e1 d1).ext e2 d2) _ fun B3 e3 d3 => by
    obtain ⟨a, vs, rfl, hh, q1⟩ := dq_tup ((isD (.tuple ds)).mono (e2.trans e3) p1)
    refine .inl (.inr ⟨a, vs, rfl, st_of (jn_B d3 hh), fun z => ?_, fun _ p hp => ?_⟩)
    · refine q _ B3 ((e1.trans e2).trans e3) d3 (.tup hh ?_)
      have w := DqAll_cut q1 lo hi
      unfold cutV at w
      rw [z.1, z.2, List.drop_zero, Nat.sub_zero, List.take_length] at w
      exact w
    · rw [upd_new hp]
      exact q _ _ (((e1.trans e2).trans e3).trans (ex_new hp)) (dj_new d3 hp) (.tup upd_same (DqAll_ex (ex_new hp) (DqAll_cut q1 lo hi)))
theorem sv_join {xs : List Str} (ha : Rl tl G (xs.map PyData.str)) (hz : (xs.map (·.length)).sum + xs.length * z.length ≤ 16777216) : Sv (tM1 (rJoin K) (tC (.str z)) tl) G (isD (.str (Txt.join z xs))) := fun M0 σ B M H Q q =>
  ⟨⟨z, rfl⟩, ha M0 σ B M H _ fun a vs B1 e1 d1 hh q1 => ⟨z, a, xs, rfl, rfl, .inl (by rw [← DqAll_strs q1]; exact sq_of hh), hz, q _ B1 e1 d1 (.str _)⟩⟩
/-- a comprehension over a text -/
theorem svl_lcS (h : Sv tl G (isD (.str z))) (g : Nat → PyData) (hj : j < G.length) (hz : z.cps.toList.length < 10000000) (he : ∀ c, c ∈ z.cps.toList → Sv te (Gv G j (.str ⟨#[c]⟩)) (isD (g c))) : Svl (tLc (iStr tl) (gName j) tYes te [j]) G (z.cps.toList.map g) := fun M0 σ B M H Q q => h M0 σ B M H _ fun v B1 e1 d1 p1 => by
  refine ⟨z, dp_str p1, fun Dl hD => ?_⟩
  have hM := (jn_free hD).2
  refine lc_it (walk_str (z := z)) (Pvc B1 M Dl fun i => (z.cps.toList.take i).map g) ⟨B1, [], by rw [upd_own], Ex.refl B1, dj_own d1 (jn_free hD).1, .nil⟩ (fun _ _ _ _ => trivial) (fun i x H' H'' hi p hy => ?_) (fun H' p => ?_)
  · obtain ⟨rfl, c, hc, rfl⟩ := hy
    obtain ⟨B', acc, rfl, e, dj, ha⟩ := p
    have hc' : z.cps.toList[i]? = some c := by rw [Array.getElem?_toList]; exact hc
    have hi' := (List.getElem?_eq_some_iff.mp hc').1
    refine lc_turn (es := fun i => (z.cps.toList.take i).map g) (b := true) (d := .str ⟨#[c]⟩) (y := g c) (H.ext e1 d1) hj hM e dj ha ?_ (.str _) st_yes (fun _ => he c (List.mem_of_getElem? hc')) ?_
    · show ((z.cps.toList.take i).map g).length < _
      rw [List.length_map, List.length_take, sizeLine_eq]; omega
    · rw [if_pos rfl]
      show (z.cps.toList.take (i + 1)).map g = (z.cps.toList.take i).map g ++ [g c]
      rw [List.take_succ, hc', List.map_append]; rfl
  · rw [← Array.length_toList] at p
    have := lc_end (es := fun i => (z.cps.toList.take i).map g) (i := z.cps.toList.length) hM (Ex.refl _) (fun p vs B' e dj hf hv => q p vs B' (e1.trans e) dj hf (by rw [List.take_length] at hv; exact hv)) H' p
    exact this

/-! ### dicts of data -/
def keyD : Key → PyData
  | .inl i => .int i
  | .inr s => .str s
def isDf (ks : List Key) (f : Key → PyData) : Ty := ⟨fun v B => ∃ a us, v = .ref a ∧ B a = some (.dK us) ∧ us.map (·.1) = ks ∧ ∀ p ∈ us, Dq B p.2 (f p.1),
  fun e ⟨a, us, h1, h2, h3, h4⟩ => ⟨a, us, h1, e _ _ h2, h3, fun p hp => Dq_ex e _ _ (h4 p hp)⟩⟩
theorem putK_new {us : List (Key × V)} {k : Key} {v : V} (h : k ∉ us.map (·.1)) : putK us k v = us ++ [(k, v)] := by
  unfold putK
  rw [if_neg]
  intro z
  obtain ⟨p, hp, e⟩ := List.any_eq_true.mp z
  exact h (List.mem_map.mpr ⟨p, hp, of_decide_eq_true e⟩)
theorem dp_key {B : Hp} {k : Key} {v : V} (h : (isD (keyD k)).p v B) : v = kV k := by
  cases k with
  | inl i => exact dp_int h
  | inr s => exact dp_str h
theorem sv_dgetF {ks : List Key} {f : Key → PyData} {k : Key} (hd : Sv td G (isDf ks f)) (hk : Sv ty G (isD (keyD k))) (hm : k ∈ ks) : Sv (tDGet td ty) G (isD (f k)) := fun M0 σ B M H Q q => hd M0 σ B M H _ fun v B1 e1 d1 p1 => by
  obtain ⟨a, us, rfl, h1, h2, h3⟩ := p1
  refine hk M0 σ B1 M (H.ext e1 d1) _ fun y B2 e2 d2 p2 => ?_
  rw [dp_key p2]
  have hf : (us.find? fun kv => decide (kv.1 = k)).isSome = true := by
    rw [List.find?_isSome]
    obtain ⟨p, hp, e⟩ := List.mem_map.mp (h2 ▸ hm)
    exact ⟨p, hp, decide_eq_true e⟩
  obtain ⟨p, hp⟩ := Option.isSome_iff_exists.mp hf
  have e0 := List.find?_some hp
  have ek : p.1 = k := of_decide_eq_true e0
  refine ⟨a, p.2, rfl, .inl ⟨us, k, .inl (jn_B d2 (e2 _ _ h1)), rfl, ?_⟩, ?_⟩
  · unfold valV; rw [hp]; rfl
  · exact q _ B2 (e1.trans e2) d2 (ek ▸ Dq_ex e2 _ _ (h3 p (List.mem_of_find?_eq_some hp)))
/-- what the dict is after some turns -/
def Pvd (B M : Hp) (Dl : Addr) (ks : List Key) (f : Key → PyData) (H : Hp) : Prop := ∃ B' us, H = jn B' (upd M Dl (.dK us)) ∧ Ex B B' ∧ Dj B' (upd M Dl (.dK us)) ∧ us.map (·.1) = ks ∧ ∀ p ∈ us, Dq B' p.2 (f p.1)
theorem dc_put {B M B3 : Hp} {Dl : Addr} {us : List (Key × V)} {ks : List Key} {f : Key → PyData} {k : Key} {v : V} (e : Ex B B3) (d : Dj B3 (upd M Dl (.dK us))) (h : us.map (·.1) = ks) (hn : k ∉ ks) (hf : ∀ p ∈ us, Dq B3 p.2 (f p.1)) (hv : Dq B3 v (f k)) :
    Pvd B M Dl (ks ++ [k]) f (upd (jn B3 (upd M Dl (.dK us))) Dl (.dK (putK us k v))) := by
  refine ⟨B3, us ++ [(k, v)], ?_, e, ?_, ?_, ?_⟩
  · rw [upd_own, upd_upd, putK_new (by rw [h]; exact hn)]
  · intro a u q
    have := d a u q
    by_cases z : a = Dl
    · rw [z, upd_same] at this; cases this
    · rw [upd_ne z] at this ⊢; exact this
  · rw [List.map_append, h]; rfl
  · intro p hp
    rcases List.mem_append.mp hp with z | z
    · exact hf p z
    · rw [List.mem_singleton] at z; rw [z]; exact hv
theorem dc_end {M0 B M : Hp} {Dl : Addr} {ks : List Key} {f : Key → PyData} {H : Hp} {σ : L2.St} {D : Ends} (h : Holds M0 G σ B M) (hM : M Dl = none) (hn : n < G.length) (p : Pvd B M Dl ks f H) (q : ∀ B', Ex B B' → ∀ σ' M', Holds M0 (G.set n (.im (isDf ks f))) σ' B' M' → D.nx σ' (jn B' M')) : D.nx (σ.set n (some (.ref Dl))) H := by
  obtain ⟨B', us, rfl, e, dj, h1, h2⟩ := p
  have hB' : B' Dl = none := dj_free dj upd_same
  have djM : Dj B' M := fun a u q => by
    have := dj a u q
    by_cases z : a = Dl
    · rw [z]; exact hM
    · rw [upd_ne z] at this; exact this
  rw [jn_push hM]
  have hDn : jn B' M Dl = none := by rw [jn_N hM]; exact hB'
  have eN : Ex B' (upd B' Dl (.dK us)) := ex_new hDn
  have djN : Dj (upd B' Dl (.dK us)) M := dj_push dj hM
  exact q _ (e.trans eN) _ _ (((h.ext e djM).ext eN djN).setIm hn ⟨Dl, us, rfl, upd_same, h1, fun p hp => Dq_ex eN _ _ (h2 p hp)⟩)
/-- y = {k: v for k in ints} -/
theorem ss_setDcL {ns : List Int} {f : Key → PyData} (h : Rl tl G (ns.map PyData.int)) (hnd : ns.Nodup) (hn : n < G.length) (hj : j < G.length) (hz : ns.length < 1000000) (hv : ∀ k ∈ ns, Sv tv (Gv G j (.int k)) (isD (f (.inl k)))) :
    Ss E (tAsg (tDc (iList K tl) (gName j) tYes (tVar j) tv [j]) (gName n)) G (.nx (G.set n (.im (isDf (ns.map Sum.inl) f)))) := fun M0 D σ B M H q => h M0 σ B M H _ fun a vs B1 e1 d1 hh q1 => by
  have hvs := DqAll_ints q1
  subst hvs
  refine ⟨a, rfl, ⟨_, sq_of hh⟩, fun Dl hD => ?_⟩
  have hM := (jn_free hD).2
  refine ⟨fun i m H' => i ≤ ns.length ∧ m = ns.length - i ∧ Pvd B1 M Dl ((ns.take i).map Sum.inl) f H', ⟨ns.length, Nat.zero_le _, rfl, B1, [], by rw [upd_own], Ex.refl B1, dj_own d1 (jn_free hD).1, rfl, fun p hp => by cases hp⟩, fun i m H' hW => ?_⟩
  obtain ⟨hle, rfl, B', us, rfl, e, dj, h1, h2⟩ := hW
  have hB' : B' Dl = none := dj_free dj upd_same
  have djM : Dj B' M := fun a u q => by
    have := dj a u q
    by_cases z : a = Dl
    · rw [z]; exact hM
    · rw [upd_ne z] at this; exact this
  have hS : SqL K (jn B' (upd M Dl (.dK us))) a (ns.map V.int) := by
    refine sq_of ?_
    have hne : a ≠ Dl := fun z => by rw [z, hD] at hh; cases hh
    unfold jn at hh ⊢
    rw [upd_ne hne]
    cases z : M a with
    | some u => rw [z] at hh; exact hh
    | none => rw [z] at hh; exact e _ _ hh
  by_cases z : i < ns.length
  · have hg : (ns.map V.int)[i]? = some (V.int ns[i]) := by rw [List.getElem?_map, List.getElem?_eq_getElem z]; rfl
    refine .inr ⟨⟨_, V.int ns[i], hS, hg⟩, fun H' => Pvd B1 M Dl ((ns.take (i + 1)).map Sum.inl) f H', fun H' p => ⟨ns.length - (i + 1), by omega, by omega, rfl, p⟩, fun x H' hy => ?_⟩
    obtain ⟨rfl, hx⟩ := hy
    obtain rfl : x = V.int ns[i] := by have := hx _ hS; rw [hg] at this; exact (Option.some.inj this).symm
    refine ⟨wipe_one σ j _, ?_⟩
    have H2 : Holds M0 (Gv G j (.int ns[i])) ((L2.wipe σ [j]).set j (some (V.int ns[i]))) B' (upd M Dl (.dK us)) := by
      have h1 := ((((H.ext e1 d1).ext e djM).wipes [j]).more (p := Dl) (o := .dK us) (show jn B' M Dl = none by rw [jn_N hM]; exact hB'))
      exact h1.setIm (by show j < (G.set j .no).length; rw [List.length_set]; exact hj) (.int _)
    refine tyes_ite ?_
    have hjj : ((L2.wipe σ [j]).set j (some (V.int ns[i])))[j]? = some (some (V.int ns[i])) := List.getElem?_set_self (by show j < (σ.set j none).length; rw [List.length_set, H.len]; exact hj)
    refine ⟨_, hjj, ?_⟩
    refine hv _ (List.getElem_mem z) M0 _ _ _ H2 _ fun y B4 e4 d4 p4 => ?_
    refine ⟨us, Sum.inl ns[i], rfl, jn_M upd_same, ?_, ?_⟩
    · have : (us.map (·.1)).length = ((ns.take i).map (Sum.inl : Int → Key)).length := by rw [h1]
      rw [List.length_map, List.length_map, List.length_take] at this
      rw [sizeLine_eq]
      omega
    · have et : (ns.take (i + 1)).map (Sum.inl : Int → Key) = (ns.take i).map Sum.inl ++ [Sum.inl ns[i]] := by rw [List.take_succ, List.getElem?_eq_getElem z, List.map_append]; rfl
      rw [et]
      refine dc_put (e.trans e4) d4 h1 ?_ (fun p hp => Dq_ex e4 _ _ (h2 p hp)) p4
      intro hm
      obtain ⟨y, hy, e⟩ := List.mem_map.mp hm
      have e : y = ns[i] := Sum.inl.inj e
      obtain ⟨k, hk, ek⟩ := List.mem_iff_getElem.mp hy
      rw [List.length_take] at hk
      rw [List.getElem_take] at ek
      have := nd_get hnd (i := k) (j := i) (by omega) z (ek.trans e)
      omega
  · have ei : i = ns.length := by omega
    subst ei
    refine .inl ⟨⟨_, hS, by rw [List.length_map]; exact Nat.le_refl _⟩, ?_⟩
    rw [List.take_length] at h1
    exact dc_end (H.ext e1 d1) hM hn ⟨B', us, rfl, e, dj, h1, h2⟩ fun B'' e'' σ' M' H' => q σ' B'' M' (e1.trans e'') H'
end
end Mini

namespace Mini
open PySem L2 Evl PyProof.Rows

def signK (c : Nat) : Key := Sum.inr ⟨#[c]⟩
theorem signK_inj {a b : Nat} (h : signK a = signK b) : a = b := by
  have := Sum.inr.inj h
  injection this with h
  injection h with h
  injection h
section
variable {K : PySem.W.Frag} {E : L2.St → XK} {G : Gm} {ta tb tl te td ty tk tv : TE} {j l n : Nat} {ds : List PyData} {z w : Str} {i : Int}
/-- y = {sign: number for number, sign in enumerate(text)} -/
theorem ss_setDcS {f : Key → PyData} (h : Sv tl G (isD (.str z))) (hnd : z.cps.toList.Nodup) (hn : n < G.length) (hj : j < G.length) (hl : l < G.length) (hjl : j ≠ l) (hz : z.cps.toList.length < 1000000) (hv : ∀ (i : Nat) c, z.cps.toList[i]? = some c → f (signK c) = .int (i : Int)) :
    Ss E (tAsg (tDc (iEnumS (tCons tl tNil)) (gTup K 2 (gCons (gName j) (gCons (gName l) gNil))) tYes (tVar l) (tVar j) [j, l]) (gName n)) G (.nx (G.set n (.im (isDf (z.cps.toList.map signK) f)))) := fun M0 D σ B M H q => h M0 σ B M H _ fun v B1 e1 d1 p1 => by
  refine ⟨z, by rw [dp_str p1], fun Dl hD => ?_⟩
  have hM := (jn_free hD).2
  have hsz : z.cps.size = z.cps.toList.length := (Array.length_toList).symm
  refine ⟨fun i m H' => i ≤ z.cps.toList.length ∧ m = z.cps.toList.length - i ∧ Pvd B1 M Dl ((z.cps.toList.take i).map signK) f H', ⟨z.cps.toList.length, Nat.zero_le _, rfl, B1, [], by rw [upd_own], Ex.refl B1, dj_own d1 (jn_free hD).1, rfl, fun p hp => by cases hp⟩, fun i m H' hW => ?_⟩
  obtain ⟨hle, rfl, B', us, rfl, e, dj, h1, h2⟩ := hW
  have hB' : B' Dl = none := dj_free dj upd_same
  have djM : Dj B' M := fun a u q => by
    have := dj a u q
    by_cases z : a = Dl
    · rw [z]; exact hM
    · rw [upd_ne z] at this; exact this
  by_cases hi : i < z.cps.toList.length
  · refine .inr ⟨by show i < z.cps.size; omega, fun H' => Pvd B1 M Dl ((z.cps.toList.take (i + 1)).map signK) f H', fun H' p => ⟨z.cps.toList.length - (i + 1), by omega, by omega, rfl, p⟩, fun x H' hy => ?_⟩
    obtain ⟨t, c, rfl, ht, rfl, hx⟩ := hy
    have hc : z.cps.toList[i]? = some c := by rw [Array.getElem?_toList]; exact hx
    rw [upd_new ht]
    refine ⟨t, _, rfl, st_of (jn_B (dj_new dj ht) upd_same), rfl, _, _, rfl, _, _, rfl, rfl, ?_⟩
    refine ⟨wipe_two2 σ hjl _ _, ?_⟩
    have et : Ex B' (upd B' t (.tup [V.int i, .str ⟨#[c]⟩])) := ex_new ht
    have djt : Dj (upd B' t (.tup [V.int i, .str ⟨#[c]⟩])) (upd M Dl (.dK us)) := dj_new dj ht
    refine tyes_ite ?_
    have hlen : ∀ τ : L2.St, τ.length = σ.length → ∀ u v : V, ((τ.set j (some u)).set l (some v))[j]? = some (some u) := fun τ ht u v => by
      rw [List.getElem?_set_ne (Ne.symm hjl)]
      exact List.getElem?_set_self (by rw [ht, H.len]; exact hj)
    have hw : (L2.wipe σ [j, l]).length = σ.length := by show ((σ.set l none).set j none).length = _; rw [List.length_set, List.length_set]
    have hjj := hlen _ hw (V.int i) (.str ⟨#[c]⟩)
    have hll : (((L2.wipe σ [j, l]).set j (some (V.int i))).set l (some (.str ⟨#[c]⟩)))[l]? = some (some (.str ⟨#[c]⟩)) := List.getElem?_set_self (by rw [List.length_set, hw, H.len]; exact hl)
    refine ⟨_, hll, _, hjj, us, signK c, rfl, jn_M upd_same, ?_, ?_⟩
    · have : (us.map (·.1)).length = ((z.cps.toList.take i).map signK).length := by rw [h1]
      rw [List.length_map, List.length_map, List.length_take] at this
      rw [sizeLine_eq]
      omega
    · have et2 : (z.cps.toList.take (i + 1)).map signK = (z.cps.toList.take i).map signK ++ [signK c] := by rw [List.take_succ, hc, List.map_append]; rfl
      show Pvd B1 M Dl ((z.cps.toList.take (i + 1)).map signK) f _
      rw [et2]
      refine dc_put (e.trans et) djt h1 ?_ (fun p hp => Dq_ex et _ _ (h2 p hp)) (by rw [hv i c hc]; exact .int _)
      intro hm
      obtain ⟨y, hy, e⟩ := List.mem_map.mp hm
      have e : y = c := signK_inj e
      obtain ⟨k, hk, ek⟩ := List.mem_iff_getElem.mp hy
      rw [List.length_take] at hk
      rw [List.getElem_take] at ek
      have hci : z.cps.toList[i] = c := by rw [List.getElem?_eq_getElem hi] at hc; exact Option.some.inj hc
      have := (List.getElem_inj (h₀ := by omega) (h₁ := hi) hnd).mp (ek.trans (e.trans hci.symm))
      omega
  · have ei : i = z.cps.toList.length := by omega
    subst ei
    refine .inl ⟨by show z.cps.size ≤ _; omega, ?_⟩
    rw [List.take_length] at h1
    exact dc_end (H.ext e1 d1) hM hn ⟨B', us, rfl, e, dj, h1, h2⟩ fun B'' e'' σ' M' H' => q σ' B'' M' (e1.trans e'') H'
end

/-! ### sorted(set(tuple of ints)) -/
theorem sorted_uniq : ∀ {a b : List Int}, a.Pairwise (· < ·) → b.Pairwise (· < ·) → (∀ k, k ∈ a ↔ k ∈ b) → a = b
  | [], [], _, _, _ => rfl
  | [], y :: b, _, _, h => absurd ((h y).mpr (List.mem_cons_self ..)) (List.not_mem_nil)
  | x :: a, [], _, _, h => absurd ((h x).mp (List.mem_cons_self ..)) (List.not_mem_nil)
  | x :: a, y :: b, ha, hb, h => by
    have ha' := List.pairwise_cons.mp ha
    have hb' := List.pairwise_cons.mp hb
    have e : x = y := by
      rcases List.mem_cons.mp ((h x).mp (List.mem_cons_self ..)) with z | z
      · exact z
      · rcases List.mem_cons.mp ((h y).mpr (List.mem_cons_self ..)) with w | w
        · exact w.symm
        · have := hb'.1 x z
          have := ha'.1 y w
          omega
    subst e
    have : a = b := sorted_uniq ha'.2 hb'.2 fun k => by
      constructor
      · intro hk
        have := ha'.1 k hk
        rcases List.mem_cons.mp ((h k).mp (List.mem_cons_of_mem _ hk)) with z | z
        · omega
        · exact z
      · intro hk
        have := hb'.1 k hk
        rcases List.mem_cons.mp ((h k).mpr (List.mem_cons_of_mem _ hk)) with z | z
        · omega
        · exact z
    rw [this]
def insI (x : Int) : List Int → List Int
  | [] => [x]
  | y :: r => if x < y then x :: y :: r else if x = y then y :: r else y :: insI x r
theorem insI_mem {x k : Int} : ∀ {l : List Int}, k ∈ insI x l ↔ k = x ∨ k ∈ l
  | [] => by simp [insI]
  | y :: r => by
    unfold insI
    by_cases c : x < y
    · rw [if_pos c]; simp
    · rw [if_neg c]
      by_cases d : x = y
      · rw [if_pos d, List.mem_cons, d]
        constructor
        · rintro (z | z)
          · exact .inl z
          · exact .inr (.inr z)
        · rintro (z | z | z)
          · exact .inl z
          · exact .inl z
          · exact .inr z
      · rw [if_neg d, List.mem_cons, insI_mem (l := r), List.mem_cons]
        constructor
        · rintro (z | z | z)
          · exact .inr (.inl z)
          · exact .inl z
          · exact .inr (.inr z)
        · rintro (z | z | z)
          · exact .inr (.inl z)
          · exact .inl z
          · exact .inr (.inr z)
theorem insI_sorted {x : Int} : ∀ {l : List Int}, l.Pairwise (· < ·) → (insI x l).Pairwise (· < ·)
  | [], _ => List.pairwise_singleton _ _
  | y :: r, h => by
    have h' := List.pairwise_cons.mp h
    unfold insI
    by_cases c : x < y
    · rw [if_pos c]
      refine List.pairwise_cons.mpr ⟨fun k hk => ?_, h⟩
      rcases List.mem_cons.mp hk with z | z
      · omega
      · have := h'.1 k z; omega
    · rw [if_neg c]
      by_cases d : x = y
      · rw [if_pos d]; exact h
      · rw [if_neg d]
        refine List.pairwise_cons.mpr ⟨fun k hk => ?_, insI_sorted h'.2⟩
        rcases insI_mem.mp hk with z | z
        · omega
        · exact h'.1 k z
def srt (ns : List Int) : List Int := ns.foldr insI []
theorem srt_mem {ns : List Int} {k : Int} : k ∈ srt ns ↔ k ∈ ns := by
  unfold srt
  induction ns with
  | nil => rfl
  | cons x ns ih => rw [List.foldr_cons, insI_mem, ih, List.mem_cons]
theorem srt_sorted : ∀ (ns : List Int), (srt ns).Pairwise (· < ·)
  | [] => .nil
  | x :: ns => insI_sorted (srt_sorted ns)
theorem srt_nodup (ns : List Int) : (srt ns).Nodup := (srt_sorted ns).imp fun h => by omega
theorem insI_len {x : Int} : ∀ {l : List Int}, (insI x l).length ≤ l.length + 1
  | [] => Nat.le_refl _
  | y :: r => by
    unfold insI
    split
    · exact Nat.le_refl _
    · split
      · exact Nat.le_succ _
      · have := insI_len (x := x) (l := r)
        rw [List.length_cons, List.length_cons]; omega
theorem srt_len : ∀ (ns : List Int), (srt ns).length ≤ ns.length
  | [] => Nat.le_refl _
  | x :: ns => by
    have := srt_len ns
    have := insI_len (x := x) (l := srt ns)
    show (insI x (srt ns)).length ≤ _
    rw [List.length_cons]; omega
/-- set(t), t a tuple of ints -/
def tSetT (w : World) (K : PySem.W.Frag) (ta : TE) : TE := fun σ H Q => ta σ H fun x H1 => ∃ (l : Addr) (ns : List Int), x = .ref l ∧ SqT K H1 l (ns.map V.int) ∧ ns.length ≤ 1000 ∧
  ∀ p c, H1 p = none → c ≤ ns.length → Q (.ref p) (upd H1 p (SetO w p (fun j => decide (j ∈ ns)) c))
theorem pe_setT {X : Cx} {a : Expr} {ta : TE} {p pos : Pos} (hc : X.calm = true) (hg : Gl X "set") (hm : X.mg "set" = none) (ha : PE X a ta) (hst : starEach [a] X.env = (false, eval a X.env) :: starEach [] X.env := by rfl) :
    PE X (.Call (.Name "set" p) [a] [] pos) (tSetT X.w X.K ta) := by
  refine ⟨fun pins s σ H Q I h => ?_⟩
  refine Call_ (ld_blt I hg hm boot_set (callWith_type1 (args_cons (thn (ha.run pins s σ H _ I h) fun v s1 hh => args_nil ?_) hst) hst))
  obtain ⟨x, H1, I1, r1, l, ns, rfl, hq, hl, q1⟩ := hh
  obtain rfl : v = Value.ref l := r1
  obtain ⟨its, rv, pt, hz⟩ := I1.tuple hq
  have hi : IntsAre its.toArray.toList ns := ints_of_vals rv
  have hd := I1.ok.hd hc
  refine call_set_tupI ns hd (show s1.heap.IsTuple l its.toArray from pt) hi (by unfold scanBound; omega) fun h' tk c R1 hcn k => ?_
  have hn : H1 s1.heap.objs.size = none := I1.hok.fresh (Nat.le_refl _)
  exact ⟨.ref s1.heap.objs.size, _, I1.laid (t' := tk) (h' := h') k (Nat.le_refl _) (setO_new (P := X.prog) (H := upd H1 s1.heap.objs.size (SetO X.w s1.heap.objs.size (fun j => decide (j ∈ ns)) c)) R1), rfl, q1 _ c hn hcn⟩
theorem svl_sortSet {w : World} {K : PySem.W.Frag} {G : Gm} {ta : TE} {ns : List Int} (ha : Sv ta G (isD (.tuple (ns.map .int)))) (hz : ns.length < 64) :
    Svl (tCB (rSortedSet w) (tCons (tSetT w K ta) tNil)) G ((srt ns).map PyData.int) := fun M0 σ B M H Q q => ha M0 σ B M H _ fun x B1 e1 d1 p1 => by
  obtain ⟨l, vs, rfl, hh, q1⟩ := dq_tup p1
  have hvs := DqAll_ints q1
  subst hvs
  refine ⟨l, ns, rfl, st_of (jn_B d1 hh), by omega, fun p c hp hc => ?_⟩
  refine ⟨p, _, c, rfl, by rw [upd_same], by omega, fun out p2 h1 h2 h3 hp2 => ?_⟩
  have eo : out = srt ns := sorted_uniq h1 (srt_sorted ns) fun k => by rw [h2 k, srt_mem]; exact decide_eq_true_iff
  subst eo
  rw [upd_new hp] at hp2 ⊢
  exact q p2 _ _ (e1.trans (ex_new hp)) (dj_new d1 hp) hp2 (DqAll_ofInts _)
end Mini

namespace Mini
open PySem L2 Evl PyProof.Rows

/-! ### a pair of data, some of it the module's, unpacked -/
section
variable {K : PySem.W.Frag} {E : L2.St → XK} {G : Gm} {te ta tb : TE} {i j : Nat} {d1 d2 : PyData}
theorem ss_unpP2 (h : Sv te G (isP K (.tuple [d1, d2]))) (hi : i < G.length := by exact Nat.le_of_ble_eq_true rfl) (hj : j < G.length := by exact Nat.le_of_ble_eq_true rfl) :
    Ss E (tAsg te (gTup K 2 (gCons (gName i) (gCons (gName j) gNil)))) G (.nx ((G.set i (.im (isP K d1))).set j (.im (isP K d2)))) := fun M0 D σ B M H q => by
  refine h M0 σ B M H _ fun v B' e dj p => ?_
  cases (show DqK K B' v (.tuple [d1, d2]) from p) with
  | tup hs hh =>
    cases hh with
    | cons p1 h2 => cases h2 with
      | cons p2 h2 =>
        cases h2
        refine ⟨_, _, rfl, jn_st dj hs, rfl, _, _, rfl, _, _, rfl, rfl, ?_⟩
        exact q _ B' M e (((H.ext e dj).setIm (P := isP K d1) hi p1).setIm (P := isP K d2) (by rw [List.length_set]; exact hj) p2)
end

/-! ### words as texts of signs -/
def signs : Str := "0123456789ABCDEFGHIJKLMNOPQRSTUVWXYZabcdefghijklmnopqrstuvwx"
def SLc : List Nat := [48, 49, 50, 51, 52, 53, 54, 55, 56, 57] ++ (List.range 26).map (· + 65) ++ (List.range 24).map (· + 97)
theorem SL_eq : signs.cps.toList = SLc := by decide +kernel
theorem SL_len : SLc.length = 60 := by decide +kernel
theorem SL_nd : SLc.Nodup := by decide +kernel
def sgC (i : Int) : Nat := SLc.getD i.toNat 0
def sg (w : List Int) : Str := ⟨(w.map sgC).toArray⟩
def InR (w : List Int) : Prop := ∀ v ∈ w, 0 ≤ v ∧ v < 60
theorem sg_list (w : List Int) : (sg w).cps.toList = w.map sgC := rfl
theorem sg_len (w : List Int) : (sg w).length = w.length := by
  show ((w.map sgC).toArray).size = _
  rw [List.size_toArray, List.length_map]
theorem sgC_lt (i : Int) : sgC i < 200 := by
  unfold sgC
  have h : ∀ c ∈ SLc, c < 200 := by decide +kernel
  rw [List.getD_eq_getElem?_getD]
  cases e : SLc[i.toNat]? with
  | none => show 0 < 200; decide
  | some c => exact h c (List.mem_of_getElem? e)
theorem sg_ok (w : List Int) : PyData.strOk (sg w) = true := by
  show ((w.map sgC).toArray).all (· < 0x110000) = true
  rw [List.all_toArray, List.all_map, List.all_eq_true]
  intro i _
  have := sgC_lt i
  exact decide_eq_true (by omega)
theorem sg_append (a b : List Int) : sg a ++ sg b = sg (a ++ b) := by
  apply TL.ext_tl
  rw [TL.tl_append]
  show a.map sgC ++ b.map sgC = (a ++ b).map sgC
  rw [List.map_append]
theorem sgC_at {i : Int} (h0 : 0 ≤ i) (h1 : i < 60) : SLc[i.toNat]? = some (sgC i) := by
  have h : i.toNat < SLc.length := by rw [SL_len]; omega
  unfold sgC
  rw [List.getD_eq_getElem?_getD, List.getElem?_eq_getElem h]; rfl
theorem idx_sgC {i : Int} (h0 : 0 ≤ i) (h1 : i < 60) : (SLc.idxOf (sgC i) : Int) = i := by
  have h : ∀ k : Fin 60, SLc.idxOf (SLc.getD k.val 0) = k.val := by decide +kernel
  have := h ⟨i.toNat, by omega⟩
  show ((SLc.idxOf (SLc.getD i.toNat 0) : Nat) : Int) = i
  have e : SLc.idxOf (SLc.getD i.toNat 0) = i.toNat := this
  rw [e]; omega
theorem sg_inj {a b : List Int} (ha : InR a) (hb : InR b) (h : sg a = sg b) : a = b := by
  have h : a.map sgC = b.map sgC := by
    have := congrArg TL.tl h
    exact this
  have back : ∀ {w : List Int}, InR w → (w.map sgC).map (fun c => ((SLc.idxOf c : Nat) : Int)) = w := fun {w} hw => by
    rw [List.map_map]
    conv => rhs; rw [← List.map_id w]
    exact List.map_congr_left fun v hv => idx_sgC (hw v hv).1 (hw v hv).2
  rw [← back ha, ← back hb, h]
theorem sg_eq_iff {a b : List Int} (ha : InR a) (hb : InR b) : (sg a == sg b) = decide (a = b) := by
  by_cases e : a = b
  · rw [e, decide_eq_true rfl]; exact beq_self_eq_true _
  · rw [decide_eq_false e]
    exact beq_false_of_ne fun h => e (sg_inj ha hb h)
theorem cutS_take (w : List Int) {k : Nat} : cutS (sg w) none (some (k : Int)) = sg (w.take k) := by
  unfold cutS
  rw [sg_list, sg_len]
  show (⟨((w.map sgC).drop 0 |>.take (HT.sIx w.length w.length (some (k : Int)) - 0)).toArray⟩ : Str) = ⟨((w.take k).map sgC).toArray⟩
  congr 2
  have e := cut_take (ds := w.map sgC) (i := (k : Int)) (by omega)
  unfold cutD at e
  rw [List.length_map] at e
  rw [List.map_take]
  rw [Int.toNat_natCast] at e
  exact e
theorem cutS_drop (w : List Int) {k : Nat} : cutS (sg w) (some (k : Int)) none = sg (w.drop k) := by
  unfold cutS
  rw [sg_list, sg_len]
  congr 2
  have e := cut_drop (ds := w.map sgC) (i := (k : Int)) (by omega)
  unfold cutD at e
  rw [List.length_map] at e
  rw [List.map_drop]
  rw [Int.toNat_natCast] at e
  exact e
theorem join_sg (w : List Int) : Txt.join "" (w.map fun i => (⟨#[sgC i]⟩ : Str)) = sg w := by
  rw [TL.join_eq]
  apply TL.ext_tl
  rw [TL.tl_join, List.map_map]
  show TL.joinL (TL.tl "") (w.map fun i => [sgC i]) = w.map sgC
  have e0 : TL.tl "" = [] := by decide +kernel
  rw [e0]
  induction w with
  | nil => rfl
  | cons i w ih =>
    cases w with
    | nil => rfl
    | cons k w =>
      show [sgC i] ++ ([] ++ TL.joinL [] ((k :: w).map fun i => [sgC i])) = _
      rw [ih]; rfl
/-- a word, plain or as a text of signs -/
def SqD (b : Bool) (w : List Int) : PyData := if b then .str (sg w) else .tuple (w.map .int)
def pairQ (b : Bool) (x y : List Int) : PyData := .tuple [SqD b x, SqD b y]
def stT (K : PySem.W.Frag) (b : Bool) (x y : List Int) : Ty := if b then isP K (pairQ true x y) else isD (pairQ false x y)
section
variable {K : PySem.W.Frag} {G : Gm} {ta tb : TE} {b : Bool} {v w : List Int}
theorem sv_lenQ (ha : Sv ta G (isP K (SqD b w))) (hz : w.length ≤ sizeLine) : Sv (tCB (fun xs H Q => ∃ x n, xs = [x] ∧ LenV K x H n ∧ Q (.int n) H) (tCons ta tNil)) G (isD (.int ((w.length : Nat) : Int))) := by
  cases b with
  | true => exact sv_is (sv_lenS (sv_pA (show AtomP (.str (sg w)) from sg_ok w) ha) (by rw [sg_len]; exact hz)) (by rw [sg_len])
  | false => exact sv_is (sv_lenP (ds := w.map .int) ha) (by rw [List.length_map])
theorem sv_catQ (ha : Sv ta G (isD (SqD b v))) (hb : Sv tb G (isD (SqD b w))) (hz : v.length + w.length ≤ sizeLine) : Sv (tOp (uAdd K) ta tb) G (isD (SqD b (v ++ w))) := by
  cases b with
  | true => exact sv_is (sv_catS (z := sg v) (w := sg w) ha hb (by rw [sg_len, sg_len]; exact hz)) (by rw [sg_append]; rfl)
  | false => exact sv_is (sv_catT (ds := v.map .int) (es := w.map .int) ha hb (by rw [List.length_map, List.length_map]; exact hz)) (by rw [← List.map_append]; rfl)
theorem sv_takeQ {k : Nat} (ha : Sv ta G (isD (SqD b w))) (hk : Sv tb G (isD (.int (k : Int)))) (hz : w.length ≤ sizeLine) : Sv (tSl (uSlS K) ta tNoPart (tPart tb)) G (isD (SqD b (w.take k))) := by
  cases b with
  | true => exact sv_is (sv_sliceX (z := sg w) ha so_none (so_some hk) (by rw [sg_len]; exact hz)) (by rw [cutS_take]; rfl)
  | false => exact sv_is (sv_sliceTX (ds := w.map .int) ha so_none (so_some hk)) (by rw [cut_take _ (by omega), Int.toNat_natCast, ← List.map_take]; rfl)
theorem sv_dropQ {k : Nat} (ha : Sv ta G (isD (SqD b w))) (hk : Sv tb G (isD (.int (k : Int)))) (hz : w.length ≤ sizeLine) : Sv (tSl (uSlS K) ta (tPart tb) tNoPart) G (isD (SqD b (w.drop k))) := by
  cases b with
  | true => exact sv_is (sv_sliceX (z := sg w) ha (so_some hk) so_none (by rw [sg_len]; exact hz)) (by rw [cutS_drop]; rfl)
  | false => exact sv_is (sv_sliceTX (ds := w.map .int) ha (so_some hk) so_none) (by rw [cut_drop _ (by omega), Int.toNat_natCast, ← List.map_drop]; rfl)
theorem sv_st0 {m : Nat} {x y : List Int} (h : G[m]? = some (.im (stT K b x y))) : Sv (tOp (rIx K) (tVar m) (tC (.int 0))) G (isD (SqD b x)) := by
  cases b with
  | true => exact sv_pA (show AtomP (.str (sg x)) from sg_ok x) (sv_ixP (ds := [SqD true x, SqD true y]) (i := ((0 : Nat) : Int)) (sv_var h) sv_int (atI_nat rfl))
  | false => exact sv_ixT (ds := [SqD false x, SqD false y]) (i := ((0 : Nat) : Int)) (sv_var h) sv_int (atI_nat rfl)
theorem sv_st1 {m : Nat} {x y : List Int} (h : G[m]? = some (.im (stT K b x y))) : Sv (tOp (rIx K) (tVar m) (tC (.int 1))) G (isD (SqD b y)) := by
  cases b with
  | true => exact sv_pA (show AtomP (.str (sg y)) from sg_ok y) (sv_ixP (ds := [SqD true x, SqD true y]) (i := ((1 : Nat) : Int)) (sv_var h) sv_int (atI_nat rfl))
  | false => exact sv_ixT (ds := [SqD false x, SqD false y]) (i := ((1 : Nat) : Int)) (sv_var h) sv_int (atI_nat rfl)
end
end Mini

namespace Mini
open PySem L2 Evl PyProof.Rows
/-- a call without arguments -/
theorem pe_fn0 {X : Cx} {k : Nat} {x : Str} {sp : Sp} {E : L2.St → XK} {p pos : Pos} (c : FnC X.prog X.w X.K X.mg X.base k x sp) {j : Nat} (hr : Room j X.A) (hx : ∀ σ, PassesAt (L2.CX X.prog X.w) X σ (E σ)) (hk : k ≤ j := by decide) (hg : Gl X x := by rfl)
    (hdb : (x == ("__debug__" : Str)) = false := by decide) : PE X (.Call (.Name x p) [] [] pos) (tCallS sp E tNil) := by
  obtain ⟨f, fd, ps, F, hm, kp, hb⟩ := c.ex
  refine ⟨fun pins s σ H Q I h => ?_⟩
  refine wpAny_Call_Name_kw (ld_glob I hg hm ?_ hdb)
  exact PySem.W.callWith_K0 I.kIn kp (run_fnS (us := []) F (hr.mono hk) hb (hx σ) I .nil h)
end Mini

namespace Mini
open PySem L2 Evl PyProof.Rows
/-! ### len of a dict -/
def rLenDk : List V → Hp → VK → Prop := fun xs H Q => ∃ a kvs, xs = [V.ref a] ∧ H a = some (.dK kvs) ∧ Q (.int kvs.length) H
theorem sv_lenDi {G : Gm} {ta : TE} {kvs : List (Int × Int)} (h : Sv ta G (isDi kvs)) : Sv (tCB rLenDk (tCons ta tNil)) G (isD (.int ((kvs.length : Nat) : Int))) := fun M0 σ B M H Q q => h M0 σ B M H _ fun v B1 e1 d1 p1 => by
  obtain ⟨a, rfl, h1⟩ := p1
  refine ⟨a, dkV kvs, rfl, jn_B d1 h1, ?_⟩
  have e : (dkV kvs).length = kvs.length := by unfold dkV; rw [List.length_map]
  rw [e]
  exact q _ B1 e1 d1 (.int _)
theorem sv_lenDf {G : Gm} {ta : TE} {ks : List Key} {f : Key → PyData} (h : Sv ta G (isDf ks f)) : Sv (tCB rLenDk (tCons ta tNil)) G (isD (.int ((ks.length : Nat) : Int))) := fun M0 σ B M H Q q => h M0 σ B M H _ fun v B1 e1 d1 p1 => by
  obtain ⟨a, us, rfl, h1, h2, h3⟩ := p1
  refine ⟨a, us, rfl, jn_B d1 h1, ?_⟩
  have e : us.length = ks.length := by rw [← h2, List.length_map]
  rw [e]
  exact q _ B1 e1 d1 (.int _)
end Mini

namespace K10
open PySem L2 Evl Mini PyProof.Rows
def top (i : Nat) : Stmt := PySem.Challenge.pw_alikeread_k10_what_must_come.main.body.getD i (.Pass ⟨0, 0, 0, 0⟩)
abbrev veT : List Value := [.type "ValueError", .type "Exception", .type "BaseException", .type "object"]
structure Txt (K : PySem.W.Frag) (mg : Str → Option Value) (cAE cBB cBT cNA cBk cPr cRd aE0 aEV aSI : Addr) : Prop where
  no_isinstance : mg "isinstance" = none
  no_int : mg "int" = none
  no_bool : mg "bool" = none
  no_tuple : mg "tuple" = none
  no_list : mg "list" = none
  no_all : mg "all" = none
  no_len : mg "len" = none
  no_abs : mg "abs" = none
  no_range : mg "range" = none
  no_max : mg "max" = none
  no_min : mg "min" = none
  no_set : mg "set" = none
  no_str : mg "str" = none
  no_enumerate : mg "enumerate" = none
  c_MOST_LETTERS : GC mg "MOST_LETTERS" (.int 60)
  c_MOST_WORDS : GC mg "MOST_WORDS" (.int 60)
  c_LONGEST_WORD : GC mg "LONGEST_WORD" (.int 5000)
  e_AlikeError : ErrC K mg "AlikeError" cAE veT
  e_BadBook : ErrC K mg "BadBook" cBB veT
  e_BadRest : ErrC K mg "BadRest" cBT veT
  e_NotApart : ErrC K mg "NotApart" cNA veT
  kt_aE0 : KTD K aE0 []
  c_EVEN : GC mg "EVEN" (.ref aEV)
  kt_aEV : KTD K aEV [.str "even", .ref aE0]
  c_SIDES : GC mg "SIDES" (.ref aSI)
  kt_aSI : KTD K aSI [.str "first", .str "second"]
  cl_cBk : Cls K cBk
  n_cBk_letters : NoAttr K cBk "letters"
  n_cBk_size : NoAttr K cBk "size"
  n_cBk__words : NoAttr K cBk "_words"
  cl_cPr : Cls K cPr
  n_cPr_first : NoAttr K cPr "first"
  n_cPr_second : NoAttr K cPr "second"
  n_cPr_letters : NoAttr K cPr "letters"
  cl_cRd : Cls K cRd
  n_cRd__words : NoAttr K cRd "_words"
  n_cRd__numbers : NoAttr K cRd "_numbers"
  x_cBT : ExcC K cBT
  m_cBT : PySem.W.exmOne K (.ref cBT) (.ref cAE) = some true
  x_cNA : ExcC K cNA
  m_cNA : PySem.W.exmOne K (.ref cNA) (.ref cAE) = some true
  k_cBT_cBT : PySem.W.kitOne K (.ref cBT) (.ref cBT) = some true
  k_cBT_cNA : PySem.W.kitOne K (.ref cBT) (.ref cNA) = some false
  k_cNA_cBT : PySem.W.kitOne K (.ref cNA) (.ref cBT) = some false
  k_cNA_cNA : PySem.W.kitOne K (.ref cNA) (.ref cNA) = some true
section
variable {P : Program} {w : World} {K : PySem.W.Frag} {mg : Str → Option Value} {base : Heap} {cAE cBB cBT cNA cBk cPr cRd aE0 aEV aSI : Addr}
/-! ### _law_draws -/
def S_law_draws (K : PySem.W.Frag) : Fs := ⟨{x : List Int × Int // x.1.length ≤ 63 ∧ 0 ≤ x.2 ∧ x.2 ≤ 1000}, 2, fun x => [.im (isS K x.1.1), .im (isD (.int x.1.2))], fun _ => rfl, fun x => .ol ((drawsF x.1.1 x.1.2).map .int)⟩
abbrev st__law_draws : Stmt := top 36
theorem sc__law_draws : FnScope ["script", "many", "draws", "seed", "cell", "number", "k"] ["script", "many"] (defScope st__law_draws) := ⟨rfl, rfl, rfl, by decide +kernel, rfl, by decide +kernel, by decide +kernel⟩
theorem ok__law_draws {f : Addr} {fd : FuncData} (T : Txt K mg cAE cBB cBT cNA cBk cPr cRd aE0 aEV aSI)  (F : Fun K "_law_draws" "_law_draws" st__law_draws f fd) : FnOk P w K mg base (L2.CX P w) 1 f fd ["script", "many"] (spF (S_law_draws K)) := by
  refine fn_ok F sc__law_draws rfl fun cdv A outer s H E hr => ?_
  have tk : Takes (cxD P w K mg base ["script", "many", "draws", "seed", "cell", "number", "k"] "_law_draws" st__law_draws f cdv A outer s H E) (fun cls d _ H => E cls d H) := takes_of rfl rfl rfl rfl
  have hx := pxM tk
  have nd := sc__law_draws.nd
  refine ⟨_, (pss_cons (ps_set (i := 2) nd rfl (Or.inl rfl) (pe_lst pa_nil))
 (pss_cons (ps_set (i := 3) nd rfl (Or.inl rfl) pe_int)
 (pss_cons (ps_for (passes_of rfl) rfl (pi_list (pe_slice sl_uSl (pv 0) po_none (po_some pe_int))) (pg_name (i := 4) nd rfl (Or.inl rfl)) (pss_cons (ps_set (i := 5) nd rfl (Or.inl rfl) (pe_callB call_abs (by rfl) T.no_abs (by decide +kernel) (pa_cons (pv 4) pa_nil)))
 (pss_cons (ps_set (i := 3) nd rfl (Or.inl rfl) (pe_op op_mod (pe_callTy call_int1 (by rfl) T.no_int (by decide +kernel) (pa_cons (pe_op op_uAdd (pe_op op_uAdd (pe_op op_uMul (pv 3) pe_int) (pv 5)) pe_int) pa_nil)) pe_int))
 (pss_one (ps_if (pt_cmpR op_ge (pv 5) (pe_op op_pow pe_int pe_int) (nomark _)) (pss_one (ps_for (passes_of rfl) rfl (pi_range1 (by rfl) T.no_range (pa_cons pe_int pa_nil)) (pg_name (i := 6) nd rfl (Or.inl rfl)) (pss_one (ps_if (pt_cmpR op_gt (pv 5) pe_int (nomark _)) (pss_cons (ps_expr (pe_bm PySem.F.plainAttrs_list PySem.F.slot_list_append PySem.F.type_list_append mt_append (pv 2) (pa_cons (pe_op op_mod (pe_callTy call_int1 (by rfl) T.no_int (by decide +kernel) (pa_cons (pv 5) pa_nil)) pe_int) pa_nil)))
 (pss_one (ps_set (i := 5) nd rfl (Or.inl rfl) (pe_op op_fdiv (pv 5) pe_int)))) pss_nil)))) (pss_one (ps_expr (pe_bm PySem.F.plainAttrs_list PySem.F.slot_list_append PySem.F.type_list_append mt_append (pv 2) (pa_cons (pe_op op_mod (pe_op op_fdiv (pe_callTy call_int1 (by rfl) T.no_int (by decide +kernel) (pa_cons (pe_op op_uAdd (pe_op op_uMul (pv 3) pe_int) pe_int) pa_nil)) pe_int) pe_int) pa_nil)))))))))
 (pss_cons (ps_for (passes_of rfl) rfl (pi_range1 (by rfl) T.no_range (pa_cons (pv 1) pa_nil)) (pg_name (i := 6) nd rfl (Or.inl rfl)) (pss_one (ps_if (pt_cmpR op_lt (pe_callB call_len (by rfl) T.no_len (by decide +kernel) (pa_cons (pv 2) pa_nil)) (pv 1) (nomark _)) (pss_cons (ps_set (i := 3) nd rfl (Or.inl rfl) (pe_op op_mod (pe_callTy call_int1 (by rfl) T.no_int (by decide +kernel) (pa_cons (pe_op op_uAdd (pe_op op_uAdd (pe_op op_uMul (pv 3) pe_int) (pv 6)) pe_int) pa_nil)) pe_int))
 (pss_one (ps_expr (pe_bm PySem.F.plainAttrs_list PySem.F.slot_list_append PySem.F.type_list_append mt_append (pv 2) (pa_cons (pe_op op_mod (pe_op op_fdiv (pe_callTy call_int1 (by rfl) T.no_int (by decide +kernel) (pa_cons (pv 3) pa_nil)) pe_int) pe_int) pa_nil))))) pss_nil)))
 (pss_one (ps_ret (pe_slice sl_uSl (pv 2) po_none (po_some (pv 1))))))))), ?_⟩
  intro x
  obtain ⟨⟨ns0, many⟩, hl0, hm0, hm1⟩ := x
  have hm0 : 0 ≤ many := hm0
  have hm1 : many ≤ 1000 := hm1
  have hl0 : ns0.length ≤ 63 := hl0
  generalize hns : cutD ns0 none (some 63) = ns
  have hl : ns.length ≤ 63 := by rw [← hns, cut_take _ (by decide), List.length_take]; omega
  have hz : (sizeLine : Nat) = 16777216 := sizeLine_eq
  refine .ol ?_
  refine ss_seq (ss_setL (svl_lst (ds := []) sa_nil (Nat.zero_le _))) ?_
  refine ss_seq (ss_set sv_int) ?_
  -- the cells
  let Gc : Nat → Gm := fun i => [.im (isS K ns0), .im (isD (.int many)), .ow (isL ((cellsS ns i).1.map .int)), .im (isD (.int (cellsS ns i).2)), .no, .no, .no]
  refine ss_seq (G1 := Gc ns.length) ?_ ?_
  · have hd : Sv (tSl (uSl K) (tVar 0) tNoPart (tPart (tC (.int 63)))) (List.set (List.set (startG 7 [.im (isS K ns0), .im (isD (.int many))]) 2 (.ow (isL []))) 3 (.im (isD (.int 7)))) (isD (.list (ns.map .int))) := by
      rw [← hns]
      exact sv_svl (svl_sliceS (sv_var rfl) so_none (so_some sv_int))
    refine ss_forL hd Gc (ns.map PyData.int).length (Nat.le_refl _) (Le.refl _) (fun i _ => Nat.le_of_ble_eq_true rfl) (fun i d hd hi => ?_) (.inl ⟨rfl, by rw [List.length_map]⟩)
    obtain ⟨c, hc, rfl⟩ : ∃ c, ns[i]? = some c ∧ d = .int c := by
      rw [List.getElem?_map] at hd
      cases h : ns[i]? with
      | none => rw [h] at hd; cases hd
      | some c => rw [h] at hd; exact ⟨c, rfl, (Option.some.inj hd).symm⟩
    have hi' : i < ns.length := by rw [List.length_map] at hi; exact hi
    have hlen := cellsS_len (ns := ns) i (by omega)
    refine .inl (ss_nxLe (G1 := ([.im (isS K ns0), .im (isD (.int many)), .ow (isL ((cellsS ns (i + 1)).1.map .int)), .im (isD (.int (cellsS ns (i + 1)).2)), .no, .no, .no] : Gm)) ?_ (Le.refl _))
    rw [cellsS_succ hc]
    generalize hsd : cellsS ns i = s0 at hlen
    have hG : Gc i = [.im (isS K ns0), .im (isD (.int many)), .ow (isL (s0.1.map .int)), .im (isD (.int s0.2)), .no, .no, .no] := by show [_, _, _, _, _, _, _] = _; rw [hsd]
    rw [hG]
    refine ss_seq (ss_set (sv_abs (sv_var rfl))) ?_
    refine ss_seq (ss_set (sv_mod (sv_int1 (sv_add (sv_add (sv_mul (sv_var rfl) sv_int (.inr ⟨by decide, by decide⟩)) (sv_var rfl)) sv_int)) sv_int (by decide))) ?_
    have ht : ∀ {G : Gm}, G[5]? = some (.im (isD (.int (absI c)))) → St' (tTest (tOp (rI0 fun i j => .bl (decide (j ≤ i))) (tVar 5) (tOp (rI CPow fun i j => .int (i ^ j.toNat)) (tC (.int 10)) (tC (.int 18))))) G (decide (10 ^ 18 ≤ absI c)) := fun h =>
      st_test (sv_cmp (g := fun i j => decide (j ≤ i)) (sv_var h) (sv_pow sv_int sv_int ⟨by decide, by decide, by decide⟩))
    by_cases hb : 10 ^ 18 ≤ absI c
    · refine ss_if1 (st_is (ht rfl) (decide_eq_true hb)) ?_
      have e : cellS s0 c = ((itN digS 60 (s0.1, absI c)).1, seedS s0.2 c) := if_pos hb
      rw [e]
      let Gd : Nat → Gm := fun k => [.im (isS K ns0), .im (isD (.int many)), .ow (isL ((itN digS k (s0.1, absI c)).1.map .int)), .im (isD (.int (seedS s0.2 c))), .no, .im (isD (.int (itN digS k (s0.1, absI c)).2)), .no]
      refine ss_nxLe (ss_forR (o := .nx (Gd 60)) sv_int (by decide) Gd 60 (Nat.le_refl _) (Le.eq (Le.eq (Le.eq (Le.eq (Le.no (Le.eq (Le.eq Le.nil))))))) (fun _ _ => Nat.le_of_ble_eq_true rfl) (fun k hk => ?_) (.inl ⟨rfl, rfl⟩)) (Le.eq (Le.eq (Le.eq (Le.eq (Le.eq (Le.no (Le.eq Le.nil)))))))
      show Turn _ _ _ [.im (isS K ns0), .im (isD (.int many)), .ow (isL ((digS (itN digS k (s0.1, absI c))).1.map .int)), .im (isD (.int (seedS s0.2 c))), .no, .im (isD (.int (digS (itN digS k (s0.1, absI c))).2)), .no]
      have hlen2 : (itN digS k (s0.1, absI c)).1.length ≤ s0.1.length + k := itN_len (n := k) (s := (s0.1, absI c))
      have hG2 : Gd k = [.im (isS K ns0), .im (isD (.int many)), .ow (isL ((itN digS k (s0.1, absI c)).1.map .int)), .im (isD (.int (seedS s0.2 c))), .no, .im (isD (.int (itN digS k (s0.1, absI c)).2)), .no] := rfl
      rw [hG2]
      generalize itN digS k (s0.1, absI c) = s1 at hlen2 ⊢
      have t2 : ∀ {G : Gm}, G[5]? = some (.im (isD (.int s1.2))) → St' (tTest (tOp (rI0 fun i j => .bl (decide (j < i))) (tVar 5) (tC (.int 0)))) G (decide (0 < s1.2)) := fun h => st_test (sv_cmp (g := fun i j => decide (j < i)) (sv_var h) sv_int)
      by_cases hp : 0 < s1.2
      · have e2 : digS s1 = (s1.1 ++ [s1.2 % 1009], s1.2 / 1009) := if_pos hp
        rw [e2]
        refine .inl (ss_nxLe (ss_if1 (st_is (t2 rfl) (decide_eq_true hp)) (ss_seq (ss_append (d := .int (s1.2 % 1009)) rfl (sv_mod (sv_int1 (sv_var rfl)) sv_int (by decide)) (by rw [List.length_map]; omega)) (ss_set (sv_div (sv_var rfl) sv_int ⟨by decide, by decide⟩)))) ?_)
        have e3 : (s1.1 ++ [s1.2 % 1009]).map PyData.int = s1.1.map PyData.int ++ [PyData.int (s1.2 % 1009)] := by simp
        show Le _ [.im (isS K ns0), .im (isD (.int many)), .ow (isL ((s1.1 ++ [s1.2 % 1009]).map .int)), .im (isD (.int (seedS s0.2 c))), .no, .im (isD (.int (s1.2 / 1009))), .no]
        rw [e3]
        exact Le.eq (Le.eq (Le.eq (Le.eq (Le.eq (Le.eq (Le.no Le.nil))))))
      · have e2 : digS s1 = s1 := if_neg hp
        rw [e2]
        exact .inl (ss_nxLe (ss_if0 (st_is (t2 rfl) (decide_eq_false hp)) ss_next) (Le.eq (Le.eq (Le.eq (Le.eq (Le.eq (Le.eq (Le.no Le.nil))))))))
    · refine ss_if0 (st_is (ht rfl) (decide_eq_false hb)) ?_
      have e : cellS s0 c = (s0.1 ++ [(seedS s0.2 c * 16807 + 5) / 3 % 65521], seedS s0.2 c) := if_neg hb
      rw [e]
      have e3 : (s0.1 ++ [(seedS s0.2 c * 16807 + 5) / 3 % 65521]).map PyData.int = s0.1.map PyData.int ++ [PyData.int ((seedS s0.2 c * 16807 + 5) / 3 % 65521)] := by simp
      show Ss _ _ _ (.nx [.im (isS K ns0), .im (isD (.int many)), .ow (isL ((s0.1 ++ [(seedS s0.2 c * 16807 + 5) / 3 % 65521]).map .int)), .im (isD (.int (seedS s0.2 c))), .no, .no, .no])
      rw [e3]
      refine ss_nxLe (ss_append (d := .int ((seedS s0.2 c * 16807 + 5) / 3 % 65521)) rfl (sv_mod (sv_div (sv_int1 (sv_add (sv_mul (sv_var rfl) sv_int (.inr ⟨by decide, by decide⟩)) sv_int)) sv_int ⟨by decide, by decide⟩) sv_int (by decide)) (by rw [List.length_map]; omega)) ?_
      exact Le.eq (Le.eq (Le.eq (Le.eq (Le.no (Le.no (Le.eq Le.nil))))))
  -- the rest
  let Gf : Nat → Gm := fun k => [.im (isS K ns0), .im (isD (.int many)), .ow (isL ((fillsS ns many k).1.map .int)), .im (isD (.int (fillsS ns many k).2)), .no, .no, .no]
  refine ss_seq (G1 := Gf many.toNat) ?_ ?_
  · refine ss_forR (sv_var rfl) (by omega) Gf many.toNat (Nat.le_refl _) (Le.refl _) (fun _ _ => Nat.le_of_ble_eq_true rfl) (fun k hk => ?_) (.inl ⟨rfl, rfl⟩)
    have hlen := fillsS_len ns many k
    show Turn _ _ _ [.im (isS K ns0), .im (isD (.int many)), .ow (isL ((fillsS ns many (k + 1)).1.map .int)), .im (isD (.int (fillsS ns many (k + 1)).2)), .no, .no, .no]
    rw [fillsS_succ]
    have hG : Gf k = [.im (isS K ns0), .im (isD (.int many)), .ow (isL ((fillsS ns many k).1.map .int)), .im (isD (.int (fillsS ns many k).2)), .no, .no, .no] := rfl
    rw [hG]
    generalize fillsS ns many k = s1 at hlen ⊢
    have t2 : ∀ {G : Gm}, G[2]? = some (.ow (isL (s1.1.map .int))) → G[1]? = some (.im (isD (.int many))) → St' (tTest (tOp (rI0 fun i j => .bl (decide (i < j))) (tCB (fun xs H Q => ∃ x n, xs = [x] ∧ LenV K x H n ∧ Q (.int n) H) (tCons (tVar 2) tNil)) (tVar 1))) G (decide ((s1.1.length : Int) < many)) := fun h h' =>
      st_is (st_test (sv_cmp (g := fun i j => decide (i < j)) (sv_lenL (rl_ow h)) (sv_var h'))) (by rw [List.length_map])
    by_cases hp : (s1.1.length : Int) < many
    · have e2 : fillS many s1 k = (s1.1 ++ [(s1.2 * 69621 + (k : Int) + 1) % 2147483647 / 7 % 65521], (s1.2 * 69621 + (k : Int) + 1) % 2147483647) := if_pos hp
      rw [e2]
      refine .inl (ss_nxLe (ss_if1 (st_is (t2 rfl rfl) (decide_eq_true hp)) (ss_seq (ss_set (sv_mod (sv_int1 (sv_add (sv_add (sv_mul (sv_var rfl) sv_int (.inr ⟨by decide, by decide⟩)) (sv_var rfl)) sv_int)) sv_int (by decide))) (ss_append (d := .int ((s1.2 * 69621 + (k : Int) + 1) % 2147483647 / 7 % 65521)) rfl (sv_mod (sv_div (sv_int1 (sv_var rfl)) sv_int ⟨by decide, by decide⟩) sv_int (by decide)) (by rw [List.length_map]; omega)))) ?_)
      have e3 : (s1.1 ++ [(s1.2 * 69621 + (k : Int) + 1) % 2147483647 / 7 % 65521]).map PyData.int = s1.1.map PyData.int ++ [PyData.int ((s1.2 * 69621 + (k : Int) + 1) % 2147483647 / 7 % 65521)] := by simp
      show Le _ [.im (isS K ns0), .im (isD (.int many)), .ow (isL ((s1.1 ++ [(s1.2 * 69621 + (k : Int) + 1) % 2147483647 / 7 % 65521]).map .int)), .im (isD (.int ((s1.2 * 69621 + (k : Int) + 1) % 2147483647))), .no, .no, .no]
      rw [e3]
      exact Le.eq (Le.eq (Le.eq (Le.eq (Le.eq (Le.eq (Le.no Le.nil))))))
    · have e2 : fillS many s1 k = s1 := if_neg hp
      rw [e2]
      exact .inl (ss_nxLe (ss_if0 (st_is (t2 rfl rfl) (decide_eq_false hp)) ss_next) (Le.eq (Le.eq (Le.eq (Le.eq (Le.eq (Le.eq (Le.no Le.nil))))))))
  · refine ss_retL (svl_is (svl_slice (rl_ow rfl) so_none (so_some (sv_var rfl))) ?_)
    show cutD _ none (some many) = (drawsF ns0 many).map PyData.int
    unfold drawsF
    rw [hns, cut_take _ hm0, cut_take _ hm0, List.map_take]

/-! ### _law_words -/
/-- what is asked of the draws, the letters, the number of words, the lengths -/
def WOk (dr : List Int) (letters size longest : Int) (apart : Bool) : Prop := (∀ v ∈ dr, 0 ≤ v) ∧ 1 ≤ letters ∧ letters ≤ 100 ∧ 0 ≤ size ∧ size ≤ 100 ∧ 3 * size ≤ dr.length ∧ 1 ≤ longest ∧ longest ≤ 1000 ∧ (apart = true → size ≤ letters)
def S_law_words : Fs := ⟨{x : List Int × Int × Int × Int × Bool // WOk x.1 x.2.1 x.2.2.1 x.2.2.2.1 x.2.2.2.2}, 5,
  fun x => [.im (isD (.list (x.1.1.map .int))), .im (isD (.int x.1.2.1)), .im (isD (.int x.1.2.2.1)), .im (isD (.int x.1.2.2.2.1)), .im (isD (.bool x.1.2.2.2.2))], fun _ => rfl,
  fun x => .ol (wD (wordsF x.1.1 x.1.2.1 x.1.2.2.1 x.1.2.2.2.1 x.1.2.2.2.2))⟩
abbrev st__law_words : Stmt := top 37
theorem sc__law_words : FnScope ["draws", "letters", "size", "longest", "apart", "left", "words", "k", "first", "word", "j"] ["draws", "letters", "size", "longest", "apart"] (defScope st__law_words) := ⟨rfl, rfl, rfl, by decide +kernel, rfl, by decide +kernel, by decide +kernel⟩
theorem ok__law_words {f : Addr} {fd : FuncData} (T : Txt K mg cAE cBB cBT cNA cBk cPr cRd aE0 aEV aSI)  (F : Fun K "_law_words" "_law_words" st__law_words f fd) : FnOk P w K mg base (L2.CX P w) 1 f fd ["draws", "letters", "size", "longest", "apart"] (spF (S_law_words)) := by
  refine fn_ok F sc__law_words rfl fun cdv A outer s H E hr => ?_
  have tk : Takes (cxD P w K mg base ["draws", "letters", "size", "longest", "apart", "left", "words", "k", "first", "word", "j"] "_law_words" st__law_words f cdv A outer s H E) (fun cls d _ H => E cls d H) := takes_of rfl rfl rfl rfl
  have hx := pxM tk
  have nd := sc__law_words.nd
  refine ⟨_, (pss_cons (ps_par (i := 5) (j := 6) rfl nd rfl rfl (by decide) rfl rfl (pa_cons (pe_listRg rfl rfl T.no_list (prg_1 rfl T.no_range (pv 1))) (pa_cons (pe_lst pa_nil) pa_nil)) (by rfl))
 (pss_cons (ps_for (passes_of rfl) rfl (pi_range1 (by rfl) T.no_range (pa_cons (pv 2) pa_nil)) (pg_name (i := 7) nd rfl (Or.inl rfl)) (pss_cons (ps_set (i := 8) nd rfl (Or.inl rfl) (pe_op op_mod (pe_callTy call_int1 (by rfl) T.no_int (by decide +kernel) (pa_cons (pe_ix ix_seq (pv 0) (pe_op op_uMul pe_int (pv 7)) (fun _ _ => rfl)) pa_nil)) (pe_callB (call_max2 rfl) (by rfl) T.no_max (by decide +kernel) (pa_cons (pv 1) (pa_cons pe_int pa_nil)))))
 (pss_cons (ps_if (pt_val (pv 4)) (pss_one (ps_set (i := 8) nd rfl (Or.inl rfl) (pe_bm PySem.F.plainAttrs_list PySem.F.slot_list_pop PySem.F.type_list_pop mt_popAt (pv 5) (pa_cons (pe_op op_mod (pe_callTy call_int1 (by rfl) T.no_int (by decide +kernel) (pa_cons (pe_ix ix_seq (pv 0) (pe_op op_uMul pe_int (pv 7)) (fun _ _ => rfl)) pa_nil)) (pe_callB call_len (by rfl) T.no_len (by decide +kernel) (pa_cons (pv 5) pa_nil))) pa_nil)))) pss_nil)
 (pss_cons (ps_set (i := 9) nd rfl (Or.inl rfl) (pe_lst (pa_cons (pv 8) pa_nil)))
 (pss_cons (ps_for (passes_of rfl) rfl (pi_range1 (by rfl) T.no_range (pa_cons (pe_op op_mod (pe_callTy call_int1 (by rfl) T.no_int (by decide +kernel) (pa_cons (pe_ix ix_seq (pv 0) (pe_op op_uAdd (pe_op op_uMul pe_int (pv 7)) pe_int) (fun _ _ => rfl)) pa_nil)) (pv 3)) pa_nil)) (pg_name (i := 10) nd rfl (Or.inl rfl)) (pss_one (ps_expr (pe_bm PySem.F.plainAttrs_list PySem.F.slot_list_append PySem.F.type_list_append mt_append (pv 9) (pa_cons (pe_op op_mod (pe_op op_fdiv (pe_callTy call_int1 (by rfl) T.no_int (by decide +kernel) (pa_cons (pe_ix ix_seq (pv 0) (pe_op op_uAdd (pe_op op_uMul pe_int (pv 7)) pe_int) (fun _ _ => rfl)) pa_nil)) (pe_ix ix_seq (pe_tup (pa_cons pe_int (pa_cons pe_int (pa_cons pe_int (pa_cons pe_int (pa_cons pe_int (pa_cons pe_int (pa_cons pe_int (pa_cons pe_int pa_nil))))))))) (pe_op op_mod (pv 10) pe_int) (fun _ _ => rfl))) (pv 1)) pa_nil)))))
 (pss_one (ps_expr (pe_bm PySem.F.plainAttrs_list PySem.F.slot_list_append PySem.F.type_list_append mt_append (pv 6) (pa_cons (pe_tupleOf (by rfl) T.no_tuple (pv 9)) pa_nil)))))))))
 (pss_one (ps_ret (pv 6))))), ?_⟩
  intro x
  obtain ⟨⟨dr, letters, size, longest, apart⟩, hdr, hl1, hl2, hs0, hs1, hsz, hg1, hg2, hap⟩ := x
  have hl1 : 1 ≤ letters := hl1
  have hl2 : letters ≤ 100 := hl2
  have hs0 : 0 ≤ size := hs0
  have hs1 : size ≤ 100 := hs1
  have hsz : 3 * size ≤ dr.length := hsz
  have hg1 : 1 ≤ longest := hg1
  have hg2 : longest ≤ 1000 := hg2
  have hap : apart = true → size ≤ letters := hap
  have hz : (sizeLine : Nat) = 16777216 := sizeLine_eq
  have hat : ∀ k : Nat, (k : Int) < dr.length → atI (dr.map PyData.int) (k : Int) = some (.int (atD dr k)) := fun k hk => by
    have hk' : k < dr.length := by omega
    have e : (dr.map PyData.int)[k]? = some (.int (atD dr k)) := by
      rw [List.getElem?_map, List.getElem?_eq_getElem hk']
      unfold atD
      rw [List.getD_eq_getElem?_getD, List.getElem?_eq_getElem hk']
      rfl
    exact atI_nat e
  have hpos : ∀ k, 0 ≤ atD dr k := fun k => by
    unfold atD
    rw [List.getD_eq_getElem?_getD]
    cases h : dr[k]? with
    | none => exact Int.le_refl 0
    | some v => exact hdr v (List.mem_of_getElem? h)
  refine .ol ?_
  let Gc : Nat → Gm := fun k => [.im (isD (.list (dr.map .int))), .im (isD (.int letters)), .im (isD (.int size)), .im (isD (.int longest)), .im (isD (.bool apart)), .ow (isL ((wordsS dr letters longest apart k).1.map .int)), .ow (isL (wD (wordsS dr letters longest apart k).2)), .no, .no, .no, .no]
  refine ss_seq (G1 := Gc 0) ?_ ?_
  · refine ss_nxIs (ss_parLL (svl_range1 (i := letters) (sv_var rfl) (by omega) (by omega)) (svl_lst (ds := []) sa_nil (Nat.zero_le _))) ?_
    have e : ((List.range letters.toNat).map fun k : Nat => PyData.int (k : Int)) = (wordsS dr letters longest apart 0).1.map PyData.int := by
      show _ = ((List.range letters.toNat).map fun k : Nat => (k : Int)).map PyData.int
      rw [List.map_map]
      rfl
    rw [e]
    rfl
  refine ss_seq (G1 := Gc size.toNat) ?_ (ss_retOw rfl)
  refine ss_forR (sv_var rfl) (by omega) Gc size.toNat (Nat.le_refl _) (Le.refl _) (fun _ _ => Nat.le_of_ble_eq_true rfl) (fun k hk => ?_) (.inl ⟨rfl, rfl⟩)
  have hk3 : 3 * (k : Int) + 2 < dr.length := by omega
  have e0 : (3 : Int) * (k : Int) = ((3 * k : Nat) : Int) := by omega
  have e1 : (3 : Int) * (k : Int) + 1 = ((3 * k + 1 : Nat) : Int) := by omega
  have e2 : (3 : Int) * (k : Int) + 2 = ((3 * k + 2 : Nat) : Int) := by omega
  have wl := wordsS_len dr letters longest apart k
  -- draws[3 * k + i]
  have d0 : ∀ {G : Gm}, G[0]? = some (.im (isD (.list (dr.map .int)))) → G[7]? = some (.im (isD (.int (k : Int)))) → Sv (tCB cInt (tCons (tOp (rIx K) (tVar 0) (tOp (uMul K) (tC (.int 3)) (tVar 7))) tNil)) G (isD (.int (atD dr (3 * k)))) := fun h0 h7 =>
    sv_int1 (sv_ixL (rl_sv (sv_var h0)) (sv_mul sv_int (sv_var h7) (.inl ⟨by decide, by decide⟩)) (by rw [e0]; exact hat _ (by omega)))
  have d1 : ∀ {G : Gm}, G[0]? = some (.im (isD (.list (dr.map .int)))) → G[7]? = some (.im (isD (.int (k : Int)))) → Sv (tCB cInt (tCons (tOp (rIx K) (tVar 0) (tOp (uAdd K) (tOp (uMul K) (tC (.int 3)) (tVar 7)) (tC (.int 1)))) tNil)) G (isD (.int (atD dr (3 * k + 1)))) := fun h0 h7 =>
    sv_int1 (sv_ixL (rl_sv (sv_var h0)) (sv_add (sv_mul sv_int (sv_var h7) (.inl ⟨by decide, by decide⟩)) sv_int) (by rw [e1]; exact hat _ (by omega)))
  have d2 : ∀ {G : Gm}, G[0]? = some (.im (isD (.list (dr.map .int)))) → G[7]? = some (.im (isD (.int (k : Int)))) → Sv (tCB cInt (tCons (tOp (rIx K) (tVar 0) (tOp (uAdd K) (tOp (uMul K) (tC (.int 3)) (tVar 7)) (tC (.int 2)))) tNil)) G (isD (.int (atD dr (3 * k + 2)))) := fun h0 h7 =>
    sv_int1 (sv_ixL (rl_sv (sv_var h0)) (sv_add (sv_mul sv_int (sv_var h7) (.inl ⟨by decide, by decide⟩)) sv_int) (by rw [e2]; exact hat _ (by omega)))
  have hmx : 0 < (if 1 > letters then 1 else letters) := by split <;> omega
  -- behind the first letter
  let Gw : List Int → Int → Gm := fun left first => [.im (isD (.list (dr.map .int))), .im (isD (.int letters)), .im (isD (.int size)), .im (isD (.int longest)), .im (isD (.bool apart)), .ow (isL (left.map .int)), .ow (isL (wD (wordsS dr letters longest apart k).2)), .im (isD (.int (k : Int))), .im (isD (.int first)), .no, .no]
  -- the word, put behind the others
  have rest : ∀ (left : List Int) (first : Int), Ss (fun _ => E) (tSeq (tAsg (tLst (tCons (tVar 8) tNil)) (gName 9)) (tSeq (tFor (iRng1 (tCons (tOp (rI (fun _ j => 0 < j) fun i j => .int (i % j)) (tCB cInt (tCons (tOp (rIx K) (tVar 0) (tOp (uAdd K) (tOp (uMul K) (tC (.int 3)) (tVar 7)) (tC (.int 1)))) tNil)) (tVar 3)) tNil)) (gName 10)
      (tDrop (tBM K "list" rAppend (tVar 9) (tCons (tOp (rI (fun _ j => 0 < j) fun i j => .int (i % j)) (tOp (rI CDiv fun i j => .int (i / j)) (tCB cInt (tCons (tOp (rIx K) (tVar 0) (tOp (uAdd K) (tOp (uMul K) (tC (.int 3)) (tVar 7)) (tC (.int 2)))) tNil)) (tOp (rIx K) (tTup (tCons (tC (.int 1)) (tCons (tC (.int 3)) (tCons (tC (.int 7)) (tCons (tC (.int 11)) (tCons (tC (.int 19)) (tCons (tC (.int 31)) (tCons (tC (.int 53)) (tCons (tC (.int 97)) tNil))))))))) (tOp (rI (fun _ j => 0 < j) fun i j => .int (i % j)) (tVar 10) (tC (.int 8))))) (tVar 1)) tNil))))
      (tDrop (tBM K "list" rAppend (tVar 6) (tCons (tThen (tVar 9) (kTup K)) tNil))))) (Gw left first) (.nx ([.im (isD (.list (dr.map .int))), .im (isD (.int letters)), .im (isD (.int size)), .im (isD (.int longest)), .im (isD (.bool apart)), .ow (isL (left.map .int)), .ow (isL (wD ((wordsS dr letters longest apart k).2 ++ [wordD dr letters longest first k]))), .no, .no, .no, .no] : Gm)) := fun left first => by
    refine ss_seq (ss_setL (svl_lst (ds := [.int first]) (sa_ims (sv_var rfl) sa_nil) (by show 1 ≤ sizeLine; decide))) ?_
    let f : Nat → Int := fun j => atD dr (3 * k + 2) / primD j % letters
    let Gj : Nat → Gm := fun j => [.im (isD (.list (dr.map .int))), .im (isD (.int letters)), .im (isD (.int size)), .im (isD (.int longest)), .im (isD (.bool apart)), .ow (isL (left.map .int)), .ow (isL (wD (wordsS dr letters longest apart k).2)), .im (isD (.int (k : Int))), .im (isD (.int first)), .ow (isL ((first :: (List.range j).map f).map .int)), .no]
    have hm1 : 0 ≤ atD dr (3 * k + 1) % longest := Int.emod_nonneg _ (by omega)
    have hm2 : atD dr (3 * k + 1) % longest < longest := Int.emod_lt_of_pos _ (by omega)
    refine ss_seq (G1 := Gj (atD dr (3 * k + 1) % longest).toNat) ?_ ?_
    · refine ss_forR (sv_mod (d1 rfl rfl) (sv_var rfl) (by omega)) (by omega) Gj _ (Nat.le_refl _) (Le.refl _) (fun _ _ => Nat.le_of_ble_eq_true rfl) (fun j hj => ?_) (.inl ⟨rfl, rfl⟩)
      refine .inl (ss_nxLe (ss_append (ds := (first :: (List.range j).map f).map .int) (d := .int (f j)) rfl (sv_mod (sv_div (d2 rfl rfl) (sv_ixT (sv_tup (ds := [.int 1, .int 3, .int 7, .int 11, .int 19, .int 31, .int 53, .int 97]) (sa_ims sv_int (sa_ims sv_int (sa_ims sv_int (sa_ims sv_int (sa_ims sv_int (sa_ims sv_int (sa_ims sv_int (sa_ims sv_int sa_nil)))))))) (by decide)) (sv_mod (sv_var rfl) sv_int (by decide)) (prim_at j)) (prim_div j)) (sv_var rfl) (by omega)) ?_) ?_)
      · rw [List.length_map, List.length_cons, List.length_map, List.length_range]; omega
      · have e3 : (first :: (List.range (j + 1)).map f).map PyData.int = (first :: (List.range j).map f).map PyData.int ++ [.int (f j)] := by rw [List.range_succ]; simp
        show Le _ [_, _, _, _, _, _, _, _, _, .ow (isL ((first :: (List.range (j + 1)).map f).map .int)), .no]
        rw [e3]
        exact Le.eq (Le.eq (Le.eq (Le.eq (Le.eq (Le.eq (Le.eq (Le.eq (Le.eq (Le.eq (Le.no Le.nil))))))))))
    · have e4 : wD ((wordsS dr letters longest apart k).2 ++ [wordD dr letters longest first k]) = wD (wordsS dr letters longest apart k).2 ++ [.tuple ((wordD dr letters longest first k).map .int)] := by unfold wD; simp
      rw [e4]
      refine ss_nxLe (ss_append (ds := wD (wordsS dr letters longest apart k).2) (d := .tuple ((wordD dr letters longest first k).map .int)) rfl (sv_tupleL (rl_ow rfl)) ?_) ?_
      · unfold wD; rw [List.length_map, wl]; omega
      · exact Le.eq (Le.eq (Le.eq (Le.eq (Le.eq (Le.eq (Le.eq (Le.no (Le.no (Le.no (Le.no Le.nil))))))))))
  refine .inl ?_
  refine ss_seq (ss_set (sv_mod (d0 rfl rfl) (sv_max2 (sv_var rfl) sv_int) hmx)) ?_
  by_cases hA : apart = true
  · have hlen : ((wordsS dr letters longest apart k).1.length : Int) = letters - k := by rw [hA]; exact leftS_len dr letters longest k hpos (by have := hap hA; omega)
    have hlt : (k : Int) < letters := by have := hap hA; omega
    have eS : wordsS dr letters longest apart (k + 1) = ((wordsS dr letters longest apart k).1.eraseIdx (atD dr (3 * k) % ((wordsS dr letters longest apart k).1.length : Int)).toNat,
        (wordsS dr letters longest apart k).2 ++ [wordD dr letters longest ((wordsS dr letters longest apart k).1.getD (atD dr (3 * k) % ((wordsS dr letters longest apart k).1.length : Int)).toNat 0) k]) := if_pos hA
    have eG : Gc (k + 1) = [.im (isD (.list (dr.map .int))), .im (isD (.int letters)), .im (isD (.int size)), .im (isD (.int longest)), .im (isD (.bool apart)), .ow (isL ((wordsS dr letters longest apart (k + 1)).1.map .int)), .ow (isL (wD (wordsS dr letters longest apart (k + 1)).2)), .no, .no, .no, .no] := rfl
    rw [eG, eS]
    have eK : Gc k = [.im (isD (.list (dr.map .int))), .im (isD (.int letters)), .im (isD (.int size)), .im (isD (.int longest)), .im (isD (.bool apart)), .ow (isL ((wordsS dr letters longest apart k).1.map .int)), .ow (isL (wD (wordsS dr letters longest apart k).2)), .no, .no, .no, .no] := rfl
    rw [eK]
    have r := rest ((wordsS dr letters longest apart k).1.eraseIdx (atD dr (3 * k) % ((wordsS dr letters longest apart k).1.length : Int)).toNat) ((wordsS dr letters longest apart k).1.getD (atD dr (3 * k) % ((wordsS dr letters longest apart k).1.length : Int)).toNat 0)
    refine ss_seq ?_ r
    generalize (wordsS dr letters longest apart k).1 = left at hlen ⊢
    have i0 : 0 ≤ atD dr (3 * k) % (left.length : Int) := Int.emod_nonneg _ (by omega)
    have i1 : atD dr (3 * k) % (left.length : Int) < left.length := Int.emod_lt_of_pos _ (by omega)
    have e5 : (left.eraseIdx (atD dr (3 * k) % (left.length : Int)).toNat).map PyData.int = (left.map PyData.int).eraseIdx (atD dr (3 * k) % (left.length : Int)).toNat := (eraseIdx_map' _ _ _).symm
    show Ss _ _ _ (.nx [.im (isD (.list (dr.map .int))), .im (isD (.int letters)), .im (isD (.int size)), .im (isD (.int longest)), .im (isD (.bool apart)), .ow (isL ((left.eraseIdx (atD dr (3 * k) % (left.length : Int)).toNat).map .int)), .ow (isL (wD (wordsS dr letters longest apart k).2)), .im (isD (.int (k : Int))), .im (isD (.int (left.getD (atD dr (3 * k) % (left.length : Int)).toNat 0))), .no, .no])
    rw [e5]
    refine ss_if1 (st_is (st_B (sv_var rfl)) hA) ?_
    exact ss_setPopAt (n := 5) (m := 8) (ds := left.map .int) (i := atD dr (3 * k) % (left.length : Int)) (d := .int (left.getD (atD dr (3 * k) % (left.length : Int)).toNat 0)) rfl
      (sv_is (sv_mod (d0 rfl rfl) (sv_lenL (rl_ow (ds := left.map .int) rfl)) (by rw [List.length_map]; omega)) (by rw [List.length_map])) (by rw [List.length_map]; exact ⟨i0, i1⟩) (by rw [List.length_map]; omega)
      (by rw [List.getElem?_map, List.getElem?_eq_getElem (show (atD dr (3 * k) % (left.length : Int)).toNat < left.length by omega), List.getD_eq_getElem?_getD, List.getElem?_eq_getElem (show (atD dr (3 * k) % (left.length : Int)).toNat < left.length by omega)]; rfl)
  · have hA' : apart = false := by cases apart <;> first | rfl | exact absurd rfl hA
    have eS : wordsS dr letters longest apart (k + 1) = ((wordsS dr letters longest apart k).1, (wordsS dr letters longest apart k).2 ++ [wordD dr letters longest (atD dr (3 * k) % (if 1 > letters then 1 else letters)) k]) := if_neg hA
    have eG : Gc (k + 1) = [.im (isD (.list (dr.map .int))), .im (isD (.int letters)), .im (isD (.int size)), .im (isD (.int longest)), .im (isD (.bool apart)), .ow (isL ((wordsS dr letters longest apart (k + 1)).1.map .int)), .ow (isL (wD (wordsS dr letters longest apart (k + 1)).2)), .no, .no, .no, .no] := rfl
    rw [eG, eS]
    refine ss_seq (G1 := Gw (wordsS dr letters longest apart k).1 (atD dr (3 * k) % (if 1 > letters then 1 else letters))) (ss_if0 (st_is (st_B (sv_var rfl)) hA') ss_next) ?_
    exact rest _ _

/-! ### _law_pair -/
def hdL (w : List Int) : Int := w.getD 0 0
def sizeP (D : List Int) (n : Int) (k : Nat) : Int := if n - atD D k % (if atD D (2 + k) % 3 = 0 then 1 else if atD D (2 + k) % 3 = 1 then 2 else n) > 1 then n - atD D k % (if atD D (2 + k) % 3 = 0 then 1 else if atD D (2 + k) % 3 = 1 then 2 else n) else 1
def rowsP (D : List Int) (n longest : Int) (k : Nat) : List (List Int) := wordsF (D.drop (6 + 24 * k)) n (sizeP D n k) longest true
def likeP (A : List (List Int)) (w : List Int) : List (List Int) := A.filter fun u => decide (hdL u = hdL w)
def wayP (D : List Int) (k : Nat) : Int := atD D 5 / ([1, 3, 9, 27, 81, 243].getD k 1) % 4
def secF (D : List Int) (A : List (List Int)) (k : Nat) (w : List Int) : List Int := match likeP A w with
  | [] => w
  | u :: _ => if wayP D k = 1 then u.take (1 + u.length / 2) else if wayP D k = 2 then u ++ (A.getD ((k + 1) % A.length) []).take 2 else u
def secP (D : List Int) (n longest : Int) : List (List Int) := (List.range (rowsP D n longest 1).length).map fun k => secF D (rowsP D n longest 0) k ((rowsP D n longest 1).getD k [])
def pairP (D : List Int) (n longest : Int) : List (List Int) := if atD D 4 % 3 = 0 then rowsP D n longest 1 else secP D n longest
theorem sizeP_ok {D : List Int} {n : Int} (k : Nat) (hn : 1 ≤ n) (hp : ∀ i, 0 ≤ atD D i) : 1 ≤ sizeP D n k ∧ sizeP D n k ≤ n := by
  unfold sizeP
  generalize hm : (if atD D (2 + k) % 3 = 0 then 1 else if atD D (2 + k) % 3 = 1 then 2 else n) = m
  have hm1 : 1 ≤ m := by rw [← hm]; split; omega; split; omega; omega
  have h1 := Int.emod_nonneg (atD D k) (show m ≠ 0 by omega)
  split <;> omega
theorem hdAt {u : List Int} (h : 1 ≤ u.length) : atI (u.map PyData.int) ((0 : Nat) : Int) = some (.int (hdL u)) := by
  cases u with
  | nil => simp at h
  | cons a u => exact atI_nat rfl
theorem atD_drop {D : List Int} (n : Nat) (hp : ∀ i, 0 ≤ atD D i) (i : Nat) : 0 ≤ atD (D.drop n) i := by
  have := hp (n + i)
  unfold atD at this ⊢
  rw [List.getD_eq_getElem?_getD, List.getElem?_drop, ← List.getD_eq_getElem?_getD]
  exact this
theorem rowsP_ok {D : List Int} {n longest : Int} (k : Nat) (hn : 1 ≤ n) (hg : 1 ≤ longest) (hp : ∀ i, 0 ≤ atD D i) : ∀ w ∈ rowsP D n longest k, 1 ≤ w.length ∧ w.length ≤ longest ∧ ∀ v ∈ w, 0 ≤ v ∧ v < n :=
  wordsS_ok (longest := longest) (apart := true) hn hg (atD_drop _ hp) _ fun _ => by have := sizeP_ok (D := D) k hn hp; omega
theorem rowsP_len {D : List Int} {n longest : Int} (k : Nat) : (rowsP D n longest k).length = (sizeP D n k).toNat := wordsF_len
def S_law_pair : Fs := ⟨{x : List Int × Int × Int // 48 ≤ x.1.length ∧ (∀ v ∈ x.1, 0 ≤ v) ∧ (1 ≤ x.2.1 ∧ x.2.1 ≤ 6) ∧ 1 ≤ x.2.2 ∧ x.2.2 ≤ 900}, 3, fun x => [.im (isD (.list (x.1.1.map .int))), .im (isD (.int x.1.2.1)), .im (isD (.int x.1.2.2))], fun _ => rfl,
  fun x => .ok (isD (.tuple [.list (wD (rowsP x.1.1 x.1.2.1 x.1.2.2 0)), .list (wD (pairP x.1.1 x.1.2.1 x.1.2.2))]))⟩
abbrev st__law_pair : Stmt := top 38
theorem sc__law_pair : FnScope ["draws", "letters", "longest", "rows", "k", "size", "second", "word", "like", "way", "other"] ["draws", "letters", "longest"] (defScope st__law_pair) := ⟨rfl, rfl, rfl, by decide +kernel, rfl, by decide +kernel, by decide +kernel⟩
theorem ok__law_pair {f : Addr} {fd : FuncData} (T : Txt K mg cAE cBB cBT cNA cBk cPr cRd aE0 aEV aSI) (F__law_words : FnC P w K mg base 1 "_law_words" (spF (S_law_words))) (F : Fun K "_law_pair" "_law_pair" st__law_pair f fd) : FnOk P w K mg base (L2.CX P w) 2 f fd ["draws", "letters", "longest"] (spF (S_law_pair)) := by
  refine fn_ok F sc__law_pair rfl fun cdv A outer s H E hr => ?_
  have tk : Takes (cxD P w K mg base ["draws", "letters", "longest", "rows", "k", "size", "second", "word", "like", "way", "other"] "_law_pair" st__law_pair f cdv A outer s H E) (fun cls d _ H => E cls d H) := takes_of rfl rfl rfl rfl
  have hx := pxM tk
  have nd := sc__law_pair.nd
  refine ⟨_, (pss_cons (ps_set (i := 3) nd rfl (Or.inl rfl) (pe_lst pa_nil))
 (pss_cons (ps_for (passes_of rfl) rfl (pi_range1 (by rfl) T.no_range (pa_cons pe_int pa_nil)) (pg_name (i := 4) nd rfl (Or.inl rfl)) (pss_cons (ps_set (i := 5) nd rfl (Or.inl rfl) (pe_callB (call_max2 rfl) (by rfl) T.no_max (by decide +kernel) (pa_cons pe_int (pa_cons (pe_op op_sub (pv 1) (pe_op op_mod (pe_callTy call_int1 (by rfl) T.no_int (by decide +kernel) (pa_cons (pe_ix ix_seq (pv 0) (pv 4) (fun _ _ => rfl)) pa_nil)) (pe_ix ix_seq (pe_lst (pa_cons pe_int (pa_cons pe_int (pa_cons (pv 1) pa_nil)))) (pe_op op_mod (pe_callTy call_int1 (by rfl) T.no_int (by decide +kernel) (pa_cons (pe_ix ix_seq (pv 0) (pe_op op_uAdd pe_int (pv 4)) (fun _ _ => rfl)) pa_nil)) pe_int) (fun _ _ => rfl)))) pa_nil))))
 (pss_one (ps_expr (pe_bm PySem.F.plainAttrs_list PySem.F.slot_list_append PySem.F.type_list_append mt_append (pv 3) (pa_cons (pe_fn F__law_words hr hx (pa_cons (pe_slice sl_uSl (pv 0) (po_some (pe_op op_uAdd pe_int (pe_op op_uMul pe_int (pv 4)))) po_none) (pa_cons (pv 1) (pa_cons (pv 5) (pa_cons (pv 2) (pa_cons pe_bl pa_nil)))))) pa_nil))))))
 (pss_cons (ps_if (pt_cmpR (op_eqD hr.units) (pe_op op_mod (pe_callTy call_int1 (by rfl) T.no_int (by decide +kernel) (pa_cons (pe_ix ix_seq (pv 0) pe_int (fun _ _ => rfl)) pa_nil)) pe_int) pe_int (nomark _)) (pss_one (ps_ret (pe_tup (pa_cons (pe_ix ix_seq (pv 3) pe_int (fun _ _ => rfl)) (pa_cons (pe_ix ix_seq (pv 3) pe_int (fun _ _ => rfl)) pa_nil))))) pss_nil)
 (pss_cons (ps_set (i := 6) nd rfl (Or.inl rfl) (pe_lst pa_nil))
 (pss_cons (ps_for (passes_of rfl) rfl (pi_enum (by rfl) T.no_enumerate (pa_cons (pe_ix ix_seq (pv 3) pe_int (fun _ _ => rfl)) pa_nil)) (pg_tup rfl (pgs_cons (pg_name (i := 4) nd rfl (Or.inl rfl)) (pgs_cons (pg_name (i := 7) nd rfl (Or.inr rfl)) pgs_nil))) (pss_cons (ps_par (i := 8) (j := 9) rfl nd rfl rfl (by decide) rfl rfl (pa_cons (pe_lc (own := [("other", 10)]) (g := gName 10) rfl nd (pi_list (pe_ix ix_seq (pv 3) pe_int (fun _ _ => rfl))) (blkOk_by (N := ["draws", "letters", "longest", "rows", "k", "size", "second", "word", "like", "way", "other"]) (sc := defScope st__law_pair) (by decide +kernel)) (fun _ _ _ _ _ => pg_name (i := 10) nd rfl (Or.inl rfl)) (fun _ _ _ _ _ => (pts_one (pt_cmpR (r := rEqD K) (op_eqD hr.units) (pe_ix (r := rIx K) ix_seq (pv 10) pe_int (fun _ _ => rfl)) (pe_ix (r := rIx K) ix_seq (pv 7) pe_int (fun _ _ => rfl)) (nomark _)))) (fun _ _ _ _ _ => (pv 10))) (pa_cons (pe_op op_mod (pe_op op_fdiv (pe_callTy call_int1 (by rfl) T.no_int (by decide +kernel) (pa_cons (pe_ix ix_seq (pv 0) pe_int (fun _ _ => rfl)) pa_nil)) (pe_ix ix_seq (pe_tup (pa_cons pe_int (pa_cons pe_int (pa_cons pe_int (pa_cons pe_int (pa_cons pe_int (pa_cons pe_int pa_nil))))))) (pv 4) (fun _ _ => rfl))) pe_int) pa_nil)) (by rfl))
 (pss_cons (ps_if (pt_cmpR op_gt (pe_callB call_len (by rfl) T.no_len (by decide +kernel) (pa_cons (pv 8) pa_nil)) pe_int (nomark _)) (pss_cons (ps_set (i := 7) nd rfl (Or.inr rfl) (pe_ix ix_seq (pv 8) pe_int (fun _ _ => rfl)))
 (pss_cons (ps_if (pt_cmpR (op_eqD hr.units) (pv 9) pe_int (nomark _)) (pss_one (ps_set (i := 7) nd rfl (Or.inr rfl) (pe_slice sl_uSl (pv 7) po_none (po_some (pe_op op_uAdd pe_int (pe_op op_fdiv (pe_callB call_len (by rfl) T.no_len (by decide +kernel) (pa_cons (pv 7) pa_nil)) pe_int)))))) pss_nil)
 (pss_one (ps_if (pt_cmpR (op_eqD hr.units) (pv 9) pe_int (nomark _)) (pss_one (ps_set (i := 7) nd rfl (Or.inr rfl) (pe_op op_uAdd (pv 7) (pe_slice sl_uSl (pe_ix ix_seq (pe_ix ix_seq (pv 3) pe_int (fun _ _ => rfl)) (pe_op op_mod (pe_op op_uAdd (pv 4) pe_int) (pe_callB call_len (by rfl) T.no_len (by decide +kernel) (pa_cons (pe_ix ix_seq (pv 3) pe_int (fun _ _ => rfl)) pa_nil))) (fun _ _ => rfl)) po_none (po_some pe_int))))) pss_nil)))) pss_nil)
 (pss_one (ps_expr (pe_bm PySem.F.plainAttrs_list PySem.F.slot_list_append PySem.F.type_list_append mt_append (pv 6) (pa_cons (pv 7) pa_nil)))))))
 (pss_one (ps_ret (pe_tup (pa_cons (pe_ix ix_seq (pv 3) pe_int (fun _ _ => rfl)) (pa_cons (pv 6) pa_nil)))))))))), ?_⟩
  intro x
  obtain ⟨⟨D, n, g⟩, hDl, hDv, ⟨hn1, hn6⟩, hg1, hg2⟩ := x
  have hDl : 48 ≤ D.length := hDl
  have hDv : ∀ v ∈ D, 0 ≤ v := hDv
  have hn1 : 1 ≤ n := hn1
  have hn6 : n ≤ 6 := hn6
  have hg1 : 1 ≤ g := hg1
  have hg2 : g ≤ 900 := hg2
  have hz : (sizeLine : Nat) = 16777216 := sizeLine_eq
  have hp : ∀ i, 0 ≤ atD D i := fun i => by
    unfold atD
    rw [List.getD_eq_getElem?_getD]
    cases e : D[i]? with
    | none => exact Int.le_refl 0
    | some v => exact hDv v (List.mem_of_getElem? e)
  have dr : ∀ {G : Gm} {te : TE} {k : Nat}, G[0]? = some (.im (isD (.list (D.map .int)))) → k < 48 → Sv te G (isD (.int (k : Int))) → Sv (tCB cInt (tCons (tOp (rIx K) (tVar 0) te) tNil)) G (isD (.int (atD D k))) := fun {G te k} h hk ht => sv_int1 (sv_ixL (i := ((k : Nat) : Int)) (rl_sv (sv_var h)) ht (atI_ints (ds := D) (k := k) (by omega)))
  show Mini.Ans _ _ [.im (isD (.list (D.map .int))), .im (isD (.int n)), .im (isD (.int g)), .no, .no, .no, .no, .no, .no, .no, .no] (.ok (isD (.tuple [.list (wD (rowsP D n g 0)), .list (wD (pairP D n g))])))
  refine .ok (ss_seq (ss_setL (svl_lst (ds := []) sa_nil (Nat.zero_le _))) ?_)
  refine ss_seq (ss_forR (j := 4) (n := 2) sv_int (by decide) (fun i => [.im (isD (.list (D.map .int))), .im (isD (.int n)), .im (isD (.int g)), .ow (isL ((List.range i).map fun k => PyData.list (wD (rowsP D n g k)))), .no, .no, .no, .no, .no, .no, .no]) 2 (Nat.le_refl _) (Le.refl _) (fun _ _ => Nat.le_of_ble_eq_true rfl) (fun i hi => ?_) (.inl ⟨rfl, rfl⟩)) ?_
  · refine .inl ?_
    show Ss _ _ [.im (isD (.list (D.map .int))), .im (isD (.int n)), .im (isD (.int g)), .ow (isL ((List.range i).map fun k => PyData.list (wD (rowsP D n g k)))), .im (isD (.int (i : Int))), .no, .no, .no, .no, .no, .no] _
    have h3a := Int.emod_nonneg (atD D (2 + i)) (show (3 : Int) ≠ 0 by decide)
    have h3b := Int.emod_lt_of_pos (atD D (2 + i)) (show (0 : Int) < 3 by decide)
    have hm1 : 1 ≤ (if atD D (2 + i) % 3 = 0 then 1 else if atD D (2 + i) % 3 = 1 then 2 else n) := by split; omega; split; omega; omega
    refine ss_seq (ss_set (P := isD (.int (sizeP D n i))) (sv_max2 sv_int (sv_sub (sv_var rfl) (sv_mod (dr (k := i) rfl (by omega) (sv_var rfl)) (sv_ixL (d := .int (if atD D (2 + i) % 3 = 0 then 1 else if atD D (2 + i) % 3 = 1 then 2 else n)) (rl_svl (svl_lst (ds := [.int 1, .int 2, .int n]) (sa_ims sv_int (sa_ims sv_int (sa_ims (sv_var rfl) sa_nil))) (by show 3 ≤ sizeLine; decide))) (sv_mod (dr (k := 2 + i) rfl (by omega) (sv_is (sv_add sv_int (sv_var rfl)) (by rw [Int.natCast_add]; rfl))) sv_int (by decide)) ?_) (by omega))))) ?_
    · have h3 : atD D (2 + i) % 3 = 0 ∨ atD D (2 + i) % 3 = 1 ∨ atD D (2 + i) % 3 = 2 := by omega
      rcases h3 with h | h | h <;> rw [h] <;> rfl
    have hs := sizeP_ok (D := D) i hn1 hp
    have ed : cutD (D.map PyData.int) (some (6 + 24 * (i : Int))) none = (D.drop (6 + 24 * i)).map .int := by
      rw [cut_drop _ (by omega), ← List.map_drop]
      congr 2
    refine ss_nxLe (ss_append (n := 3) (ds := (List.range i).map fun k => PyData.list (wD (rowsP D n g k))) (d := .list (wD (rowsP D n g i))) rfl (sv_svl (svl_call (S := S_law_words) (sa_im (sv_is (d := .list (cutD (D.map PyData.int) (some (6 + 24 * (i : Int))) none)) (sv_svl (svl_slice (rl_sv (sv_var rfl)) (so_some (sv_add sv_int (sv_mul sv_int (sv_var rfl) (.inl ⟨by decide, by decide⟩)))) so_none)) (by rw [ed])) (sa_im (sv_var rfl) (sa_im (sv_var rfl) (sa_im (sv_var rfl) (sa_im sv_bl sa_nil)))))
      ⟨(D.drop (6 + 24 * i), n, sizeP D n i, g, true), fun v hv => hDv v (List.mem_of_mem_drop hv), hn1, by show n ≤ 100; omega, by show 0 ≤ sizeP D n i; omega, by show sizeP D n i ≤ 100; omega, by show 3 * sizeP D n i ≤ ((D.drop (6 + 24 * i)).length : Int); rw [List.length_drop]; omega, hg1, by show g ≤ 1000; omega, fun _ => hs.2⟩ rfl rfl)) (by rw [List.length_map, List.length_range]; omega)) ?_
    rw [List.range_succ, List.map_append]
    exact Le.eq (Le.eq (Le.eq (Le.eq (Le.no (Le.no (Le.eq (Le.eq (Le.eq (Le.eq (Le.eq Le.nil))))))))))
  have hA := rowsP_ok (D := D) (n := n) (longest := g) 0 hn1 hg1 hp
  have hB := rowsP_ok (D := D) (n := n) (longest := g) 1 hn1 hg1 hp
  have hAl : (rowsP D n g 0).length = (sizeP D n 0).toNat := rowsP_len 0
  have hBl : (rowsP D n g 1).length = (sizeP D n 1).toNat := rowsP_len 1
  have hs0 := sizeP_ok (D := D) 0 hn1 hp
  have hs1 := sizeP_ok (D := D) 1 hn1 hp
  refine ss_freeze (n := 3) (ds := [PyData.list (wD (rowsP D n g 0)), .list (wD (rowsP D n g 1))]) rfl ?_
  have esec : secP D n g = (List.range (rowsP D n g 1).length).map fun k => secF D (rowsP D n g 0) k ((rowsP D n g 1).getD k []) := rfl
  unfold pairP
  rw [esec]
  generalize rowsP D n g 0 = A at hA hAl ⊢
  generalize rowsP D n g 1 = B at hB hBl ⊢
  have lA : (wD A).length = A.length := by unfold wD; rw [List.length_map]
  have lB : (wD B).length = B.length := by unfold wD; rw [List.length_map]
  have r0 : ∀ {G : Gm}, G[3]? = some (.im (isD (.list [PyData.list (wD A), .list (wD B)]))) → Sv (tOp (rIx K) (tVar 3) (tC (.int 0))) G (isD (.list (wD A))) := fun {G} h => sv_ixL (i := ((0 : Nat) : Int)) (rl_sv (sv_var h)) sv_int (atI_nat rfl)
  have r1 : ∀ {G : Gm}, G[3]? = some (.im (isD (.list [PyData.list (wD A), .list (wD B)]))) → Sv (tOp (rIx K) (tVar 3) (tC (.int 1))) G (isD (.list (wD B))) := fun {G} h => sv_ixL (i := ((1 : Nat) : Int)) (rl_sv (sv_var h)) sv_int (atI_nat rfl)
  have two : ∀ {G : Gm} {a b : TE} {d e : PyData}, Sv a G (isD d) → Sv b G (isD e) → Sv (tTup (tCons a (tCons b tNil))) G (isD (.tuple [d, e])) := fun {G a b d e} h h' => sv_tup (ds := [d, e]) (sa_ims h (sa_ims h' sa_nil)) (by show 2 ≤ sizeLine; decide)
  have t4 : ∀ {G : Gm}, G[0]? = some (.im (isD (.list (D.map .int)))) → St' (tTest (tOp (rEqD K) (tOp (rI (fun _ j => 0 < j) fun i j => .int (i % j)) (tCB cInt (tCons (tOp (rIx K) (tVar 0) (tC (.int 4))) tNil)) (tC (.int 3))) (tC (.int 0)))) G (decide (atD D 4 % 3 = 0)) := fun h => st_test (sv_eqI (sv_mod (dr (k := 4) h (by omega) sv_int) sv_int (by decide)) sv_int)
  by_cases c4 : atD D 4 % 3 = 0
  · rw [if_pos c4]
    exact ss_seqRt (ss_if1 (st_is (t4 rfl) (decide_eq_true c4)) (ss_ret (two (r0 rfl) (r1 rfl))))
  rw [if_neg c4]
  refine ss_seq (ss_if0 (st_is (t4 rfl) (decide_eq_false c4)) ss_next) ?_
  refine ss_seq (ss_setL (svl_lst (ds := []) sa_nil (Nat.zero_le _))) ?_
  let Gs : Nat → Gm := fun i => [.im (isD (.list (D.map .int))), .im (isD (.int n)), .im (isD (.int g)), .im (isD (.list [PyData.list (wD A), .list (wD B)])), .no, .no, .ow (isL (wD ((List.range i).map fun k => secF D A k (B.getD k [])))), .no, .no, .no, .no]
  refine ss_seq (G1 := Gs B.length) ?_ ?_
  · refine ss_nxLe (ss_forE (j := 4) (l := 7) (ds := wD B) (r1 rfl) Gs (wD B).length (Nat.le_refl _) (Le.refl _) (fun _ _ => Nat.le_of_ble_eq_true rfl) (fun _ _ => Nat.le_of_ble_eq_true rfl) (fun i d hd hi => ?_) (.inl ⟨rfl, rfl⟩)) (by rw [lB]; exact Le.refl _)
    have hi : i < B.length := by rw [← lB]; exact hi
    have hdw : (wD B)[i]? = some (.tuple ((B.getD i []).map .int)) := wD_get (by omega)
    rw [hdw] at hd
    cases hd
    have hw := hB (B.getD i []) (by rw [List.getD_eq_getElem?_getD, List.getElem?_eq_getElem hi]; exact List.getElem_mem hi)
    have hsf : secF D A i (B.getD i []) = secF D A i (B.getD i []) := rfl
    have es : (List.range (i + 1)).map (fun k => secF D A k (B.getD k [])) = (List.range i).map (fun k => secF D A k (B.getD k [])) ++ [secF D A i (B.getD i [])] := by rw [List.range_succ, List.map_append]; rfl
    have lsec : ((List.range i).map fun k => secF D A k (B.getD k [])).length = i := by rw [List.length_map, List.length_range]
    show Mini.Turn _ _ _ [.im (isD (.list (D.map .int))), .im (isD (.int n)), .im (isD (.int g)), .im (isD (.list [PyData.list (wD A), .list (wD B)])), .no, .no, .ow (isL (wD ((List.range (i + 1)).map fun k => secF D A k (B.getD k [])))), .no, .no, .no, .no]
    rw [es]
    show Mini.Turn _ _ [.im (isD (.list (D.map .int))), .im (isD (.int n)), .im (isD (.int g)), .im (isD (.list [PyData.list (wD A), .list (wD B)])), .im (isD (.int (i : Int))), .no, .ow (isL (wD ((List.range i).map fun k => secF D A k (B.getD k [])))), .im (isD (.tuple ((B.getD i []).map .int))), .no, .no, .no] _
    generalize (List.range i).map (fun k => secF D A k (B.getD k [])) = Z at lsec ⊢
    unfold secF
    generalize B.getD i [] = w at hw ⊢
    refine .inl ?_
    -- like, way
    refine ss_seq (ss_par (P := isD (.list (wD (likeP A w)))) (P' := isD (.int (wayP D i))) (sv_svl (svl_is (svl_lcL (j := 10) (ds := wD A) (rl_sv (r0 rfl)) (fun k => wD ((A.take k).filter fun u => decide (hdL u = hdL w))) (fun k => decide (hdL (A.getD k []) = hdL w)) (fun k => .tuple ((A.getD k []).map .int)) (Nat.le_of_ble_eq_true rfl) rfl (by omega) (fun k d hd => ?_) (fun k d hd _ => ?_) (fun k hk => ?_)) ?_)) (sv_mod (sv_div (dr (k := 5) rfl (by omega) sv_int) (sv_ixT (ds := [.int 1, .int 3, .int 9, .int 27, .int 81, .int 243]) (d := .int ([1, 3, 9, 27, 81, 243].getD i 1)) (i := (i : Int)) (sv_tup (sa_ims sv_int (sa_ims sv_int (sa_ims sv_int (sa_ims sv_int (sa_ims sv_int (sa_ims sv_int sa_nil)))))) (by show 6 ≤ sizeLine; decide)) (sv_var rfl) ?_) ?_) sv_int (by decide))) ?_
    · obtain ⟨u, hu, rfl⟩ := List.mem_map.mp (List.mem_of_getElem? hd)
      have hk : k < A.length := by have := (List.getElem?_eq_some_iff.mp hd).1; omega
      have e0 : (wD A)[k]? = some (.tuple ((A.getD k []).map .int)) := wD_get hk
      rw [e0] at hd
      have hku : A.getD k [] ∈ A := by rw [List.getD_eq_getElem?_getD, List.getElem?_eq_getElem hk]; exact List.getElem_mem hk
      rw [← Option.some.inj hd]
      exact st_test (sv_eqI (sv_ixT (i := ((0 : Nat) : Int)) (sv_var rfl) sv_int (hdAt (hA _ hku).1)) (sv_ixT (i := ((0 : Nat) : Int)) (sv_var rfl) sv_int (hdAt hw.1)))
    · have hk : k < A.length := by have := (List.getElem?_eq_some_iff.mp hd).1; omega
      have e0 : (wD A)[k]? = some (.tuple ((A.getD k []).map .int)) := wD_get hk
      rw [e0] at hd
      rw [← Option.some.inj hd]
      exact sv_var rfl
    · have hk : k < A.length := by omega
      have e1 : A.getD k [] = A[k] := by rw [List.getD_eq_getElem?_getD, List.getElem?_eq_getElem hk]; rfl
      show wD ((A.take (k + 1)).filter _) = if decide (hdL (A.getD k []) = hdL w) = true then wD ((A.take k).filter _) ++ [_] else wD ((A.take k).filter _)
      rw [List.take_succ, List.getElem?_eq_getElem hk, List.filter_append, e1]
      by_cases c : hdL A[k] = hdL w
      · rw [if_pos (decide_eq_true c)]
        show wD (_ ++ [A[k]].filter _) = _
        rw [List.filter_cons, if_pos (decide_eq_true c), List.filter_nil]
        unfold wD
        rw [List.map_append]; rfl
      · rw [if_neg (by rw [decide_eq_false c]; decide)]
        show wD (_ ++ [A[k]].filter _) = _
        rw [List.filter_cons, if_neg (by rw [decide_eq_false c]; decide), List.filter_nil, List.append_nil]
    · show wD ((A.take (wD A).length).filter _) = _
      rw [lA, List.take_length]; rfl
    · have hi6 : i = 0 ∨ i = 1 ∨ i = 2 ∨ i = 3 ∨ i = 4 ∨ i = 5 := by omega
      rcases hi6 with h | h | h | h | h | h <;> rw [h] <;> rfl
    · have hi6 : i = 0 ∨ i = 1 ∨ i = 2 ∨ i = 3 ∨ i = 4 ∨ i = 5 := by omega
      rcases hi6 with h | h | h | h | h | h <;> rw [h] <;> exact ⟨by decide, by decide⟩
    let Gw : PyData → List PyData → Gm := fun d zs => [.im (isD (.list (D.map .int))), .im (isD (.int n)), .im (isD (.int g)), .im (isD (.list [PyData.list (wD A), .list (wD B)])), .im (isD (.int (i : Int))), .no, .ow (isL zs), .im (isD d), .im (isD (.list (wD (likeP A w)))), .im (isD (.int (wayP D i))), .no]
    show Ss _ _ (Gw (.tuple (w.map .int)) (wD Z)) _
    have last : ∀ x : List Int, Ss (fun _ => E) (tDrop (tBM K "list" rAppend (tVar 6) (tCons (tVar 7) tNil))) (Gw (.tuple (x.map .int)) (wD Z)) (.nx [.im (isD (.list (D.map .int))), .im (isD (.int n)), .im (isD (.int g)), .im (isD (.list [PyData.list (wD A), .list (wD B)])), .no, .no, .ow (isL (wD (Z ++ [x]))), .no, .no, .no, .no]) := fun x => by
      refine ss_nxLe (ss_append (n := 6) (ds := wD Z) (d := .tuple (x.map .int)) rfl (sv_var rfl) (by unfold wD; rw [List.length_map, lsec]; omega)) ?_
      have e : wD (Z ++ [x]) = wD Z ++ [.tuple (x.map .int)] := by unfold wD; rw [List.map_append]; rfl
      rw [e]
      exact Le.eq (Le.eq (Le.eq (Le.eq (Le.no (Le.eq (Le.eq (Le.no (Le.no (Le.no (Le.refl _))))))))))
    have tl : ∀ {zs : List PyData}, St' (tTest (tOp (rI0 fun i j => .bl (decide (j < i))) (tCB (fun xs H Q => ∃ x n, xs = [x] ∧ LenV K x H n ∧ Q (.int n) H) (tCons (tVar 8) tNil)) (tC (.int 0)))) (Gw (.tuple (w.map .int)) zs) (decide ((0 : Int) < ((likeP A w).length : Nat))) := fun {zs} =>
      st_is (st_test (sv_cmp (g := fun i j => decide (j < i)) (sv_lenL (ds := wD (likeP A w)) (rl_sv (sv_var rfl))) sv_int)) (by unfold wD; rw [List.length_map])
    cases hlk : likeP A w with
    | nil => exact ss_seq (ss_if0 (st_is tl (by rw [hlk]; rfl)) ss_next) (last w)
    | cons u us =>
      have huA : u ∈ A := (List.mem_filter.mp (show u ∈ likeP A w by rw [hlk]; exact List.mem_cons_self)).1
      have hu := hA u huA
      refine ss_seq (G1 := Gw (.tuple ((if wayP D i = 1 then u.take (1 + u.length / 2) else if wayP D i = 2 then u ++ (A.getD ((i + 1) % A.length) []).take 2 else u).map .int)) (wD Z)) (ss_if1 (st_is tl (by rw [hlk]; simp)) ?_) (last _)
      refine ss_seq (G1 := Gw (.tuple (u.map .int)) (wD Z)) (ss_set (sv_ixL (i := ((0 : Nat) : Int)) (rl_sv (sv_var rfl)) sv_int (atI_nat (by rw [hlk]; rfl)))) ?_
      have tw : ∀ {d : PyData} {zs : List PyData} {k : Int}, St' (tTest (tOp (rEqD K) (tVar 9) (tC (.int k)))) (Gw d zs) (decide (wayP D i = k)) := fun {d zs k} => st_test (sv_eqI (sv_var rfl) sv_int)
      by_cases w1 : wayP D i = 1
      · rw [if_pos w1]
        refine ss_seq (G1 := Gw (.tuple ((u.take (1 + u.length / 2)).map .int)) (wD Z)) (ss_if1 (st_is tw (decide_eq_true w1)) (ss_set (sv_is (sv_sliceT (sv_var rfl) so_none (so_some (sv_add sv_int (sv_div (sv_lenT (ds := u.map .int) (sv_var rfl)) sv_int ⟨by decide, by decide⟩)))) ?_))) (ss_if0 (st_is tw (decide_eq_false (by omega))) ss_next)
        rw [List.length_map, cut_take _ (by omega), List.map_take]
        congr 2
      · rw [if_neg w1]
        refine ss_seq (G1 := Gw (.tuple (u.map .int)) (wD Z)) (ss_if0 (st_is tw (decide_eq_false w1)) ss_next) ?_
        by_cases w2 : wayP D i = 2
        · rw [if_pos w2]
          have hA0 : 0 < A.length := List.length_pos_of_mem huA
          have hm : (i + 1) % A.length < A.length := Nat.mod_lt _ hA0
          have hv := hA (A.getD ((i + 1) % A.length) []) (by rw [List.getD_eq_getElem?_getD, List.getElem?_eq_getElem hm]; exact List.getElem_mem hm)
          refine ss_if1 (st_is tw (decide_eq_true w2)) (ss_set (sv_is (sv_catT (sv_var rfl) (sv_sliceT (sv_ixL (rl_sv (r0 rfl)) (sv_is (sv_mod (sv_add (sv_var rfl) sv_int) (sv_lenL (rl_sv (r0 rfl))) (by rw [lA]; omega)) ?_) (atI_nat (wD_get hm))) so_none (so_some sv_int)) ?_) ?_))
          · rw [lA, Int.natCast_emod, Int.natCast_add]; rfl
          · rw [cut_take _ (by decide), List.length_take, List.length_map, List.length_map]; omega
          · rw [cut_take _ (by decide), List.map_append, List.map_take]; rfl
        · rw [if_neg w2]
          exact ss_if0 (st_is tw (decide_eq_false w2)) ss_next
  · refine ss_freeze (n := 6) (ds := wD ((List.range B.length).map fun k => secF D A k (B.getD k []))) rfl ?_
    exact ss_ret (two (r0 rfl) (sv_var rfl))
end
end K10

namespace K10
open PySem L2 Evl Mini PyProof.Rows
section
variable {P : Program} {w : World} {K : PySem.W.Frag} {mg : Str → Option Value} {base : Heap} {cAE cBB cBT cNA cBk cPr cRd aE0 aEV aSI : Addr}
/-! ### _law_same_as, of a thing and itself -/
def Q_no : PyData → Prop := fun _ => False
/-- an atom, or a tuple or list of what is told one level deeper -/
def Q_up (Q : PyData → Prop) (d : PyData) : Prop := AtomP d ∨ ∃ ds : List PyData, (d = .tuple ds ∨ d = .list ds) ∧ ds.length < 1000000 ∧ ∀ e ∈ ds, Q e
def S_sameP (K : PySem.W.Frag) (Q : PyData → Prop) : Fs := ⟨{d : PyData // Q d}, 2, fun x => [.im (isP K x.1), .im (isD x.1)], fun _ => rfl, fun _ => .ok (isD (.bool true))⟩

abbrev st_same_no : Stmt := top 35
theorem ok_same_no {f : Addr} {fd : FuncData} (T : Txt K mg cAE cBB cBT cNA cBk cPr cRd aE0 aEV aSI) (F : Fun K "_law_same_as" "_law_same_as" st_same_no f fd) : FnOk P w K mg base (L2.CX P w) 1 f fd ["told", "due"] (spF (S_sameP K Q_no)) := ⟨fun vs H Q E h => by obtain ⟨x, _⟩ := h; exact x.2.elim, fun A outer s H args us vs Q E hr e b r h => by obtain ⟨x, _⟩ := h; exact x.2.elim⟩
abbrev st_same0 : Stmt := top 35
theorem sc_same0 : FnScope ["told", "due", "k"] ["told", "due"] (defScope st_same0) := ⟨rfl, rfl, rfl, by decide +kernel, rfl, by decide +kernel, by decide +kernel⟩
theorem ok_same0 {f : Addr} {fd : FuncData} (T : Txt K mg cAE cBB cBT cNA cBk cPr cRd aE0 aEV aSI) (F__law_same_as : FnC P w K mg base 1 "_law_same_as" (spF (S_sameP K Q_no))) (F : Fun K "_law_same_as" "_law_same_as" st_same0 f fd) : FnOk P w K mg base (L2.CX P w) 2 f fd ["told", "due"] (spF (S_sameP K (Q_up Q_no))) := by
  refine fn_ok F sc_same0 rfl fun cdv A outer s H E hr => ?_
  have tk : Takes (cxD P w K mg base ["told", "due", "k"] "_law_same_as" st_same0 f cdv A outer s H E) (fun cls d _ H => E cls d H) := takes_of rfl rfl rfl rfl
  have hx := pxM tk
  have nd := sc_same0.nd
  refine ⟨_, (pss_cons (ps_if (PW.pt (pw_or (pt_val (pe_callB call_isi (by rfl) T.no_isinstance (by decide +kernel) (pa_cons (pv 1) (pa_cons (pe_bltn (by rfl) T.no_tuple (by decide +kernel) (v := .ty "tuple") rfl) pa_nil)))) (pw_or1 (pt_val (pe_callB call_isi (by rfl) T.no_isinstance (by decide +kernel) (pa_cons (pv 1) (pa_cons (pe_bltn (by rfl) T.no_list (by decide +kernel) (v := .ty "list") rfl) pa_nil))))))) (pss_cons (ps_if (PW.pt (pw_or (pt_cmpR (op_neD hr.units) (pe_callB call_isi (by rfl) T.no_isinstance (by decide +kernel) (pa_cons (pv 1) (pa_cons (pe_bltn (by rfl) T.no_tuple (by decide +kernel) (v := .ty "tuple") rfl) pa_nil))) (pe_callB call_isi (by rfl) T.no_isinstance (by decide +kernel) (pa_cons (pv 0) (pa_cons (pe_bltn (by rfl) T.no_tuple (by decide +kernel) (v := .ty "tuple") rfl) pa_nil))) (nomark _)) (pw_or (pt_cmpR (op_neD hr.units) (pe_callB call_isi (by rfl) T.no_isinstance (by decide +kernel) (pa_cons (pv 1) (pa_cons (pe_bltn (by rfl) T.no_list (by decide +kernel) (v := .ty "list") rfl) pa_nil))) (pe_callB call_isi (by rfl) T.no_isinstance (by decide +kernel) (pa_cons (pv 0) (pa_cons (pe_bltn (by rfl) T.no_list (by decide +kernel) (v := .ty "list") rfl) pa_nil))) (nomark _)) (pw_or1 (pt_cmpR (op_neD hr.units) (pe_callB call_len (by rfl) T.no_len (by decide +kernel) (pa_cons (pv 0) pa_nil)) (pe_callB call_len (by rfl) T.no_len (by decide +kernel) (pa_cons (pv 1) pa_nil)) (nomark _)))))) (pss_one (ps_ret pe_bl)) pss_nil)
 (pss_one (ps_ret (pe_callB (cr_all rfl) (by rfl) T.no_all (by decide +kernel) (pa_cons (pe_lc (own := [("k", 2)]) (g := gName 2) (tt := tYes) rfl nd (pi_range1 (by rfl) T.no_range (pa_cons (pe_callB call_len (by rfl) T.no_len (by decide +kernel) (pa_cons (pv 1) pa_nil)) pa_nil)) (blkOk_by (N := ["told", "due", "k"]) (sc := defScope st_same0) (by decide +kernel)) (fun _ _ _ _ _ => pg_name (i := 2) nd rfl (Or.inl rfl)) (fun _ _ _ _ _ => pts_nil) (fun _ _ _ _ _ => (pe_fn F__law_same_as hr px0 (pa_cons (pe_ix (r := rIx K) ix_seq (pv 0) (pv 2) (fun _ _ => rfl)) (pa_cons (pe_ix (r := rIx K) ix_seq (pv 1) (pv 2) (fun _ _ => rfl)) pa_nil))))) pa_nil))))) pss_nil)
 (pss_cons (ps_if (pt_cmpR op_isN (pv 1) pe_non (nomark _)) (pss_one (ps_ret (pe_cmpR op_isN (pv 0) pe_non (nomark _)))) pss_nil)
 (pss_cons (ps_if (PW.pt (pw_or (pt_val (pe_callB call_isi (by rfl) T.no_isinstance (by decide +kernel) (pa_cons (pv 1) (pa_cons (pe_bltn (by rfl) T.no_bool (by decide +kernel) (v := .ty "bool") rfl) pa_nil)))) (pw_or1 (pt_val (pe_callB call_isi (by rfl) T.no_isinstance (by decide +kernel) (pa_cons (pv 1) (pa_cons (pe_bltn (by rfl) T.no_str (by decide +kernel) (v := .ty "str") rfl) pa_nil))))))) (pss_one (ps_ret (pe_and (pe_cmpR (op_eqD hr.units) (pe_callB call_isi (by rfl) T.no_isinstance (by decide +kernel) (pa_cons (pv 0) (pa_cons (pe_bltn (by rfl) T.no_bool (by decide +kernel) (v := .ty "bool") rfl) pa_nil))) (pe_callB call_isi (by rfl) T.no_isinstance (by decide +kernel) (pa_cons (pv 1) (pa_cons (pe_bltn (by rfl) T.no_bool (by decide +kernel) (v := .ty "bool") rfl) pa_nil))) (nomark _)) (pe_and (pe_cmpR (op_eqD hr.units) (pe_callB call_isi (by rfl) T.no_isinstance (by decide +kernel) (pa_cons (pv 0) (pa_cons (pe_bltn (by rfl) T.no_str (by decide +kernel) (v := .ty "str") rfl) pa_nil))) (pe_callB call_isi (by rfl) T.no_isinstance (by decide +kernel) (pa_cons (pv 1) (pa_cons (pe_bltn (by rfl) T.no_str (by decide +kernel) (v := .ty "str") rfl) pa_nil))) (nomark _)) (pe_one (pe_cmpR (op_eqD hr.units) (pv 0) (pv 1) (nomark _))))))) pss_nil)
 (pss_one (ps_ret (pe_and (pe_callB call_isi (by rfl) T.no_isinstance (by decide +kernel) (pa_cons (pv 0) (pa_cons (pe_bltn (by rfl) T.no_int (by decide +kernel) (v := .ty "int") rfl) pa_nil))) (pe_and (pe_not (pe_callB call_isi (by rfl) T.no_isinstance (by decide +kernel) (pa_cons (pv 0) (pa_cons (pe_bltn (by rfl) T.no_bool (by decide +kernel) (v := .ty "bool") rfl) pa_nil)))) (pe_one (pe_cmpR (op_eqD hr.units) (pv 0) (pv 1) (nomark _)))))))))), ?_⟩
  intro x
  obtain ⟨d, hd⟩ := x
  have eqB : ∀ {G : Gm} {t1 t2 : TE} {b : Bool}, Sv t1 G (isD (.bool b)) → Sv t2 G (isD (.bool b)) → St' (tTest (tOp (rNeD K) t1 t2)) G false := fun {G t1 t2 b} h1 h2 => neB h1 h2 rfl
  have eqA : ∀ {G : Gm} {t1 t2 : TE} {b : Bool}, Sv t1 G (isD (.bool b)) → Sv t2 G (isD (.bool b)) → Sv (tOp (rEqD K) t1 t2) G (isD (.bool true)) := fun {G t1 t2 b} h1 h2 => sv_is (sv_eq h1 h2 (shapedB b) (shapedB b)) (by rw [eqvB]; simp)
  show Mini.Ans _ _ [.im (isP K d), .im (isD d), .no] (.ok (isD (.bool true)))
  have no1 : ∀ {d : PyData}, dTup d = false → dLst d = false → St' (tOr (tB (tCB (rIsi K) (tCons (tVar 1) (tCons (tC (.ty "tuple")) tNil)))) (tB (tCB (rIsi K) (tCons (tVar 1) (tCons (tC (.ty "list")) tNil))))) [.im (isP K d), .im (isD d), .no] false := fun {d} h1 h2 =>
    st_is (st_or (b := false) (c := false) (st_is (st_B (sv_isTup (sv_var rfl))) h1) fun _ => st_is (st_B (sv_isLst (sv_var rfl))) h2) rfl
  rcases hd with hd | ⟨ds, hdd, hl, hq⟩
  · have v0 : ∀ {G : Gm}, G[0]? = some (.im (isP K d)) → Sv (tVar 0) G (isD d) := fun h => sv_pA hd (sv_var h)
    refine .ok ?_
    cases d with
    | int i =>
      refine ss_seq (ss_if0 (no1 rfl rfl) ss_next) (ss_seq (ss_if0 (st_is (st_test (sv_isN (d := .int i) (sv_var rfl))) rfl) ss_next) (ss_seq (ss_if0 (st_is (st_or (b := false) (c := false) (st_is (st_B (sv_isBool (d := .int i) (sv_var rfl))) rfl) fun _ => st_is (st_B (sv_isStr (d := .int i) (sv_var rfl))) rfl) rfl) ss_next) ?_))
      exact ss_ret (sv_is (sv_and (sv_isInt (d := .int i) (v0 rfl)) fun _ => sv_and (sv_not (sv_isBool (d := .int i) (v0 rfl))) fun _ => sv_eqI (v0 rfl) (sv_var rfl)) (by simp [dInt, dBool]))
    | bool b =>
      refine ss_seq (ss_if0 (no1 rfl rfl) ss_next) (ss_seq (ss_if0 (st_is (st_test (sv_isN (d := .bool b) (sv_var rfl))) rfl) ss_next) (ss_seqRt (ss_if1 (st_is (st_or (c := false) (st_is (st_B (sv_isBool (d := .bool b) (sv_var rfl))) (show dBool (.bool b) = true from rfl)) fun z => by cases z) rfl) ?_)))
      exact ss_ret (sv_is (sv_and (eqA (sv_isBool (d := .bool b) (v0 rfl)) (sv_isBool (d := .bool b) (sv_var rfl))) fun _ => sv_and (eqA (sv_isStr (d := .bool b) (v0 rfl)) (sv_isStr (d := .bool b) (sv_var rfl))) fun _ => eqA (v0 rfl) (sv_var rfl)) rfl)
    | none =>
      refine ss_seq (ss_if0 (no1 rfl rfl) ss_next) (ss_seqRt (ss_if1 (st_is (st_test (sv_isN (d := .none) (sv_var rfl))) rfl) ?_))
      exact ss_ret (sv_is (sv_isN (d := .none) (v0 rfl)) rfl)
    | str x =>
      have hx : PyData.strOk x = true := hd
      have sh : SeqAt.shaped (.str x) = true := by
        unfold SeqAt.shaped
        rw [Bool.and_eq_true]
        exact ⟨by rw [PyData.canLay0]; exact hx, decide_eq_true (by rw [PyData.depth]; omega)⟩
      refine ss_seq (ss_if0 (no1 rfl rfl) ss_next) (ss_seq (ss_if0 (st_is (st_test (sv_isN (d := .str x) (sv_var rfl))) rfl) ss_next) (ss_seqRt (ss_if1 (st_is (st_or (b := false) (c := true) (st_is (st_B (sv_isBool (d := .str x) (sv_var rfl))) rfl) fun _ => st_is (st_B (sv_isStr (d := .str x) (sv_var rfl))) rfl) rfl) ?_)))
      exact ss_ret (sv_is (sv_and (eqA (sv_isBool (d := .str x) (v0 rfl)) (sv_isBool (d := .str x) (sv_var rfl))) fun _ => sv_and (eqA (sv_isStr (d := .str x) (v0 rfl)) (sv_isStr (d := .str x) (sv_var rfl))) fun _ => sv_is (sv_eq (d := .str x) (e := .str x) (v0 rfl) (sv_var rfl) sh sh) (show PyData.bool (PyData.eqv (.str x) (.str x)) = .bool true by rw [PyData.eqv]; simp)) rfl)
    | _ => exact absurd hd (by simp [AtomP])
  have hz : (sizeLine : Nat) = 16777216 := sizeLine_eq
  have got : ∀ i, (hi : i < ds.length) → atI ds (i : Int) = some ds[i] := fun i hi => atI_nat (List.getElem?_eq_getElem hi)
  have allT : PyData.bool (((List.range ds.length).map fun _ => true).all id) = .bool true := by
    congr 1
    rw [List.all_map]
    simp
  rcases hdd with rfl | rfl
  · refine .ok (ss_seqRt (ss_if1 (st_is (st_or (c := false) (st_is (st_B (sv_isTup (d := .tuple ds) (sv_var rfl))) (show dTup (.tuple ds) = true from rfl)) fun z => by cases z) rfl) (ss_seq (ss_if0 (st_is (st_or (b := false) (c := false) (eqB (sv_isTup (d := .tuple ds) (sv_var rfl)) (sv_isTupP (d := .tuple ds) (sv_var rfl))) fun _ => st_or (b := false) (c := false) (eqB (sv_isLst (d := .tuple ds) (sv_var rfl)) (sv_isLstP (d := .tuple ds) (sv_var rfl))) fun _ =>
      st_is (st_test (sv_neI (sv_lenP (ds := ds) (sv_var rfl)) (sv_lenT (ds := ds) (sv_var rfl)))) (by simp)) rfl) ss_next) ?_)))
    refine ss_ret (sv_is (sv_all (bs := (List.range ds.length).map fun _ => true) (rl_svl (svl_is (svl_lcMapR (j := 2) (n := (ds.length : Nat)) (sv_lenT (ds := ds) (sv_var rfl)) (fun _ => PyData.bool true) (Nat.le_of_ble_eq_true rfl) (by omega) (by omega) fun i hi => ?_) ?_))) allT)
    · rw [Int.toNat_natCast] at hi
      exact sv_call (S := S_sameP K (Q_no)) (sa_im (sv_ixP (sv_var rfl) (sv_var rfl) (got i hi)) (sa_im (sv_ixT (sv_var rfl) (sv_var rfl) (got i hi)) sa_nil)) ⟨ds[i], hq _ (List.getElem_mem hi)⟩ rfl rfl
    · rw [Int.toNat_natCast, List.map_map]; rfl
  · refine .ok (ss_seqRt (ss_if1 (st_is (st_or (b := false) (c := true) (st_is (st_B (sv_isTup (d := .list ds) (sv_var rfl))) rfl) fun _ => st_is (st_B (sv_isLst (d := .list ds) (sv_var rfl))) rfl) rfl) (ss_seq (ss_if0 (st_is (st_or (b := false) (c := false) (eqB (sv_isTup (d := .list ds) (sv_var rfl)) (sv_isTupP (d := .list ds) (sv_var rfl))) fun _ => st_or (b := false) (c := false) (eqB (sv_isLst (d := .list ds) (sv_var rfl)) (sv_isLstP (d := .list ds) (sv_var rfl))) fun _ =>
      st_is (st_test (sv_neI (sv_lenPL (ds := ds) (sv_var rfl)) (sv_lenL (ds := ds) (rl_sv (sv_var rfl))))) (by simp)) rfl) ss_next) ?_)))
    refine ss_ret (sv_is (sv_all (bs := (List.range ds.length).map fun _ => true) (rl_svl (svl_is (svl_lcMapR (j := 2) (n := (ds.length : Nat)) (sv_lenL (ds := ds) (rl_sv (sv_var rfl))) (fun _ => PyData.bool true) (Nat.le_of_ble_eq_true rfl) (by omega) (by omega) fun i hi => ?_) ?_))) allT)
    · rw [Int.toNat_natCast] at hi
      exact sv_call (S := S_sameP K (Q_no)) (sa_im (sv_ixPL (sv_var rfl) (sv_var rfl) (got i hi)) (sa_im (sv_ixL (rl_sv (sv_var rfl)) (sv_var rfl) (got i hi)) sa_nil)) ⟨ds[i], hq _ (List.getElem_mem hi)⟩ rfl rfl
    · rw [Int.toNat_natCast, List.map_map]; rfl
abbrev st_same1 : Stmt := top 35
theorem sc_same1 : FnScope ["told", "due", "k"] ["told", "due"] (defScope st_same1) := ⟨rfl, rfl, rfl, by decide +kernel, rfl, by decide +kernel, by decide +kernel⟩
theorem ok_same1 {f : Addr} {fd : FuncData} (T : Txt K mg cAE cBB cBT cNA cBk cPr cRd aE0 aEV aSI) (F__law_same_as : FnC P w K mg base 2 "_law_same_as" (spF (S_sameP K (Q_up Q_no)))) (F : Fun K "_law_same_as" "_law_same_as" st_same1 f fd) : FnOk P w K mg base (L2.CX P w) 3 f fd ["told", "due"] (spF (S_sameP K (Q_up (Q_up Q_no)))) := by
  refine fn_ok F sc_same1 rfl fun cdv A outer s H E hr => ?_
  have tk : Takes (cxD P w K mg base ["told", "due", "k"] "_law_same_as" st_same1 f cdv A outer s H E) (fun cls d _ H => E cls d H) := takes_of rfl rfl rfl rfl
  have hx := pxM tk
  have nd := sc_same1.nd
  refine ⟨_, (pss_cons (ps_if (PW.pt (pw_or (pt_val (pe_callB call_isi (by rfl) T.no_isinstance (by decide +kernel) (pa_cons (pv 1) (pa_cons (pe_bltn (by rfl) T.no_tuple (by decide +kernel) (v := .ty "tuple") rfl) pa_nil)))) (pw_or1 (pt_val (pe_callB call_isi (by rfl) T.no_isinstance (by decide +kernel) (pa_cons (pv 1) (pa_cons (pe_bltn (by rfl) T.no_list (by decide +kernel) (v := .ty "list") rfl) pa_nil))))))) (pss_cons (ps_if (PW.pt (pw_or (pt_cmpR (op_neD hr.units) (pe_callB call_isi (by rfl) T.no_isinstance (by decide +kernel) (pa_cons (pv 1) (pa_cons (pe_bltn (by rfl) T.no_tuple (by decide +kernel) (v := .ty "tuple") rfl) pa_nil))) (pe_callB call_isi (by rfl) T.no_isinstance (by decide +kernel) (pa_cons (pv 0) (pa_cons (pe_bltn (by rfl) T.no_tuple (by decide +kernel) (v := .ty "tuple") rfl) pa_nil))) (nomark _)) (pw_or (pt_cmpR (op_neD hr.units) (pe_callB call_isi (by rfl) T.no_isinstance (by decide +kernel) (pa_cons (pv 1) (pa_cons (pe_bltn (by rfl) T.no_list (by decide +kernel) (v := .ty "list") rfl) pa_nil))) (pe_callB call_isi (by rfl) T.no_isinstance (by decide +kernel) (pa_cons (pv 0) (pa_cons (pe_bltn (by rfl) T.no_list (by decide +kernel) (v := .ty "list") rfl) pa_nil))) (nomark _)) (pw_or1 (pt_cmpR (op_neD hr.units) (pe_callB call_len (by rfl) T.no_len (by decide +kernel) (pa_cons (pv 0) pa_nil)) (pe_callB call_len (by rfl) T.no_len (by decide +kernel) (pa_cons (pv 1) pa_nil)) (nomark _)))))) (pss_one (ps_ret pe_bl)) pss_nil)
 (pss_one (ps_ret (pe_callB (cr_all rfl) (by rfl) T.no_all (by decide +kernel) (pa_cons (pe_lc (own := [("k", 2)]) (g := gName 2) (tt := tYes) rfl nd (pi_range1 (by rfl) T.no_range (pa_cons (pe_callB call_len (by rfl) T.no_len (by decide +kernel) (pa_cons (pv 1) pa_nil)) pa_nil)) (blkOk_by (N := ["told", "due", "k"]) (sc := defScope st_same1) (by decide +kernel)) (fun _ _ _ _ _ => pg_name (i := 2) nd rfl (Or.inl rfl)) (fun _ _ _ _ _ => pts_nil) (fun _ _ _ _ _ => (pe_fn F__law_same_as hr px0 (pa_cons (pe_ix (r := rIx K) ix_seq (pv 0) (pv 2) (fun _ _ => rfl)) (pa_cons (pe_ix (r := rIx K) ix_seq (pv 1) (pv 2) (fun _ _ => rfl)) pa_nil))))) pa_nil))))) pss_nil)
 (pss_cons (ps_if (pt_cmpR op_isN (pv 1) pe_non (nomark _)) (pss_one (ps_ret (pe_cmpR op_isN (pv 0) pe_non (nomark _)))) pss_nil)
 (pss_cons (ps_if (PW.pt (pw_or (pt_val (pe_callB call_isi (by rfl) T.no_isinstance (by decide +kernel) (pa_cons (pv 1) (pa_cons (pe_bltn (by rfl) T.no_bool (by decide +kernel) (v := .ty "bool") rfl) pa_nil)))) (pw_or1 (pt_val (pe_callB call_isi (by rfl) T.no_isinstance (by decide +kernel) (pa_cons (pv 1) (pa_cons (pe_bltn (by rfl) T.no_str (by decide +kernel) (v := .ty "str") rfl) pa_nil))))))) (pss_one (ps_ret (pe_and (pe_cmpR (op_eqD hr.units) (pe_callB call_isi (by rfl) T.no_isinstance (by decide +kernel) (pa_cons (pv 0) (pa_cons (pe_bltn (by rfl) T.no_bool (by decide +kernel) (v := .ty "bool") rfl) pa_nil))) (pe_callB call_isi (by rfl) T.no_isinstance (by decide +kernel) (pa_cons (pv 1) (pa_cons (pe_bltn (by rfl) T.no_bool (by decide +kernel) (v := .ty "bool") rfl) pa_nil))) (nomark _)) (pe_and (pe_cmpR (op_eqD hr.units) (pe_callB call_isi (by rfl) T.no_isinstance (by decide +kernel) (pa_cons (pv 0) (pa_cons (pe_bltn (by rfl) T.no_str (by decide +kernel) (v := .ty "str") rfl) pa_nil))) (pe_callB call_isi (by rfl) T.no_isinstance (by decide +kernel) (pa_cons (pv 1) (pa_cons (pe_bltn (by rfl) T.no_str (by decide +kernel) (v := .ty "str") rfl) pa_nil))) (nomark _)) (pe_one (pe_cmpR (op_eqD hr.units) (pv 0) (pv 1) (nomark _))))))) pss_nil)
 (pss_one (ps_ret (pe_and (pe_callB call_isi (by rfl) T.no_isinstance (by decide +kernel) (pa_cons (pv 0) (pa_cons (pe_bltn (by rfl) T.no_int (by decide +kernel) (v := .ty "int") rfl) pa_nil))) (pe_and (pe_not (pe_callB call_isi (by rfl) T.no_isinstance (by decide +kernel) (pa_cons (pv 0) (pa_cons (pe_bltn (by rfl) T.no_bool (by decide +kernel) (v := .ty "bool") rfl) pa_nil)))) (pe_one (pe_cmpR (op_eqD hr.units) (pv 0) (pv 1) (nomark _)))))))))), ?_⟩
  intro x
  obtain ⟨d, hd⟩ := x
  have eqB : ∀ {G : Gm} {t1 t2 : TE} {b : Bool}, Sv t1 G (isD (.bool b)) → Sv t2 G (isD (.bool b)) → St' (tTest (tOp (rNeD K) t1 t2)) G false := fun {G t1 t2 b} h1 h2 => neB h1 h2 rfl
  have eqA : ∀ {G : Gm} {t1 t2 : TE} {b : Bool}, Sv t1 G (isD (.bool b)) → Sv t2 G (isD (.bool b)) → Sv (tOp (rEqD K) t1 t2) G (isD (.bool true)) := fun {G t1 t2 b} h1 h2 => sv_is (sv_eq h1 h2 (shapedB b) (shapedB b)) (by rw [eqvB]; simp)
  show Mini.Ans _ _ [.im (isP K d), .im (isD d), .no] (.ok (isD (.bool true)))
  have no1 : ∀ {d : PyData}, dTup d = false → dLst d = false → St' (tOr (tB (tCB (rIsi K) (tCons (tVar 1) (tCons (tC (.ty "tuple")) tNil)))) (tB (tCB (rIsi K) (tCons (tVar 1) (tCons (tC (.ty "list")) tNil))))) [.im (isP K d), .im (isD d), .no] false := fun {d} h1 h2 =>
    st_is (st_or (b := false) (c := false) (st_is (st_B (sv_isTup (sv_var rfl))) h1) fun _ => st_is (st_B (sv_isLst (sv_var rfl))) h2) rfl
  rcases hd with hd | ⟨ds, hdd, hl, hq⟩
  · have v0 : ∀ {G : Gm}, G[0]? = some (.im (isP K d)) → Sv (tVar 0) G (isD d) := fun h => sv_pA hd (sv_var h)
    refine .ok ?_
    cases d with
    | int i =>
      refine ss_seq (ss_if0 (no1 rfl rfl) ss_next) (ss_seq (ss_if0 (st_is (st_test (sv_isN (d := .int i) (sv_var rfl))) rfl) ss_next) (ss_seq (ss_if0 (st_is (st_or (b := false) (c := false) (st_is (st_B (sv_isBool (d := .int i) (sv_var rfl))) rfl) fun _ => st_is (st_B (sv_isStr (d := .int i) (sv_var rfl))) rfl) rfl) ss_next) ?_))
      exact ss_ret (sv_is (sv_and (sv_isInt (d := .int i) (v0 rfl)) fun _ => sv_and (sv_not (sv_isBool (d := .int i) (v0 rfl))) fun _ => sv_eqI (v0 rfl) (sv_var rfl)) (by simp [dInt, dBool]))
    | bool b =>
      refine ss_seq (ss_if0 (no1 rfl rfl) ss_next) (ss_seq (ss_if0 (st_is (st_test (sv_isN (d := .bool b) (sv_var rfl))) rfl) ss_next) (ss_seqRt (ss_if1 (st_is (st_or (c := false) (st_is (st_B (sv_isBool (d := .bool b) (sv_var rfl))) (show dBool (.bool b) = true from rfl)) fun z => by cases z) rfl) ?_)))
      exact ss_ret (sv_is (sv_and (eqA (sv_isBool (d := .bool b) (v0 rfl)) (sv_isBool (d := .bool b) (sv_var rfl))) fun _ => sv_and (eqA (sv_isStr (d := .bool b) (v0 rfl)) (sv_isStr (d := .bool b) (sv_var rfl))) fun _ => eqA (v0 rfl) (sv_var rfl)) rfl)
    | none =>
      refine ss_seq (ss_if0 (no1 rfl rfl) ss_next) (ss_seqRt (ss_if1 (st_is (st_test (sv_isN (d := .none) (sv_var rfl))) rfl) ?_))
      exact ss_ret (sv_is (sv_isN (d := .none) (v0 rfl)) rfl)
    | str x =>
      have hx : PyData.strOk x = true := hd
      have sh : SeqAt.shaped (.str x) = true := by
        unfold SeqAt.shaped
        rw [Bool.and_eq_true]
        exact ⟨by rw [PyData.canLay0]; exact hx, decide_eq_true (by rw [PyData.depth]; omega)⟩
      refine ss_seq (ss_if0 (no1 rfl rfl) ss_next) (ss_seq (ss_if0 (st_is (st_test (sv_isN (d := .str x) (sv_var rfl))) rfl) ss_next) (ss_seqRt (ss_if1 (st_is (st_or (b := false) (c := true) (st_is (st_B (sv_isBool (d := .str x) (sv_var rfl))) rfl) fun _ => st_is (st_B (sv_isStr (d := .str x) (sv_var rfl))) rfl) rfl) ?_)))
      exact ss_ret (sv_is (sv_and (eqA (sv_isBool (d := .str x) (v0 rfl)) (sv_isBool (d := .str x) (sv_var rfl))) fun _ => sv_and (eqA (sv_isStr (d := .str x) (v0 rfl)) (sv_isStr (d := .str x) (sv_var rfl))) fun _ => sv_is (sv_eq (d := .str x) (e := .str x) (v0 rfl) (sv_var rfl) sh sh) (show PyData.bool (PyData.eqv (.str x) (.str x)) = .bool true by rw [PyData.eqv]; simp)) rfl)
    | _ => exact absurd hd (by simp [AtomP])
  have hz : (sizeLine : Nat) = 16777216 := sizeLine_eq
  have got : ∀ i, (hi : i < ds.length) → atI ds (i : Int) = some ds[i] := fun i hi => atI_nat (List.getElem?_eq_getElem hi)
  have allT : PyData.bool (((List.range ds.length).map fun _ => true).all id) = .bool true := by
    congr 1
    rw [List.all_map]
    simp
  rcases hdd with rfl | rfl
  · refine .ok (ss_seqRt (ss_if1 (st_is (st_or (c := false) (st_is (st_B (sv_isTup (d := .tuple ds) (sv_var rfl))) (show dTup (.tuple ds) = true from rfl)) fun z => by cases z) rfl) (ss_seq (ss_if0 (st_is (st_or (b := false) (c := false) (eqB (sv_isTup (d := .tuple ds) (sv_var rfl)) (sv_isTupP (d := .tuple ds) (sv_var rfl))) fun _ => st_or (b := false) (c := false) (eqB (sv_isLst (d := .tuple ds) (sv_var rfl)) (sv_isLstP (d := .tuple ds) (sv_var rfl))) fun _ =>
      st_is (st_test (sv_neI (sv_lenP (ds := ds) (sv_var rfl)) (sv_lenT (ds := ds) (sv_var rfl)))) (by simp)) rfl) ss_next) ?_)))
    refine ss_ret (sv_is (sv_all (bs := (List.range ds.length).map fun _ => true) (rl_svl (svl_is (svl_lcMapR (j := 2) (n := (ds.length : Nat)) (sv_lenT (ds := ds) (sv_var rfl)) (fun _ => PyData.bool true) (Nat.le_of_ble_eq_true rfl) (by omega) (by omega) fun i hi => ?_) ?_))) allT)
    · rw [Int.toNat_natCast] at hi
      exact sv_call (S := S_sameP K (Q_up Q_no)) (sa_im (sv_ixP (sv_var rfl) (sv_var rfl) (got i hi)) (sa_im (sv_ixT (sv_var rfl) (sv_var rfl) (got i hi)) sa_nil)) ⟨ds[i], hq _ (List.getElem_mem hi)⟩ rfl rfl
    · rw [Int.toNat_natCast, List.map_map]; rfl
  · refine .ok (ss_seqRt (ss_if1 (st_is (st_or (b := false) (c := true) (st_is (st_B (sv_isTup (d := .list ds) (sv_var rfl))) rfl) fun _ => st_is (st_B (sv_isLst (d := .list ds) (sv_var rfl))) rfl) rfl) (ss_seq (ss_if0 (st_is (st_or (b := false) (c := false) (eqB (sv_isTup (d := .list ds) (sv_var rfl)) (sv_isTupP (d := .list ds) (sv_var rfl))) fun _ => st_or (b := false) (c := false) (eqB (sv_isLst (d := .list ds) (sv_var rfl)) (sv_isLstP (d := .list ds) (sv_var rfl))) fun _ =>
      st_is (st_test (sv_neI (sv_lenPL (ds := ds) (sv_var rfl)) (sv_lenL (ds := ds) (rl_sv (sv_var rfl))))) (by simp)) rfl) ss_next) ?_)))
    refine ss_ret (sv_is (sv_all (bs := (List.range ds.length).map fun _ => true) (rl_svl (svl_is (svl_lcMapR (j := 2) (n := (ds.length : Nat)) (sv_lenL (ds := ds) (rl_sv (sv_var rfl))) (fun _ => PyData.bool true) (Nat.le_of_ble_eq_true rfl) (by omega) (by omega) fun i hi => ?_) ?_))) allT)
    · rw [Int.toNat_natCast] at hi
      exact sv_call (S := S_sameP K (Q_up Q_no)) (sa_im (sv_ixPL (sv_var rfl) (sv_var rfl) (got i hi)) (sa_im (sv_ixL (rl_sv (sv_var rfl)) (sv_var rfl) (got i hi)) sa_nil)) ⟨ds[i], hq _ (List.getElem_mem hi)⟩ rfl rfl
    · rw [Int.toNat_natCast, List.map_map]; rfl
abbrev st_same2 : Stmt := top 35
theorem sc_same2 : FnScope ["told", "due", "k"] ["told", "due"] (defScope st_same2) := ⟨rfl, rfl, rfl, by decide +kernel, rfl, by decide +kernel, by decide +kernel⟩
theorem ok_same2 {f : Addr} {fd : FuncData} (T : Txt K mg cAE cBB cBT cNA cBk cPr cRd aE0 aEV aSI) (F__law_same_as : FnC P w K mg base 3 "_law_same_as" (spF (S_sameP K (Q_up (Q_up Q_no))))) (F : Fun K "_law_same_as" "_law_same_as" st_same2 f fd) : FnOk P w K mg base (L2.CX P w) 4 f fd ["told", "due"] (spF (S_sameP K (Q_up (Q_up (Q_up Q_no))))) := by
  refine fn_ok F sc_same2 rfl fun cdv A outer s H E hr => ?_
  have tk : Takes (cxD P w K mg base ["told", "due", "k"] "_law_same_as" st_same2 f cdv A outer s H E) (fun cls d _ H => E cls d H) := takes_of rfl rfl rfl rfl
  have hx := pxM tk
  have nd := sc_same2.nd
  refine ⟨_, (pss_cons (ps_if (PW.pt (pw_or (pt_val (pe_callB call_isi (by rfl) T.no_isinstance (by decide +kernel) (pa_cons (pv 1) (pa_cons (pe_bltn (by rfl) T.no_tuple (by decide +kernel) (v := .ty "tuple") rfl) pa_nil)))) (pw_or1 (pt_val (pe_callB call_isi (by rfl) T.no_isinstance (by decide +kernel) (pa_cons (pv 1) (pa_cons (pe_bltn (by rfl) T.no_list (by decide +kernel) (v := .ty "list") rfl) pa_nil))))))) (pss_cons (ps_if (PW.pt (pw_or (pt_cmpR (op_neD hr.units) (pe_callB call_isi (by rfl) T.no_isinstance (by decide +kernel) (pa_cons (pv 1) (pa_cons (pe_bltn (by rfl) T.no_tuple (by decide +kernel) (v := .ty "tuple") rfl) pa_nil))) (pe_callB call_isi (by rfl) T.no_isinstance (by decide +kernel) (pa_cons (pv 0) (pa_cons (pe_bltn (by rfl) T.no_tuple (by decide +kernel) (v := .ty "tuple") rfl) pa_nil))) (nomark _)) (pw_or (pt_cmpR (op_neD hr.units) (pe_callB call_isi (by rfl) T.no_isinstance (by decide +kernel) (pa_cons (pv 1) (pa_cons (pe_bltn (by rfl) T.no_list (by decide +kernel) (v := .ty "list") rfl) pa_nil))) (pe_callB call_isi (by rfl) T.no_isinstance (by decide +kernel) (pa_cons (pv 0) (pa_cons (pe_bltn (by rfl) T.no_list (by decide +kernel) (v := .ty "list") rfl) pa_nil))) (nomark _)) (pw_or1 (pt_cmpR (op_neD hr.units) (pe_callB call_len (by rfl) T.no_len (by decide +kernel) (pa_cons (pv 0) pa_nil)) (pe_callB call_len (by rfl) T.no_len (by decide +kernel) (pa_cons (pv 1) pa_nil)) (nomark _)))))) (pss_one (ps_ret pe_bl)) pss_nil)
 (pss_one (ps_ret (pe_callB (cr_all rfl) (by rfl) T.no_all (by decide +kernel) (pa_cons (pe_lc (own := [("k", 2)]) (g := gName 2) (tt := tYes) rfl nd (pi_range1 (by rfl) T.no_range (pa_cons (pe_callB call_len (by rfl) T.no_len (by decide +kernel) (pa_cons (pv 1) pa_nil)) pa_nil)) (blkOk_by (N := ["told", "due", "k"]) (sc := defScope st_same2) (by decide +kernel)) (fun _ _ _ _ _ => pg_name (i := 2) nd rfl (Or.inl rfl)) (fun _ _ _ _ _ => pts_nil) (fun _ _ _ _ _ => (pe_fn F__law_same_as hr px0 (pa_cons (pe_ix (r := rIx K) ix_seq (pv 0) (pv 2) (fun _ _ => rfl)) (pa_cons (pe_ix (r := rIx K) ix_seq (pv 1) (pv 2) (fun _ _ => rfl)) pa_nil))))) pa_nil))))) pss_nil)
 (pss_cons (ps_if (pt_cmpR op_isN (pv 1) pe_non (nomark _)) (pss_one (ps_ret (pe_cmpR op_isN (pv 0) pe_non (nomark _)))) pss_nil)
 (pss_cons (ps_if (PW.pt (pw_or (pt_val (pe_callB call_isi (by rfl) T.no_isinstance (by decide +kernel) (pa_cons (pv 1) (pa_cons (pe_bltn (by rfl) T.no_bool (by decide +kernel) (v := .ty "bool") rfl) pa_nil)))) (pw_or1 (pt_val (pe_callB call_isi (by rfl) T.no_isinstance (by decide +kernel) (pa_cons (pv 1) (pa_cons (pe_bltn (by rfl) T.no_str (by decide +kernel) (v := .ty "str") rfl) pa_nil))))))) (pss_one (ps_ret (pe_and (pe_cmpR (op_eqD hr.units) (pe_callB call_isi (by rfl) T.no_isinstance (by decide +kernel) (pa_cons (pv 0) (pa_cons (pe_bltn (by rfl) T.no_bool (by decide +kernel) (v := .ty "bool") rfl) pa_nil))) (pe_callB call_isi (by rfl) T.no_isinstance (by decide +kernel) (pa_cons (pv 1) (pa_cons (pe_bltn (by rfl) T.no_bool (by decide +kernel) (v := .ty "bool") rfl) pa_nil))) (nomark _)) (pe_and (pe_cmpR (op_eqD hr.units) (pe_callB call_isi (by rfl) T.no_isinstance (by decide +kernel) (pa_cons (pv 0) (pa_cons (pe_bltn (by rfl) T.no_str (by decide +kernel) (v := .ty "str") rfl) pa_nil))) (pe_callB call_isi (by rfl) T.no_isinstance (by decide +kernel) (pa_cons (pv 1) (pa_cons (pe_bltn (by rfl) T.no_str (by decide +kernel) (v := .ty "str") rfl) pa_nil))) (nomark _)) (pe_one (pe_cmpR (op_eqD hr.units) (pv 0) (pv 1) (nomark _))))))) pss_nil)
 (pss_one (ps_ret (pe_and (pe_callB call_isi (by rfl) T.no_isinstance (by decide +kernel) (pa_cons (pv 0) (pa_cons (pe_bltn (by rfl) T.no_int (by decide +kernel) (v := .ty "int") rfl) pa_nil))) (pe_and (pe_not (pe_callB call_isi (by rfl) T.no_isinstance (by decide +kernel) (pa_cons (pv 0) (pa_cons (pe_bltn (by rfl) T.no_bool (by decide +kernel) (v := .ty "bool") rfl) pa_nil)))) (pe_one (pe_cmpR (op_eqD hr.units) (pv 0) (pv 1) (nomark _)))))))))), ?_⟩
  intro x
  obtain ⟨d, hd⟩ := x
  have eqB : ∀ {G : Gm} {t1 t2 : TE} {b : Bool}, Sv t1 G (isD (.bool b)) → Sv t2 G (isD (.bool b)) → St' (tTest (tOp (rNeD K) t1 t2)) G false := fun {G t1 t2 b} h1 h2 => neB h1 h2 rfl
  have eqA : ∀ {G : Gm} {t1 t2 : TE} {b : Bool}, Sv t1 G (isD (.bool b)) → Sv t2 G (isD (.bool b)) → Sv (tOp (rEqD K) t1 t2) G (isD (.bool true)) := fun {G t1 t2 b} h1 h2 => sv_is (sv_eq h1 h2 (shapedB b) (shapedB b)) (by rw [eqvB]; simp)
  show Mini.Ans _ _ [.im (isP K d), .im (isD d), .no] (.ok (isD (.bool true)))
  have no1 : ∀ {d : PyData}, dTup d = false → dLst d = false → St' (tOr (tB (tCB (rIsi K) (tCons (tVar 1) (tCons (tC (.ty "tuple")) tNil)))) (tB (tCB (rIsi K) (tCons (tVar 1) (tCons (tC (.ty "list")) tNil))))) [.im (isP K d), .im (isD d), .no] false := fun {d} h1 h2 =>
    st_is (st_or (b := false) (c := false) (st_is (st_B (sv_isTup (sv_var rfl))) h1) fun _ => st_is (st_B (sv_isLst (sv_var rfl))) h2) rfl
  rcases hd with hd | ⟨ds, hdd, hl, hq⟩
  · have v0 : ∀ {G : Gm}, G[0]? = some (.im (isP K d)) → Sv (tVar 0) G (isD d) := fun h => sv_pA hd (sv_var h)
    refine .ok ?_
    cases d with
    | int i =>
      refine ss_seq (ss_if0 (no1 rfl rfl) ss_next) (ss_seq (ss_if0 (st_is (st_test (sv_isN (d := .int i) (sv_var rfl))) rfl) ss_next) (ss_seq (ss_if0 (st_is (st_or (b := false) (c := false) (st_is (st_B (sv_isBool (d := .int i) (sv_var rfl))) rfl) fun _ => st_is (st_B (sv_isStr (d := .int i) (sv_var rfl))) rfl) rfl) ss_next) ?_))
      exact ss_ret (sv_is (sv_and (sv_isInt (d := .int i) (v0 rfl)) fun _ => sv_and (sv_not (sv_isBool (d := .int i) (v0 rfl))) fun _ => sv_eqI (v0 rfl) (sv_var rfl)) (by simp [dInt, dBool]))
    | bool b =>
      refine ss_seq (ss_if0 (no1 rfl rfl) ss_next) (ss_seq (ss_if0 (st_is (st_test (sv_isN (d := .bool b) (sv_var rfl))) rfl) ss_next) (ss_seqRt (ss_if1 (st_is (st_or (c := false) (st_is (st_B (sv_isBool (d := .bool b) (sv_var rfl))) (show dBool (.bool b) = true from rfl)) fun z => by cases z) rfl) ?_)))
      exact ss_ret (sv_is (sv_and (eqA (sv_isBool (d := .bool b) (v0 rfl)) (sv_isBool (d := .bool b) (sv_var rfl))) fun _ => sv_and (eqA (sv_isStr (d := .bool b) (v0 rfl)) (sv_isStr (d := .bool b) (sv_var rfl))) fun _ => eqA (v0 rfl) (sv_var rfl)) rfl)
    | none =>
      refine ss_seq (ss_if0 (no1 rfl rfl) ss_next) (ss_seqRt (ss_if1 (st_is (st_test (sv_isN (d := .none) (sv_var rfl))) rfl) ?_))
      exact ss_ret (sv_is (sv_isN (d := .none) (v0 rfl)) rfl)
    | str x =>
      have hx : PyData.strOk x = true := hd
      have sh : SeqAt.shaped (.str x) = true := by
        unfold SeqAt.shaped
        rw [Bool.and_eq_true]
        exact ⟨by rw [PyData.canLay0]; exact hx, decide_eq_true (by rw [PyData.depth]; omega)⟩
      refine ss_seq (ss_if0 (no1 rfl rfl) ss_next) (ss_seq (ss_if0 (st_is (st_test (sv_isN (d := .str x) (sv_var rfl))) rfl) ss_next) (ss_seqRt (ss_if1 (st_is (st_or (b := false) (c := true) (st_is (st_B (sv_isBool (d := .str x) (sv_var rfl))) rfl) fun _ => st_is (st_B (sv_isStr (d := .str x) (sv_var rfl))) rfl) rfl) ?_)))
      exact ss_ret (sv_is (sv_and (eqA (sv_isBool (d := .str x) (v0 rfl)) (sv_isBool (d := .str x) (sv_var rfl))) fun _ => sv_and (eqA (sv_isStr (d := .str x) (v0 rfl)) (sv_isStr (d := .str x) (sv_var rfl))) fun _ => sv_is (sv_eq (d := .str x) (e := .str x) (v0 rfl) (sv_var rfl) sh sh) (show PyData.bool (PyData.eqv (.str x) (.str x)) = .bool true by rw [PyData.eqv]; simp)) rfl)
    | _ => exact absurd hd (by simp [AtomP])
  have hz : (sizeLine : Nat) = 16777216 := sizeLine_eq
  have got : ∀ i, (hi : i < ds.length) → atI ds (i : Int) = some ds[i] := fun i hi => atI_nat (List.getElem?_eq_getElem hi)
  have allT : PyData.bool (((List.range ds.length).map fun _ => true).all id) = .bool true := by
    congr 1
    rw [List.all_map]
    simp
  rcases hdd with rfl | rfl
  · refine .ok (ss_seqRt (ss_if1 (st_is (st_or (c := false) (st_is (st_B (sv_isTup (d := .tuple ds) (sv_var rfl))) (show dTup (.tuple ds) = true from rfl)) fun z => by cases z) rfl) (ss_seq (ss_if0 (st_is (st_or (b := false) (c := false) (eqB (sv_isTup (d := .tuple ds) (sv_var rfl)) (sv_isTupP (d := .tuple ds) (sv_var rfl))) fun _ => st_or (b := false) (c := false) (eqB (sv_isLst (d := .tuple ds) (sv_var rfl)) (sv_isLstP (d := .tuple ds) (sv_var rfl))) fun _ =>
      st_is (st_test (sv_neI (sv_lenP (ds := ds) (sv_var rfl)) (sv_lenT (ds := ds) (sv_var rfl)))) (by simp)) rfl) ss_next) ?_)))
    refine ss_ret (sv_is (sv_all (bs := (List.range ds.length).map fun _ => true) (rl_svl (svl_is (svl_lcMapR (j := 2) (n := (ds.length : Nat)) (sv_lenT (ds := ds) (sv_var rfl)) (fun _ => PyData.bool true) (Nat.le_of_ble_eq_true rfl) (by omega) (by omega) fun i hi => ?_) ?_))) allT)
    · rw [Int.toNat_natCast] at hi
      exact sv_call (S := S_sameP K (Q_up (Q_up Q_no))) (sa_im (sv_ixP (sv_var rfl) (sv_var rfl) (got i hi)) (sa_im (sv_ixT (sv_var rfl) (sv_var rfl) (got i hi)) sa_nil)) ⟨ds[i], hq _ (List.getElem_mem hi)⟩ rfl rfl
    · rw [Int.toNat_natCast, List.map_map]; rfl
  · refine .ok (ss_seqRt (ss_if1 (st_is (st_or (b := false) (c := true) (st_is (st_B (sv_isTup (d := .list ds) (sv_var rfl))) rfl) fun _ => st_is (st_B (sv_isLst (d := .list ds) (sv_var rfl))) rfl) rfl) (ss_seq (ss_if0 (st_is (st_or (b := false) (c := false) (eqB (sv_isTup (d := .list ds) (sv_var rfl)) (sv_isTupP (d := .list ds) (sv_var rfl))) fun _ => st_or (b := false) (c := false) (eqB (sv_isLst (d := .list ds) (sv_var rfl)) (sv_isLstP (d := .list ds) (sv_var rfl))) fun _ =>
      st_is (st_test (sv_neI (sv_lenPL (ds := ds) (sv_var rfl)) (sv_lenL (ds := ds) (rl_sv (sv_var rfl))))) (by simp)) rfl) ss_next) ?_)))
    refine ss_ret (sv_is (sv_all (bs := (List.range ds.length).map fun _ => true) (rl_svl (svl_is (svl_lcMapR (j := 2) (n := (ds.length : Nat)) (sv_lenL (ds := ds) (rl_sv (sv_var rfl))) (fun _ => PyData.bool true) (Nat.le_of_ble_eq_true rfl) (by omega) (by omega) fun i hi => ?_) ?_))) allT)
    · rw [Int.toNat_natCast] at hi
      exact sv_call (S := S_sameP K (Q_up (Q_up Q_no))) (sa_im (sv_ixPL (sv_var rfl) (sv_var rfl) (got i hi)) (sa_im (sv_ixL (rl_sv (sv_var rfl)) (sv_var rfl) (got i hi)) sa_nil)) ⟨ds[i], hq _ (List.getElem_mem hi)⟩ rfl rfl
    · rw [Int.toNat_natCast, List.map_map]; rfl
abbrev st__law_same_as : Stmt := top 35
theorem sc__law_same_as : FnScope ["told", "due", "k"] ["told", "due"] (defScope st__law_same_as) := ⟨rfl, rfl, rfl, by decide +kernel, rfl, by decide +kernel, by decide +kernel⟩
theorem ok__law_same_as {f : Addr} {fd : FuncData} (T : Txt K mg cAE cBB cBT cNA cBk cPr cRd aE0 aEV aSI) (F__law_same_as : FnC P w K mg base 4 "_law_same_as" (spF (S_sameP K (Q_up (Q_up (Q_up Q_no)))))) (F : Fun K "_law_same_as" "_law_same_as" st__law_same_as f fd) : FnOk P w K mg base (L2.CX P w) 5 f fd ["told", "due"] (spF (S_sameP K (Q_up (Q_up (Q_up (Q_up Q_no)))))) := by
  refine fn_ok F sc__law_same_as rfl fun cdv A outer s H E hr => ?_
  have tk : Takes (cxD P w K mg base ["told", "due", "k"] "_law_same_as" st__law_same_as f cdv A outer s H E) (fun cls d _ H => E cls d H) := takes_of rfl rfl rfl rfl
  have hx := pxM tk
  have nd := sc__law_same_as.nd
  refine ⟨_, (pss_cons (ps_if (PW.pt (pw_or (pt_val (pe_callB call_isi (by rfl) T.no_isinstance (by decide +kernel) (pa_cons (pv 1) (pa_cons (pe_bltn (by rfl) T.no_tuple (by decide +kernel) (v := .ty "tuple") rfl) pa_nil)))) (pw_or1 (pt_val (pe_callB call_isi (by rfl) T.no_isinstance (by decide +kernel) (pa_cons (pv 1) (pa_cons (pe_bltn (by rfl) T.no_list (by decide +kernel) (v := .ty "list") rfl) pa_nil))))))) (pss_cons (ps_if (PW.pt (pw_or (pt_cmpR (op_neD hr.units) (pe_callB call_isi (by rfl) T.no_isinstance (by decide +kernel) (pa_cons (pv 1) (pa_cons (pe_bltn (by rfl) T.no_tuple (by decide +kernel) (v := .ty "tuple") rfl) pa_nil))) (pe_callB call_isi (by rfl) T.no_isinstance (by decide +kernel) (pa_cons (pv 0) (pa_cons (pe_bltn (by rfl) T.no_tuple (by decide +kernel) (v := .ty "tuple") rfl) pa_nil))) (nomark _)) (pw_or (pt_cmpR (op_neD hr.units) (pe_callB call_isi (by rfl) T.no_isinstance (by decide +kernel) (pa_cons (pv 1) (pa_cons (pe_bltn (by rfl) T.no_list (by decide +kernel) (v := .ty "list") rfl) pa_nil))) (pe_callB call_isi (by rfl) T.no_isinstance (by decide +kernel) (pa_cons (pv 0) (pa_cons (pe_bltn (by rfl) T.no_list (by decide +kernel) (v := .ty "list") rfl) pa_nil))) (nomark _)) (pw_or1 (pt_cmpR (op_neD hr.units) (pe_callB call_len (by rfl) T.no_len (by decide +kernel) (pa_cons (pv 0) pa_nil)) (pe_callB call_len (by rfl) T.no_len (by decide +kernel) (pa_cons (pv 1) pa_nil)) (nomark _)))))) (pss_one (ps_ret pe_bl)) pss_nil)
 (pss_one (ps_ret (pe_callB (cr_all rfl) (by rfl) T.no_all (by decide +kernel) (pa_cons (pe_lc (own := [("k", 2)]) (g := gName 2) (tt := tYes) rfl nd (pi_range1 (by rfl) T.no_range (pa_cons (pe_callB call_len (by rfl) T.no_len (by decide +kernel) (pa_cons (pv 1) pa_nil)) pa_nil)) (blkOk_by (N := ["told", "due", "k"]) (sc := defScope st__law_same_as) (by decide +kernel)) (fun _ _ _ _ _ => pg_name (i := 2) nd rfl (Or.inl rfl)) (fun _ _ _ _ _ => pts_nil) (fun _ _ _ _ _ => (pe_fn F__law_same_as hr px0 (pa_cons (pe_ix (r := rIx K) ix_seq (pv 0) (pv 2) (fun _ _ => rfl)) (pa_cons (pe_ix (r := rIx K) ix_seq (pv 1) (pv 2) (fun _ _ => rfl)) pa_nil))))) pa_nil))))) pss_nil)
 (pss_cons (ps_if (pt_cmpR op_isN (pv 1) pe_non (nomark _)) (pss_one (ps_ret (pe_cmpR op_isN (pv 0) pe_non (nomark _)))) pss_nil)
 (pss_cons (ps_if (PW.pt (pw_or (pt_val (pe_callB call_isi (by rfl) T.no_isinstance (by decide +kernel) (pa_cons (pv 1) (pa_cons (pe_bltn (by rfl) T.no_bool (by decide +kernel) (v := .ty "bool") rfl) pa_nil)))) (pw_or1 (pt_val (pe_callB call_isi (by rfl) T.no_isinstance (by decide +kernel) (pa_cons (pv 1) (pa_cons (pe_bltn (by rfl) T.no_str (by decide +kernel) (v := .ty "str") rfl) pa_nil))))))) (pss_one (ps_ret (pe_and (pe_cmpR (op_eqD hr.units) (pe_callB call_isi (by rfl) T.no_isinstance (by decide +kernel) (pa_cons (pv 0) (pa_cons (pe_bltn (by rfl) T.no_bool (by decide +kernel) (v := .ty "bool") rfl) pa_nil))) (pe_callB call_isi (by rfl) T.no_isinstance (by decide +kernel) (pa_cons (pv 1) (pa_cons (pe_bltn (by rfl) T.no_bool (by decide +kernel) (v := .ty "bool") rfl) pa_nil))) (nomark _)) (pe_and (pe_cmpR (op_eqD hr.units) (pe_callB call_isi (by rfl) T.no_isinstance (by decide +kernel) (pa_cons (pv 0) (pa_cons (pe_bltn (by rfl) T.no_str (by decide +kernel) (v := .ty "str") rfl) pa_nil))) (pe_callB call_isi (by rfl) T.no_isinstance (by decide +kernel) (pa_cons (pv 1) (pa_cons (pe_bltn (by rfl) T.no_str (by decide +kernel) (v := .ty "str") rfl) pa_nil))) (nomark _)) (pe_one (pe_cmpR (op_eqD hr.units) (pv 0) (pv 1) (nomark _))))))) pss_nil)
 (pss_one (ps_ret (pe_and (pe_callB call_isi (by rfl) T.no_isinstance (by decide +kernel) (pa_cons (pv 0) (pa_cons (pe_bltn (by rfl) T.no_int (by decide +kernel) (v := .ty "int") rfl) pa_nil))) (pe_and (pe_not (pe_callB call_isi (by rfl) T.no_isinstance (by decide +kernel) (pa_cons (pv 0) (pa_cons (pe_bltn (by rfl) T.no_bool (by decide +kernel) (v := .ty "bool") rfl) pa_nil)))) (pe_one (pe_cmpR (op_eqD hr.units) (pv 0) (pv 1) (nomark _)))))))))), ?_⟩
  intro x
  obtain ⟨d, hd⟩ := x
  have eqB : ∀ {G : Gm} {t1 t2 : TE} {b : Bool}, Sv t1 G (isD (.bool b)) → Sv t2 G (isD (.bool b)) → St' (tTest (tOp (rNeD K) t1 t2)) G false := fun {G t1 t2 b} h1 h2 => neB h1 h2 rfl
  have eqA : ∀ {G : Gm} {t1 t2 : TE} {b : Bool}, Sv t1 G (isD (.bool b)) → Sv t2 G (isD (.bool b)) → Sv (tOp (rEqD K) t1 t2) G (isD (.bool true)) := fun {G t1 t2 b} h1 h2 => sv_is (sv_eq h1 h2 (shapedB b) (shapedB b)) (by rw [eqvB]; simp)
  show Mini.Ans _ _ [.im (isP K d), .im (isD d), .no] (.ok (isD (.bool true)))
  have no1 : ∀ {d : PyData}, dTup d = false → dLst d = false → St' (tOr (tB (tCB (rIsi K) (tCons (tVar 1) (tCons (tC (.ty "tuple")) tNil)))) (tB (tCB (rIsi K) (tCons (tVar 1) (tCons (tC (.ty "list")) tNil))))) [.im (isP K d), .im (isD d), .no] false := fun {d} h1 h2 =>
    st_is (st_or (b := false) (c := false) (st_is (st_B (sv_isTup (sv_var rfl))) h1) fun _ => st_is (st_B (sv_isLst (sv_var rfl))) h2) rfl
  rcases hd with hd | ⟨ds, hdd, hl, hq⟩
  · have v0 : ∀ {G : Gm}, G[0]? = some (.im (isP K d)) → Sv (tVar 0) G (isD d) := fun h => sv_pA hd (sv_var h)
    refine .ok ?_
    cases d with
    | int i =>
      refine ss_seq (ss_if0 (no1 rfl rfl) ss_next) (ss_seq (ss_if0 (st_is (st_test (sv_isN (d := .int i) (sv_var rfl))) rfl) ss_next) (ss_seq (ss_if0 (st_is (st_or (b := false) (c := false) (st_is (st_B (sv_isBool (d := .int i) (sv_var rfl))) rfl) fun _ => st_is (st_B (sv_isStr (d := .int i) (sv_var rfl))) rfl) rfl) ss_next) ?_))
      exact ss_ret (sv_is (sv_and (sv_isInt (d := .int i) (v0 rfl)) fun _ => sv_and (sv_not (sv_isBool (d := .int i) (v0 rfl))) fun _ => sv_eqI (v0 rfl) (sv_var rfl)) (by simp [dInt, dBool]))
    | bool b =>
      refine ss_seq (ss_if0 (no1 rfl rfl) ss_next) (ss_seq (ss_if0 (st_is (st_test (sv_isN (d := .bool b) (sv_var rfl))) rfl) ss_next) (ss_seqRt (ss_if1 (st_is (st_or (c := false) (st_is (st_B (sv_isBool (d := .bool b) (sv_var rfl))) (show dBool (.bool b) = true from rfl)) fun z => by cases z) rfl) ?_)))
      exact ss_ret (sv_is (sv_and (eqA (sv_isBool (d := .bool b) (v0 rfl)) (sv_isBool (d := .bool b) (sv_var rfl))) fun _ => sv_and (eqA (sv_isStr (d := .bool b) (v0 rfl)) (sv_isStr (d := .bool b) (sv_var rfl))) fun _ => eqA (v0 rfl) (sv_var rfl)) rfl)
    | none =>
      refine ss_seq (ss_if0 (no1 rfl rfl) ss_next) (ss_seqRt (ss_if1 (st_is (st_test (sv_isN (d := .none) (sv_var rfl))) rfl) ?_))
      exact ss_ret (sv_is (sv_isN (d := .none) (v0 rfl)) rfl)
    | str x =>
      have hx : PyData.strOk x = true := hd
      have sh : SeqAt.shaped (.str x) = true := by
        unfold SeqAt.shaped
        rw [Bool.and_eq_true]
        exact ⟨by rw [PyData.canLay0]; exact hx, decide_eq_true (by rw [PyData.depth]; omega)⟩
      refine ss_seq (ss_if0 (no1 rfl rfl) ss_next) (ss_seq (ss_if0 (st_is (st_test (sv_isN (d := .str x) (sv_var rfl))) rfl) ss_next) (ss_seqRt (ss_if1 (st_is (st_or (b := false) (c := true) (st_is (st_B (sv_isBool (d := .str x) (sv_var rfl))) rfl) fun _ => st_is (st_B (sv_isStr (d := .str x) (sv_var rfl))) rfl) rfl) ?_)))
      exact ss_ret (sv_is (sv_and (eqA (sv_isBool (d := .str x) (v0 rfl)) (sv_isBool (d := .str x) (sv_var rfl))) fun _ => sv_and (eqA (sv_isStr (d := .str x) (v0 rfl)) (sv_isStr (d := .str x) (sv_var rfl))) fun _ => sv_is (sv_eq (d := .str x) (e := .str x) (v0 rfl) (sv_var rfl) sh sh) (show PyData.bool (PyData.eqv (.str x) (.str x)) = .bool true by rw [PyData.eqv]; simp)) rfl)
    | _ => exact absurd hd (by simp [AtomP])
  have hz : (sizeLine : Nat) = 16777216 := sizeLine_eq
  have got : ∀ i, (hi : i < ds.length) → atI ds (i : Int) = some ds[i] := fun i hi => atI_nat (List.getElem?_eq_getElem hi)
  have allT : PyData.bool (((List.range ds.length).map fun _ => true).all id) = .bool true := by
    congr 1
    rw [List.all_map]
    simp
  rcases hdd with rfl | rfl
  · refine .ok (ss_seqRt (ss_if1 (st_is (st_or (c := false) (st_is (st_B (sv_isTup (d := .tuple ds) (sv_var rfl))) (show dTup (.tuple ds) = true from rfl)) fun z => by cases z) rfl) (ss_seq (ss_if0 (st_is (st_or (b := false) (c := false) (eqB (sv_isTup (d := .tuple ds) (sv_var rfl)) (sv_isTupP (d := .tuple ds) (sv_var rfl))) fun _ => st_or (b := false) (c := false) (eqB (sv_isLst (d := .tuple ds) (sv_var rfl)) (sv_isLstP (d := .tuple ds) (sv_var rfl))) fun _ =>
      st_is (st_test (sv_neI (sv_lenP (ds := ds) (sv_var rfl)) (sv_lenT (ds := ds) (sv_var rfl)))) (by simp)) rfl) ss_next) ?_)))
    refine ss_ret (sv_is (sv_all (bs := (List.range ds.length).map fun _ => true) (rl_svl (svl_is (svl_lcMapR (j := 2) (n := (ds.length : Nat)) (sv_lenT (ds := ds) (sv_var rfl)) (fun _ => PyData.bool true) (Nat.le_of_ble_eq_true rfl) (by omega) (by omega) fun i hi => ?_) ?_))) allT)
    · rw [Int.toNat_natCast] at hi
      exact sv_call (S := S_sameP K (Q_up (Q_up (Q_up Q_no)))) (sa_im (sv_ixP (sv_var rfl) (sv_var rfl) (got i hi)) (sa_im (sv_ixT (sv_var rfl) (sv_var rfl) (got i hi)) sa_nil)) ⟨ds[i], hq _ (List.getElem_mem hi)⟩ rfl rfl
    · rw [Int.toNat_natCast, List.map_map]; rfl
  · refine .ok (ss_seqRt (ss_if1 (st_is (st_or (b := false) (c := true) (st_is (st_B (sv_isTup (d := .list ds) (sv_var rfl))) rfl) fun _ => st_is (st_B (sv_isLst (d := .list ds) (sv_var rfl))) rfl) rfl) (ss_seq (ss_if0 (st_is (st_or (b := false) (c := false) (eqB (sv_isTup (d := .list ds) (sv_var rfl)) (sv_isTupP (d := .list ds) (sv_var rfl))) fun _ => st_or (b := false) (c := false) (eqB (sv_isLst (d := .list ds) (sv_var rfl)) (sv_isLstP (d := .list ds) (sv_var rfl))) fun _ =>
      st_is (st_test (sv_neI (sv_lenPL (ds := ds) (sv_var rfl)) (sv_lenL (ds := ds) (rl_sv (sv_var rfl))))) (by simp)) rfl) ss_next) ?_)))
    refine ss_ret (sv_is (sv_all (bs := (List.range ds.length).map fun _ => true) (rl_svl (svl_is (svl_lcMapR (j := 2) (n := (ds.length : Nat)) (sv_lenL (ds := ds) (rl_sv (sv_var rfl))) (fun _ => PyData.bool true) (Nat.le_of_ble_eq_true rfl) (by omega) (by omega) fun i hi => ?_) ?_))) allT)
    · rw [Int.toNat_natCast] at hi
      exact sv_call (S := S_sameP K (Q_up (Q_up (Q_up Q_no)))) (sa_im (sv_ixPL (sv_var rfl) (sv_var rfl) (got i hi)) (sa_im (sv_ixL (rl_sv (sv_var rfl)) (sv_var rfl) (got i hi)) sa_nil)) ⟨ds[i], hq _ (List.getElem_mem hi)⟩ rfl rfl
    · rw [Int.toNat_natCast, List.map_map]; rfl
end
end K10

namespace K10
open PySem L2 Evl Mini PyProof.Rows
section
variable {P : Program} {w : World} {K : PySem.W.Frag} {mg : Str → Option Value} {base : Heap} {cAE cBB cBT cNA cBk cPr cRd aE0 aEV aSI : Addr}
/-! ### is_count, is_below, are_below -/
def countB (d : PyData) : Bool := match d with
  | .int i => decide (0 ≤ i)
  | _ => false
def S_is_count : Fs := ⟨PyData, 1, fun x => [.im (isD x)], fun _ => rfl, fun x => .ok (isD (.bool (countB x)))⟩
abbrev st_is_count : Stmt := top 10
theorem sc_is_count : FnScope ["value"] ["value"] (defScope st_is_count) := ⟨rfl, rfl, rfl, by decide +kernel, rfl, by decide +kernel, by decide +kernel⟩
theorem ok_is_count {f : Addr} {fd : FuncData} (T : Txt K mg cAE cBB cBT cNA cBk cPr cRd aE0 aEV aSI)  (F : Fun K "is_count" "is_count" st_is_count f fd) : FnOk P w K mg base (L2.CX P w) 1 f fd ["value"] (spF (S_is_count)) := by
  refine fn_ok F sc_is_count rfl fun cdv A outer s H E hr => ?_
  have tk : Takes (cxD P w K mg base ["value"] "is_count" st_is_count f cdv A outer s H E) (fun cls d _ H => E cls d H) := takes_of rfl rfl rfl rfl
  have hx := pxM tk
  have nd := sc_is_count.nd
  refine ⟨_, (pss_one (ps_ret (pe_and (pe_callB call_isi (by rfl) T.no_isinstance (by decide +kernel) (pa_cons (pv 0) (pa_cons (pe_bltn (by rfl) T.no_int (by decide +kernel) (v := .ty "int") rfl) pa_nil))) (pe_and (pe_not (pe_callB call_isi (by rfl) T.no_isinstance (by decide +kernel) (pa_cons (pv 0) (pa_cons (pe_bltn (by rfl) T.no_bool (by decide +kernel) (v := .ty "bool") rfl) pa_nil)))) (pe_one (pe_cmpR op_ge (pv 0) pe_int (nomark _))))))), ?_⟩
  intro x
  refine .ok (ss_ret ?_)
  refine sv_is (sv_and (c := dInt x && (!dBool x && countB x)) (sv_isInt (sv_var rfl)) fun h1 => sv_is (sv_and (sv_not (sv_isBool (sv_var rfl))) fun h2 => ?_) (by rw [h1]; rfl)) (by cases x <;> simp [dInt, dBool, countB])
  cases x with
  | int i => exact sv_cmp (g := fun i j => decide (j ≤ i)) (sv_var rfl) sv_int
  | _ => first | (simp [dInt] at h1; done) | (simp [dBool] at h2; done)
def S_is_below : Fs := ⟨PyData × Int, 2, fun x => [.im (isD x.1), .im (isD (.int x.2))], fun _ => rfl, fun x => .ok (isD (.bool (belowB x.1 x.2)))⟩
abbrev st_is_below : Stmt := top 11
theorem sc_is_below : FnScope ["value", "end"] ["value", "end"] (defScope st_is_below) := ⟨rfl, rfl, rfl, by decide +kernel, rfl, by decide +kernel, by decide +kernel⟩
theorem ok_is_below {f : Addr} {fd : FuncData} (T : Txt K mg cAE cBB cBT cNA cBk cPr cRd aE0 aEV aSI) (F_is_count : FnC P w K mg base 1 "is_count" (spF (S_is_count))) (F : Fun K "is_below" "is_below" st_is_below f fd) : FnOk P w K mg base (L2.CX P w) 2 f fd ["value", "end"] (spF (S_is_below)) := by
  refine fn_ok F sc_is_below rfl fun cdv A outer s H E hr => ?_
  have tk : Takes (cxD P w K mg base ["value", "end"] "is_below" st_is_below f cdv A outer s H E) (fun cls d _ H => E cls d H) := takes_of rfl rfl rfl rfl
  have hx := pxM tk
  have nd := sc_is_below.nd
  refine ⟨_, (pss_one (ps_ret (pe_and (pe_fn F_is_count hr hx (pa_cons (pv 0) pa_nil)) (pe_one (pe_cmpR op_lt (pv 0) (pv 1) (nomark _)))))), ?_⟩
  intro x
  obtain ⟨d, n⟩ := x
  refine .ok (ss_ret ?_)
  refine sv_is (sv_and (c := belowB d n) (sv_call (S := S_is_count) (sa_im (sv_var rfl) sa_nil) d rfl rfl) fun h1 => ?_) (by cases d <;> simp [countB, belowB])
  cases d with
  | int i => exact sv_is (sv_cmp (g := fun i j => decide (i < j)) (sv_var rfl) (sv_var rfl)) (by simp [countB] at h1; simp [belowB, h1])
  | _ => simp [countB] at h1
def S_are_below : Fs := ⟨{x : PyData × Int // Fit x.1}, 2, fun x => [.im (isD x.1.1), .im (isD (.int x.1.2))], fun _ => rfl, fun x => .ok (isD (.bool (tupB (fun e => belowB e x.1.2) x.1.1)))⟩
abbrev st_are_below : Stmt := top 12
theorem sc_are_below : FnScope ["value", "end", "item"] ["value", "end"] (defScope st_are_below) := ⟨rfl, rfl, rfl, by decide +kernel, rfl, by decide +kernel, by decide +kernel⟩
theorem ok_are_below {f : Addr} {fd : FuncData} (T : Txt K mg cAE cBB cBT cNA cBk cPr cRd aE0 aEV aSI)  (F : Fun K "are_below" "are_below" st_are_below f fd) : FnOk P w K mg base (L2.CX P w) 1 f fd ["value", "end"] (spF (S_are_below)) := by
  refine fn_ok F sc_are_below rfl fun cdv A outer s H E hr => ?_
  have tk : Takes (cxD P w K mg base ["value", "end", "item"] "are_below" st_are_below f cdv A outer s H E) (fun cls d _ H => E cls d H) := takes_of rfl rfl rfl rfl
  have hx := pxM tk
  have nd := sc_are_below.nd
  refine ⟨_, (pss_cons (ps_if (pt_not (pt_val (pe_callB call_isi (by rfl) T.no_isinstance (by decide +kernel) (pa_cons (pv 0) (pa_cons (pe_bltn (by rfl) T.no_tuple (by decide +kernel) (v := .ty "tuple") rfl) pa_nil))))) (pss_one (ps_ret pe_bl)) pss_nil)
 (pss_one (ps_ret (pe_callB (cr_all rfl) (by rfl) T.no_all (by decide +kernel) (pa_cons (pe_lc (own := [("item", 2)]) (g := gName 2) (tt := tYes) rfl nd (pi_tup (pv 0)) (blkOk_by (N := ["value", "end", "item"]) (sc := defScope st_are_below) (by decide +kernel)) (fun _ _ _ _ _ => pg_name (i := 2) nd rfl (Or.inl rfl)) (fun _ _ _ _ _ => pts_nil) (fun _ _ _ _ _ => (pe_and (pe_callB (r := rIsi K) call_isi (by rfl) T.no_isinstance (by decide +kernel) (pa_cons (pv 2) (pa_cons (pe_bltn (by rfl) T.no_int (by decide +kernel) (v := .ty "int") rfl) pa_nil))) (pe_and (pe_cmpR Mini.op_notBl (pv 2) pe_bl (nomark _)) (pe_and (pe_cmpR Mini.op_notBl (pv 2) pe_bl (nomark _)) (pe_one (pe_chain op_le op_lt pe_int (pv 2) (pv 1)))))))) pa_nil))))), ?_⟩
  intro x
  obtain ⟨⟨d, n⟩, hf⟩ := x
  cases d with
  | tuple ds =>
    refine .ok (ss_seq (ss_if0 (st_is (st_not (st_B (sv_isTup (sv_var rfl)))) rfl) ss_next) ?_)
    refine ss_ret (sv_is (sv_all (bs := ds.map fun e => belowB e n) (rl_svl ?_)) (by rw [all_map_id]; rfl))
    refine svl_is (svl_lcMapT (sv_var rfl) (fun e => .bool (belowB e n)) (Nat.le_of_ble_eq_true rfl) hf fun e _ => ?_) (by rw [List.map_map]; rfl)
    refine sv_is (sv_and (c := !blB e true && (!blB e false && belowB e n)) (sv_isInt (sv_var rfl)) fun h1 => sv_and (sv_notBl (sv_var rfl)) fun h2 => sv_and (sv_notBl (sv_var rfl)) fun h3 => ?_) (by cases e with | bool b => cases b <;> rfl | _ => simp [dInt, blB, belowB])
    cases e with
    | int i => exact sv_chain (g := fun i j => decide (i ≤ j)) (g' := fun i j => decide (i < j)) sv_int (sv_var rfl) fun _ => sv_var rfl
    | bool b => cases b <;> simp [blB] at h2 h3
    | _ => simp [dInt] at h1
  | _ => exact .ok (ss_seqRt (ss_if1 (st_is (st_not (st_B (sv_isTup (sv_var rfl)))) rfl) (ss_ret sv_bl)))
/-! ### _is_word -/
def S_is_word : Fs := ⟨{x : PyData × Int // Fit x.1}, 2, fun x => [.im (isD x.1.1), .im (isD (.int x.1.2))], fun _ => rfl, fun x => .ok (isD (.bool (isWordB x.1.1 x.1.2)))⟩
abbrev st__is_word : Stmt := top 18
theorem sc__is_word : FnScope ["value", "letters"] ["value", "letters"] (defScope st__is_word) := ⟨rfl, rfl, rfl, by decide +kernel, rfl, by decide +kernel, by decide +kernel⟩
theorem ok__is_word {f : Addr} {fd : FuncData} (T : Txt K mg cAE cBB cBT cNA cBk cPr cRd aE0 aEV aSI) (F_are_below : FnC P w K mg base 1 "are_below" (spF (S_are_below))) (F : Fun K "_is_word" "_is_word" st__is_word f fd) : FnOk P w K mg base (L2.CX P w) 2 f fd ["value", "letters"] (spF (S_is_word)) := by
  refine fn_ok F sc__is_word rfl fun cdv A outer s H E hr => ?_
  have tk : Takes (cxD P w K mg base ["value", "letters"] "_is_word" st__is_word f cdv A outer s H E) (fun cls d _ H => E cls d H) := takes_of rfl rfl rfl rfl
  have hx := pxM tk
  have nd := sc__is_word.nd
  refine ⟨_, (pss_one (ps_ret (pe_and (pe_fn F_are_below hr hx (pa_cons (pv 0) (pa_cons (pv 1) pa_nil))) (pe_one (pe_chain op_le op_le pe_int (pe_callB call_len (by rfl) T.no_len (by decide +kernel) (pa_cons (pv 0) pa_nil)) (pe_gc T.c_LONGEST_WORD)))))), ?_⟩
  intro x
  obtain ⟨⟨d, n⟩, hf⟩ := x
  refine .ok (ss_ret ?_)
  refine sv_and (sv_call (S := S_are_below) (sa_im (sv_var rfl) (sa_im (sv_var rfl) sa_nil)) ⟨(d, n), hf⟩ rfl rfl) fun h1 => ?_
  cases d with
  | tuple ds => exact sv_chain (g := fun i j => decide (i ≤ j)) (g' := fun i j => decide (i ≤ j)) sv_int (sv_lenT (sv_var rfl)) fun _ => sv_int
  | _ => simp [tupB] at h1

/-! ### _are_words -/
def S_are_words : Fs := ⟨{x : (PyData ⊕ List PyData) × Int // Fits (datOf x.1)}, 2, fun x => [argOf x.1.1, .im (isD (.int x.1.2))], fun _ => rfl, fun x => .ok (isD (.bool (areWordsB (datOf x.1.1) x.1.2)))⟩
abbrev st__are_words : Stmt := top 19
theorem sc__are_words : FnScope ["value", "letters", "word"] ["value", "letters"] (defScope st__are_words) := ⟨rfl, rfl, rfl, by decide +kernel, rfl, by decide +kernel, by decide +kernel⟩
theorem ok__are_words {f : Addr} {fd : FuncData} (T : Txt K mg cAE cBB cBT cNA cBk cPr cRd aE0 aEV aSI) (F__is_word : FnC P w K mg base 2 "_is_word" (spF (S_is_word))) (F : Fun K "_are_words" "_are_words" st__are_words f fd) : FnOk P w K mg base (L2.CX P w) 3 f fd ["value", "letters"] (spF (S_are_words)) := by
  refine fn_ok F sc__are_words rfl fun cdv A outer s H E hr => ?_
  have tk : Takes (cxD P w K mg base ["value", "letters", "word"] "_are_words" st__are_words f cdv A outer s H E) (fun cls d _ H => E cls d H) := takes_of rfl rfl rfl rfl
  have hx := pxM tk
  have nd := sc__are_words.nd
  refine ⟨_, (pss_cons (ps_if (PW.pt (pw_or (pt_not (pt_val (pe_callB call_isi (by rfl) T.no_isinstance (by decide +kernel) (pa_cons (pv 0) (pa_cons (pe_bltn (by rfl) T.no_list (by decide +kernel) (v := .ty "list") rfl) pa_nil))))) (pw_or1 (pt_cmpR op_gt (pe_callB call_len (by rfl) T.no_len (by decide +kernel) (pa_cons (pv 0) pa_nil)) (pe_gc T.c_MOST_WORDS) (nomark _))))) (pss_one (ps_ret pe_bl)) pss_nil)
 (pss_one (ps_ret (pe_callB (cr_all rfl) (by rfl) T.no_all (by decide +kernel) (pa_cons (pe_lc (own := [("word", 2)]) (g := gName 2) (tt := tYes) rfl nd (pi_list (pv 0)) (blkOk_by (N := ["value", "letters", "word"]) (sc := defScope st__are_words) (by decide +kernel)) (fun _ _ _ _ _ => pg_name (i := 2) nd rfl (Or.inl rfl)) (fun _ _ _ _ _ => pts_nil) (fun _ _ _ _ _ => (pe_fn F__is_word hr px0 (pa_cons (pv 2) (pa_cons (pv 1) pa_nil))))) pa_nil))))), ?_⟩
  intro x
  obtain ⟨⟨a, n⟩, hf⟩ := x
  have hf : Fits (datOf a) := hf
  show Mini.Ans _ _ (entG (argOf a :: [.im (isD (.int n))]) ++ [.no]) (.ok (isD (.bool (areWordsB (datOf a) n))))
  rw [ent_slOf]
  cases hd : datOf a with
  | list ds =>
    rw [hd] at hf
    have h1 : ∀ x : Sl, Rl (tVar 0) [slOf a, .im (isD (.int n)), x] ds := fun x => rl_slOf hd rfl
    by_cases hl : ds.length ≤ 60
    · refine .ok (ss_seq (G1 := [slOf a, .im (isD (.int n)), .no]) (ss_if0 (st_is (st_or (c := decide (60 < (ds.length : Int))) (st_not (st_B (sv_isLstR (h1 _)))) fun _ => st_test (sv_cmp (g := fun i j => decide (j < i)) (sv_lenL (h1 _)) sv_int)) (by simp; omega)) ss_next) ?_)
      refine ss_ret (sv_is (sv_all (bs := ds.map fun e => isWordB e n) (rl_svl ?_)) (by rw [all_map_id]; simp [areWordsB, hl]))
      refine svl_is (svl_lcMap (h1 _) (fun e => .bool (isWordB e n)) (Nat.le_of_ble_eq_true rfl) hf.1 fun e he => ?_) (by rw [List.map_map]; rfl)
      exact sv_call (S := S_is_word) (sa_im (sv_var rfl) (sa_im (sv_var rfl) sa_nil)) ⟨(e, n), hf.2 e he⟩ rfl rfl
    · exact .ok (ss_seqRt (ss_if1 (st_is (st_or (c := decide (60 < (ds.length : Int))) (st_not (st_B (sv_isLstR (h1 _)))) fun _ => st_test (sv_cmp (g := fun i j => decide (j < i)) (sv_lenL (h1 _)) sv_int)) (by simp; omega)) (ss_ret (sv_is sv_bl (by simp [areWordsB, hl])))))
  | _ =>
    have h1 : Sv (tVar 0) [slOf a, .im (isD (.int n)), .no] (isD (datOf a)) := sv_slOf (fun ds z => by rw [hd] at z; cases z) rfl
    rw [hd] at h1
    exact .ok (ss_seqRt (ss_if1 (st_is (st_or (c := true) (st_not (st_B (sv_isLst h1))) fun z => by simp [dLst] at z) rfl) (ss_ret sv_bl)))

/-! ### Book.__init__ -/
/-- the words handed in, whoever owns them: a book of them, or an error -/
def S_Book (cBB : Addr) : Ini := ⟨{x : PyData × (PyData ⊕ List PyData) // Fits (datOf x.2)}, 2, fun x => [.im (isD x.1.1), argOf x.1.2], fun _ => rfl,
  fun x => match x.1.1, datOf x.1.2 with
    | .int m, .list ds => if belowB (.int m) 61 && areWordsB (.list ds) m then .inl (bookF (.int m) ds) else .inr cBB
    | _, _ => .inr cBB⟩
abbrev st_Book_init : Stmt := inClass (top 20) 0
theorem sc_Book_init : FnScope ["self", "letters", "words"] ["self", "letters", "words"] (defScope st_Book_init) := ⟨rfl, rfl, rfl, by decide +kernel, rfl, by decide +kernel, by decide +kernel⟩
theorem ok_Book_init {f : Addr} {fd : FuncData} (T : Txt K mg cAE cBB cBT cNA cBk cPr cRd aE0 aEV aSI) (F_is_below : FnC P w K mg base 2 "is_below" (spF (S_is_below))) (F__are_words : FnC P w K mg base 3 "_are_words" (spF (S_are_words))) (F : Fun K "__init__" "Book.__init__" st_Book_init f fd) : FnOk P w K mg base (L2.CX P w) 4 f fd ["self", "letters", "words"] (spN cBk (S_Book cBB)) := by
  refine ini_ok F sc_Book_init rfl fun cdv A outer s H E hr => ?_
  have tk : Takes (cxD P w K mg base ["self", "letters", "words"] "Book.__init__" st_Book_init f cdv A outer s H E) (fun cls d _ H => E cls d H) := takes_of rfl rfl rfl rfl
  have hx := pxM tk
  have nd := sc_Book_init.nd
  refine ⟨_, (pss_cons (ps_if (pt_not (pt_val (pe_fn F_is_below hr hx (pa_cons (pv 1) (pa_cons (pe_op op_uAdd (pe_gc T.c_MOST_LETTERS) pe_int) pa_nil))))) (pss_one (ps_rs rfl tk (pmk_err T.e_BadBook))) pss_nil)
 (pss_cons (ps_if (pt_not (pt_val (pe_fn F__are_words hr hx (pa_cons (pv 2) (pa_cons (pv 1) pa_nil))))) (pss_one (ps_rs rfl tk (pmk_err T.e_BadBook))) pss_nil)
 (pss_cons (ps_fld (pv 0) (pv 1) rfl)
 (pss_cons (ps_fld (pv 0) (pe_callB call_len (by rfl) T.no_len (by decide +kernel) (pa_cons (pv 2) pa_nil)) rfl)
 (pss_one (ps_fld (pv 0) (pe_callTy call_list_of (by rfl) T.no_list (by decide +kernel) (pa_cons (pv 2) pa_nil)) rfl)))))), ?_⟩
  intro x
  obtain ⟨⟨d, a⟩, hf⟩ := x
  have hf : Fits (datOf a) := hf
  have eG : ∀ p dx, (Sl.ow (owI cBk p dx (flds [])) :: startG 2 [.im (isD d), argOf a]) = [.ow (owI cBk p dx (flds [])), .im (isD d), slOf a] := fun p dx => by cases a <;> rfl
  have t1 : ∀ {x : Sl}, Sv (tCallS (spF S_is_below) (fun _ => E) (tCons (tVar 1) (tCons (tOp (uAdd K) (tC (.int 60)) (tC (.int 1))) tNil))) [x, .im (isD d), slOf a] (isD (.bool (belowB d 61))) := fun {x} =>
    sv_call (S := S_is_below) (sa_im (sv_var rfl) (sa_im (sv_add sv_int sv_int) sa_nil)) (d, 61) rfl rfl
  by_cases c1 : belowB d 61 = true
  · obtain ⟨m, rfl⟩ : ∃ m, d = .int m := by cases d <;> first | exact ⟨_, rfl⟩ | (simp [belowB] at c1; done)
    have t2 : ∀ {x : Sl}, Sv (tCallS (spF S_are_words) (fun _ => E) (tCons (tVar 2) (tCons (tVar 1) tNil))) [x, .im (isD (.int m)), slOf a] (isD (.bool (areWordsB (datOf a) m))) := fun {x} =>
      sv_call (S := S_are_words) (sa_slOf rfl (sa_im (sv_var rfl) sa_nil)) ⟨(a, m), hf⟩ rfl rfl
    by_cases c2 : areWordsB (datOf a) m = true
    · obtain ⟨ds, hd⟩ : ∃ ds, datOf a = .list ds := by cases h : datOf a <;> first | exact ⟨_, rfl⟩ | (rw [h] at c2; simp [areWordsB] at c2; done)
      have hr : (S_Book cBB).res ⟨(.int m, a), hf⟩ = .inl (bookF (.int m) ds) := by
        show (match (PyData.int m), datOf a with
          | .int m, .list ds => if (belowB (.int m) 61 && areWordsB (.list ds) m) = true then Sum.inl (bookF (.int m) ds) else Sum.inr cBB
          | _, _ => Sum.inr cBB) = _
        rw [hd] at c2 ⊢
        show (if (belowB (.int m) 61 && areWordsB (.list ds) m) = true then _ else _) = _
        rw [c1, c2]; rfl
      rw [hr]
      intro p dx
      apply ini_good
      · show Ss _ _ (Sl.ow (owI cBk p dx (flds [])) :: startG 2 [.im (isD (.int m)), argOf a]) _
        rw [eG]
        refine ss_seq (ss_if0 (st_is (st_not (st_B t1)) (by rw [c1]; rfl)) ss_next) ?_
        refine ss_seq (ss_if0 (st_is (st_not (st_B t2)) (by rw [c2]; rfl)) ss_next) ?_
        refine ss_seq (ss_fld (fs := []) rfl (sv_var rfl) rfl (Nat.le_of_ble_eq_true rfl) T.cl_cBk T.n_cBk_letters) ?_
        refine ss_seq (ss_fld (fs := [("letters", isD (.int m))]) rfl (sv_lenL (rl_slOf hd rfl)) rfl (Nat.le_of_ble_eq_true rfl) T.cl_cBk T.n_cBk_size) ?_
        exact ss_fld (fs := [("letters", isD (.int m)), ("size", isD (.int ds.length))]) rfl (sv_svl (svl_list (rl_slOf hd rfl))) rfl (Nat.le_of_ble_eq_true rfl) T.cl_cBk T.n_cBk__words
      · rfl
    · have hr : (S_Book cBB).res ⟨(.int m, a), hf⟩ = .inr cBB := by
        show (match (PyData.int m), datOf a with
          | .int m, .list ds => if (belowB (.int m) 61 && areWordsB (.list ds) m) = true then Sum.inl (bookF (.int m) ds) else Sum.inr cBB
          | _, _ => Sum.inr cBB) = _
        have c2' := Bool.not_eq_true _ ▸ c2
        cases h : datOf a with
        | list ds =>
          rw [h] at c2'
          show (if (belowB (.int m) 61 && areWordsB (.list ds) m) = true then _ else _) = _
          rw [c2', Bool.and_false]; rfl
        | _ => rfl
      rw [hr]
      intro p dx
      apply ini_bad (F' := flds [])
      · show Ss _ _ (Sl.ow (owI cBk p dx (flds [])) :: startG 2 [.im (isD (.int m)), argOf a]) _
        rw [eG]
        refine ss_seq (ss_if0 (st_is (st_not (st_B t1)) (by rw [c1]; rfl)) ss_next) ?_
        exact ss_seqBad (ss_if1 (st_is (st_not (st_B t2)) (by simp [c2])) ss_rs)
      · rfl
  · have hr : (S_Book cBB).res ⟨(d, a), hf⟩ = .inr cBB := by
      have c1' : belowB d 61 = false := Bool.not_eq_true _ ▸ c1
      show (match d, datOf a with
        | .int m, .list ds => if (belowB (.int m) 61 && areWordsB (.list ds) m) = true then Sum.inl (bookF (.int m) ds) else Sum.inr cBB
        | _, _ => Sum.inr cBB) = _
      cases d with
      | int m => cases h : datOf a with
        | list ds =>
          show (if (belowB (.int m) 61 && areWordsB (.list ds) m) = true then _ else _) = _
          rw [c1', Bool.false_and]; rfl
        | _ => rfl
      | _ => rfl
    rw [hr]
    intro p dx
    apply ini_bad (F' := flds [])
    · show Ss _ _ (Sl.ow (owI cBk p dx (flds [])) :: startG 2 [.im (isD d), argOf a]) _
      rw [eG]
      exact ss_seqBad (ss_if1 (st_is (st_not (st_B t1)) (by simp [c1])) ss_rs)
    · rfl

/-! ### Book.words -/
def S_words (cBk : Addr) : Fs := ⟨PyData × List PyData, 1, fun x => [.im (isI cBk (bookF x.1 x.2))], fun _ => rfl, fun x => .ol x.2⟩
abbrev st_Book_words : Stmt := inClass (top 20) 1
theorem sc_Book_words : FnScope ["self"] ["self"] (defScope st_Book_words) := ⟨rfl, rfl, rfl, by decide +kernel, rfl, by decide +kernel, by decide +kernel⟩
theorem ok_Book_words {f : Addr} {fd : FuncData} (T : Txt K mg cAE cBB cBT cNA cBk cPr cRd aE0 aEV aSI)  (F : Fun K "words" "Book.words" st_Book_words f fd) : FnOk P w K mg base (L2.CX P w) 1 f fd ["self"] (spF (S_words cBk)) := by
  refine fn_ok F sc_Book_words rfl fun cdv A outer s H E hr => ?_
  have tk : Takes (cxD P w K mg base ["self"] "Book.words" st_Book_words f cdv A outer s H E) (fun cls d _ H => E cls d H) := takes_of rfl rfl rfl rfl
  have hx := pxM tk
  have nd := sc_Book_words.nd
  refine ⟨_, (pss_one (ps_ret (pe_callTy call_list_of (by rfl) T.no_list (by decide +kernel) (pa_cons (pe_fld (pv 0) rfl) pa_nil)))), ?_⟩
  intro x
  exact .ol (ss_retL (svl_list (rl_sv (sv_fld (sv_var rfl) rfl T.cl_cBk T.n_cBk__words))))
def goodBook (d e : PyData) : Bool := match d, e with
  | .int m, .list ds => belowB (.int m) 61 && areWordsB (.list ds) m
  | _, _ => false
theorem book_good {x : (S_Book cBB).α} (h : goodBook x.1.1 (datOf x.1.2) = true) : ∃ m ds, x.1.1 = .int m ∧ datOf x.1.2 = .list ds ∧ (S_Book cBB).res x = .inl (bookF (.int m) ds) := by
  obtain ⟨⟨d, a⟩, hf⟩ := x
  dsimp only at h ⊢
  cases d with
  | int m =>
    cases hd : datOf a with
    | list ds =>
      rw [hd] at h
      refine ⟨m, ds, rfl, rfl, ?_⟩
      show (match (PyData.int m), datOf a with
        | .int m, .list ds => if (belowB (.int m) 61 && areWordsB (.list ds) m) = true then Sum.inl (bookF (.int m) ds) else Sum.inr cBB
        | _, _ => Sum.inr cBB) = _
      rw [hd]
      exact if_pos h
    | _ => rw [hd] at h; simp [goodBook] at h
  | _ => simp [goodBook] at h
theorem good_wD {m : Int} {W : List (List Int)} (h0 : 0 ≤ m) (h1 : m < 61) (h : GoodW W m) : goodBook (.int m) (.list (wD W)) = true := by
  show (belowB (.int m) 61 && areWordsB (.list (wD W)) m) = true
  rw [(belowB_int m 61).mpr ⟨h0, h1⟩, (areWords_iff W m).mpr h]; rfl
theorem res_good {cBB : Addr} {m : Int} {ds : List PyData} (x : (S_Book cBB).α) (h1 : x.1.1 = .int m) (h2 : datOf x.1.2 = .list ds) (h : goodBook (.int m) (.list ds) = true) : (S_Book cBB).res x = .inl (bookF (.int m) ds) := by
  obtain ⟨m', ds', e1, e2, e3⟩ := book_good (cBB := cBB) (x := x) (by rw [h1, h2]; exact h)
  rw [h1] at e1
  rw [h2] at e2
  cases e1
  cases e2
  exact e3

/-! ### starts_apart, turned -/
/-- a word's first letter -/
def hd0 : PyData → Int
  | .tuple (.int i :: _) => i
  | _ => 0
def revD : PyData → PyData
  | .tuple ds => .tuple ds.reverse
  | d => d
theorem hd_wD (W : List (List Int)) : (wD W).map hd0 = W.map fun w => w.getD 0 0 := by
  unfold wD
  rw [List.map_map]
  refine List.map_congr_left fun w _ => ?_
  cases w <;> rfl
theorem rev_wD (W : List (List Int)) : (wD W).map revD = wD (W.map List.reverse) := by
  unfold wD
  rw [List.map_map, List.map_map]
  refine List.map_congr_left fun w _ => ?_
  show PyData.tuple (w.map .int).reverse = .tuple (w.reverse.map .int)
  rw [List.map_reverse]
theorem goodW_rev {W : List (List Int)} {m : Int} (h : GoodW W m) : GoodW (W.map List.reverse) m := ⟨by rw [List.length_map]; exact h.1, fun w hw => by
  obtain ⟨u, hu, rfl⟩ := List.mem_map.mp hw
  obtain ⟨a, b, c⟩ := h.2 u hu
  exact ⟨by rw [List.length_reverse]; exact a, by rw [List.length_reverse]; exact b, fun v hv => c v (List.mem_reverse.mp hv)⟩⟩
def apartB (W : List (List Int)) : Bool := decide ((((dl (W.map fun w => w.getD 0 0)).length : Nat) : Int) = (((wD W).length : Nat) : Int))
theorem sv_hd {K : PySem.W.Frag} {G : Gm} {j : Nat} {W : List (List Int)} (hW : ∀ w ∈ W, 1 ≤ w.length) (hj : ∀ d, (Gv G j d)[j]? = some (.im (isD d))) : ∀ d ∈ wD W, Sv (tOp (rIx K) (tVar j) (tC (.int 0))) (Gv G j d) (isD (.int (hd0 d))) := fun d hd => by
  obtain ⟨w, hw, rfl⟩ := List.mem_map.mp hd
  have h1 := hW w hw
  cases w with
  | nil => simp at h1
  | cons a w => exact sv_ixT (i := ((0 : Nat) : Int)) (sv_var (hj _)) sv_int (atI_nat rfl)

/-! ### pairs -/
def pairF (cBk : Addr) (m1 : Int) (d1 : List PyData) (m2 : Int) (d2 : List PyData) : Fl := flds [("first", isI cBk (bookF (.int m1) d1)), ("second", isI cBk (bookF (.int m2) d2)), ("letters", isD (.int m1))]
theorem pairF_no {cBk : Addr} {m1 m2 : Int} {d1 d2 : List PyData} {f : Str} (h : ([("first", isI cBk (bookF (.int m1) d1)), ("second", isI cBk (bookF (.int m2) d2)), ("letters", isD (.int m1))] : List (Str × Ty)).lookup f = none) : ∀ vs B, (pairF cBk m1 d1 m2 d2).r vs B → vs.lookup f = none := fun vs B r => (FldsOk.look r).2 h

def S_Pair (cBk cBB : Addr) : Ini := ⟨(Int × List PyData) × (Int × List PyData), 2, fun x => [.im (isI cBk (bookF (.int x.1.1) x.1.2)), .im (isI cBk (bookF (.int x.2.1) x.2.2))], fun _ => rfl,
  fun x => if x.1.1 = x.2.1 then .inl (pairF cBk x.1.1 x.1.2 x.2.1 x.2.2) else .inr cBB⟩
abbrev st_Pair_init : Stmt := inClass (top 21) 0
theorem sc_Pair_init : FnScope ["self", "first", "second"] ["self", "first", "second"] (defScope st_Pair_init) := ⟨rfl, rfl, rfl, by decide +kernel, rfl, by decide +kernel, by decide +kernel⟩
theorem ok_Pair_init {f : Addr} {fd : FuncData} (T : Txt K mg cAE cBB cBT cNA cBk cPr cRd aE0 aEV aSI)  (F : Fun K "__init__" "Pair.__init__" st_Pair_init f fd) : FnOk P w K mg base (L2.CX P w) 1 f fd ["self", "first", "second"] (spN cPr (S_Pair cBk cBB)) := by
  refine ini_ok F sc_Pair_init rfl fun cdv A outer s H E hr => ?_
  have tk : Takes (cxD P w K mg base ["self", "first", "second"] "Pair.__init__" st_Pair_init f cdv A outer s H E) (fun cls d _ H => E cls d H) := takes_of rfl rfl rfl rfl
  have hx := pxM tk
  have nd := sc_Pair_init.nd
  refine ⟨_, (pss_cons (ps_if (pt_cmpR (op_neD hr.units) (pe_fld (pv 1) rfl) (pe_fld (pv 2) rfl) (nomark _)) (pss_one (ps_rs rfl tk (pmk_err T.e_BadBook))) pss_nil)
 (pss_cons (ps_fld (pv 0) (pv 1) rfl)
 (pss_cons (ps_fld (pv 0) (pv 2) rfl)
 (pss_one (ps_fld (pv 0) (pe_fld (pv 1) rfl) rfl))))), ?_⟩
  intro x
  obtain ⟨⟨m1, d1⟩, ⟨m2, d2⟩⟩ := x
  have t1 : ∀ {y : Sl}, St' (tTest (tOp (rNeD K) (tFld K (tVar 1) "letters") (tFld K (tVar 2) "letters"))) [y, .im (isI cBk (bookF (.int m1) d1)), .im (isI cBk (bookF (.int m2) d2))] (!decide (m1 = m2)) := fun {y} =>
    st_test (sv_neI (sv_fld (sv_var rfl) rfl T.cl_cBk T.n_cBk_letters) (sv_fld (sv_var rfl) rfl T.cl_cBk T.n_cBk_letters))
  by_cases c : m1 = m2
  · have hr : (S_Pair cBk cBB).res ((m1, d1), (m2, d2)) = .inl (pairF cBk m1 d1 m2 d2) := if_pos c
    rw [hr]
    intro p dx
    apply ini_good
    · show Ss _ _ (Sl.ow (owI cPr p dx (flds [])) :: [.im (isI cBk (bookF (.int m1) d1)), .im (isI cBk (bookF (.int m2) d2))]) _
      refine ss_seq (ss_if0 (st_is t1 (by simp [c])) ss_next) ?_
      refine ss_seq (ss_fld (fs := []) rfl (sv_var rfl) rfl (Nat.le_of_ble_eq_true rfl) T.cl_cPr T.n_cPr_first) ?_
      refine ss_seq (ss_fld (fs := [("first", isI cBk (bookF (.int m1) d1))]) rfl (sv_var rfl) rfl (Nat.le_of_ble_eq_true rfl) T.cl_cPr T.n_cPr_second) ?_
      exact ss_fld (fs := [("first", isI cBk (bookF (.int m1) d1)), ("second", isI cBk (bookF (.int m2) d2))]) rfl (sv_fld (sv_var rfl) rfl T.cl_cBk T.n_cBk_letters) rfl (Nat.le_of_ble_eq_true rfl) T.cl_cPr T.n_cPr_letters
    · rfl
  · have hr : (S_Pair cBk cBB).res ((m1, d1), (m2, d2)) = .inr cBB := if_neg c
    rw [hr]
    intro p dx
    apply ini_bad (F' := flds [])
    · show Ss _ _ (Sl.ow (owI cPr p dx (flds [])) :: [.im (isI cBk (bookF (.int m1) d1)), .im (isI cBk (bookF (.int m2) d2))]) _
      exact ss_seqBad (ss_if1 (st_is t1 (by simp [c])) ss_rs)
    · rfl

def S_swapped (cBk cPr : Addr) : Fs := ⟨Int × List PyData × List PyData, 1, fun x => [.im (isI cPr (pairF cBk x.1 x.2.1 x.1 x.2.2))], fun _ => rfl, fun x => .ok (isI cPr (pairF cBk x.1 x.2.2 x.1 x.2.1))⟩
abbrev st_Pair_swapped : Stmt := inClass (top 21) 4
theorem sc_Pair_swapped : FnScope ["self"] ["self"] (defScope st_Pair_swapped) := ⟨rfl, rfl, rfl, by decide +kernel, rfl, by decide +kernel, by decide +kernel⟩
theorem ok_Pair_swapped {f : Addr} {fd : FuncData} (T : Txt K mg cAE cBB cBT cNA cBk cPr cRd aE0 aEV aSI) (K_Pair : MkC P w K mg base 1 cPr "Pair" (spN cPr (S_Pair cBk cBB))) (F : Fun K "swapped" "Pair.swapped" st_Pair_swapped f fd) : FnOk P w K mg base (L2.CX P w) 3 f fd ["self"] (spF (S_swapped cBk cPr)) := by
  refine fn_ok F sc_Pair_swapped rfl fun cdv A outer s H E hr => ?_
  have tk : Takes (cxD P w K mg base ["self"] "Pair.swapped" st_Pair_swapped f cdv A outer s H E) (fun cls d _ H => E cls d H) := takes_of rfl rfl rfl rfl
  have hx := pxM tk
  have nd := sc_Pair_swapped.nd
  refine ⟨_, (pss_one (ps_ret (pe_mk K_Pair hr hx (pa_cons (pe_fld (pv 0) rfl) (pa_cons (pe_fld (pv 0) rfl) pa_nil))))), ?_⟩
  intro x
  obtain ⟨m, A, B⟩ := x
  exact .ok (ss_ret (sv_mk (S := S_Pair cBk cBB) (sa_im (sv_fld (sv_var rfl) rfl T.cl_cPr T.n_cPr_second) (sa_im (sv_fld (sv_var rfl) rfl T.cl_cPr T.n_cPr_first) sa_nil)) ((m, B), (m, A)) rfl (if_pos rfl)))

end
end K10

namespace K10
open PySem L2 Evl Mini PyProof.Rows
def Valid (r : List Int) (W : List (List Int)) : Prop := ∀ v ∈ r, 0 ≤ v ∧ v < W.length
/-- the text of a row -/
def txtF (W : List (List Int)) (r : List Int) : List Int := r.flatMap fun k => W.getD k.toNat []
theorem at_wD {W : List (List Int)} {k : Int} (h0 : 0 ≤ k) (h1 : k < W.length) : atI (wD W) k = some (.tuple ((W.getD k.toNat []).map .int)) := by
  have e : ((k.toNat : Nat) : Int) = k := Int.toNat_of_nonneg h0
  have := atI_nat (wD_get (W := W) (j := k.toNat) (by omega))
  rw [e] at this
  exact this
theorem wD_len (W : List (List Int)) : (wD W).length = W.length := by unfold wD; rw [List.length_map]
/-! ### row_of -/
/-- the number of the first word by the way the program keeps it -/
def keysW (W : List (List Int)) : List (Int × Int) := dE hd0 (wD W) (wD W).length
def headK (W : List (List Int)) (c : Int) : Option Int := ((keysW W).find? fun p => decide (p.1 = c)).map (·.2)
theorem putI_mem {kvs : List (Int × Int)} {k v : Int} {p : Int × Int} (h : p ∈ putI kvs k v) : p.2 = v ∨ p ∈ kvs := by
  unfold putI at h
  split at h
  · obtain ⟨q, hq, e⟩ := List.mem_map.mp h
    by_cases z : q.1 = k
    · rw [if_pos z] at e; exact .inl (by rw [← e])
    · rw [if_neg z] at e; exact .inr (e ▸ hq)
  · rcases List.mem_append.mp h with z | z
    · exact .inr z
    · rw [List.mem_singleton] at z; exact .inl (by rw [z])
theorem dE_mem {kf : PyData → Int} {ds : List PyData} : ∀ {i : Nat} {p : Int × Int}, p ∈ dE kf ds i → 0 ≤ p.2 ∧ p.2 < i
  | 0, p, h => by cases h
  | i + 1, p, h => by
    rcases putI_mem h with z | z
    · rw [z]; omega
    · have := dE_mem z; omega
theorem headK_lt {W : List (List Int)} {c k : Int} (h : headK W c = some k) : 0 ≤ k ∧ k < W.length := by
  unfold headK at h
  cases e : (keysW W).find? fun p => decide (p.1 = c) with
  | none => rw [e] at h; cases h
  | some p =>
    rw [e] at h
    cases h
    have := dE_mem (List.mem_of_find?_eq_some e)
    rw [wD_len] at this
    exact this
theorem getI_headK (W : List (List Int)) (c : Int) : getI (keysW W) c = match headK W c with | some k => .int k | none => .none := by
  unfold getI headK
  cases (keysW W).find? fun p => decide (p.1 = c) with
  | none => rfl
  | some p => rfl
theorem getD_mem {W : List (List Int)} {k : Int} (h0 : 0 ≤ k) (h1 : k < W.length) : W.getD k.toNat [] ∈ W := by
  have h : k.toNat < W.length := by omega
  rw [List.getD_eq_getElem?_getD, List.getElem?_eq_getElem h]
  exact List.getElem_mem h
/-! ### a book that starts apart: its heads tell its words -/
def hdW (W : List (List Int)) (i : Nat) : Int := (W.getD i []).getD 0 0
theorem hd0_wD {W : List (List Int)} {i : Nat} (h : i < W.length) : hd0 ((wD W).getD i .none) = hdW W i := by
  have e : (wD W).getD i .none = .tuple ((W.getD i []).map .int) := by
    rw [List.getD_eq_getElem?_getD, wD_get h]
    rfl
  rw [e]
  unfold hdW
  cases W.getD i [] <;> rfl
theorem keys_apart {W : List (List Int)} (hi : ∀ i j, i < W.length → j < W.length → hdW W i = hdW W j → i = j) : ∀ n, n ≤ W.length → dE hd0 (wD W) n = (List.range n).map fun i => (hdW W i, (i : Int))
  | 0, _ => rfl
  | n + 1, h => by
    have ih := keys_apart hi n (by omega)
    show putI (dE hd0 (wD W) n) (hd0 ((wD W).getD n .none)) n = _
    rw [ih, hd0_wD (by omega), List.range_succ, List.map_append]
    unfold putI
    rw [if_neg]
    · rfl
    · intro z
      rw [List.any_map, List.any_eq_true] at z
      obtain ⟨j, hj, e⟩ := z
      have hj := List.mem_range.mp hj
      have e : hdW W j = hdW W n := of_decide_eq_true e
      have := hi j n (by omega) (by omega) e
      omega
theorem headK_iff {W : List (List Int)} (hi : ∀ i j, i < W.length → j < W.length → hdW W i = hdW W j → i = j) (c : Int) {k : Nat} (hk : k < W.length) (e : hdW W k = c) : headK W c = some (k : Int) := by
  unfold headK keysW
  rw [wD_len, keys_apart hi _ (Nat.le_refl _)]
  cases f : ((List.range W.length).map fun i => (hdW W i, (i : Int))).find? fun p => decide (p.1 = c) with
  | none =>
    have := List.find?_eq_none.mp f (hdW W k, (k : Int)) (List.mem_map.mpr ⟨k, List.mem_range.mpr hk, rfl⟩)
    exact absurd (decide_eq_true e) this
  | some p =>
    obtain ⟨i, hi1, rfl⟩ := List.mem_map.mp (List.mem_of_find?_eq_some f)
    have e0 := List.find?_some f
    have e1 : hdW W i = c := of_decide_eq_true e0
    have := hi i k (List.mem_range.mp hi1) hk (e1.trans e.symm)
    rw [this]
    rfl
theorem headK_hd {W : List (List Int)} (hi : ∀ i j, i < W.length → j < W.length → hdW W i = hdW W j → i = j) {c k : Int} (h : headK W c = some k) : hdW W k.toNat = c := by
  unfold headK keysW at h
  rw [wD_len, keys_apart hi _ (Nat.le_refl _)] at h
  cases f : ((List.range W.length).map fun i => (hdW W i, (i : Int))).find? fun p => decide (p.1 = c) with
  | none => rw [f] at h; cases h
  | some p =>
    rw [f] at h
    obtain ⟨i, hi1, rfl⟩ := List.mem_map.mp (List.mem_of_find?_eq_some f)
    cases h
    have e0 := List.find?_some f
    exact of_decide_eq_true e0
theorem apart_iff (W : List (List Int)) : apartB W = true ↔ (W.map fun w => w.getD 0 0).Nodup := by
  unfold apartB
  rw [decide_eq_true_iff, wD_len]
  constructor
  · intro h
    have := dl_nd (W.map fun w => w.getD 0 0) [] List.nodup_nil (by
      show (dl _).length = _
      rw [List.length_nil, List.length_map]
      omega)
    exact this
  · intro h
    have e : (dl (W.map fun w => w.getD 0 0)).length = 0 + (W.map fun w => w.getD 0 0).length := nd_dl (W.map fun w : List Int => w.getD 0 0) [] (by rw [List.nil_append]; exact h)
    rw [e, List.length_map]
    omega
theorem hi_of {W : List (List Int)} (h : apartB W = true) : ∀ i j, i < W.length → j < W.length → hdW W i = hdW W j → i = j := fun i j hi hj e => by
  have nd := (apart_iff W).mp h
  refine nd_get nd (by rw [List.length_map]; exact hi) (by rw [List.length_map]; exact hj) ?_
  rw [List.getElem_map, List.getElem_map]
  unfold hdW at e
  have g : ∀ k, (h : k < W.length) → W.getD k [] = W[k] := fun k h => by rw [List.getD_eq_getElem?_getD, List.getElem?_eq_getElem h]; rfl
  rw [g i hi, g j hj] at e
  exact e
/-- a book's words in order -/
def BkOk (W : List (List Int)) : Prop := W.length ≤ 60 ∧ ∀ w ∈ W, 1 ≤ w.length ∧ w.length ≤ 5000
def oth (A B : List (List Int)) (s : Int) : List (List Int) := if s = 0 then B else A
/-- what must come behind w from the place st on, the side s ahead -/
def followD (A B : List (List Int)) (s : Int) (w : List Int) (st : Nat) : PyData := match headK (oth A B s) (w.getD st 0) with
  | none => .none
  | some k => if (w.drop st).take ((oth A B s).getD k.toNat []).length = ((oth A B s).getD k.toNat []).take (w.length - st) then
      (if ((oth A B s).getD k.toNat []).length ≤ w.length - st then .tuple [.int k, .tuple [.int s, .tuple (w.map .int), .int ((st + ((oth A B s).getD k.toNat []).length : Nat) : Int)]]
       else .tuple [.int k, .tuple [.int (1 - s), .tuple (((oth A B s).getD k.toNat []).map .int), .int ((w.length - st : Nat) : Int)]]) else .none
section
variable {P : Program} {w : World} {K : PySem.W.Frag} {mg : Str → Option Value} {base : Heap} {cAE cBB cBT cNA cBk cPr cRd aE0 aEV aSI : Addr}
def rdF (A B : List (List Int)) : Fl := flds [("_words", isD (.tuple [.list (wD A), .list (wD B)])), ("_numbers", isTT [isDi (keysW A), isDi (keysW B)])]
theorem rdF_no {A B : List (List Int)} {f : Str} (h : ([("_words", isD (.tuple [.list (wD A), .list (wD B)])), ("_numbers", isTT [isDi (keysW A), isDi (keysW B)])] : List (Str × Ty)).lookup f = none) : ∀ vs B', (rdF A B).r vs B' → vs.lookup f = none := fun vs B' r => (FldsOk.look r).2 h
def S_by_first : Fs := ⟨{x : List (List Int) // BkOk x}, 1, fun x => [.im (isD (.list (wD x.1)))], fun _ => rfl, fun x => .ok (isDi (keysW x.1))⟩
abbrev st__by_first_letter : Stmt := top 28
theorem sc__by_first_letter : FnScope ["words", "number", "word"] ["words"] (defScope st__by_first_letter) := ⟨rfl, rfl, rfl, by decide +kernel, rfl, by decide +kernel, by decide +kernel⟩
theorem ok__by_first_letter {f : Addr} {fd : FuncData} (T : Txt K mg cAE cBB cBT cNA cBk cPr cRd aE0 aEV aSI)  (F : Fun K "_by_first_letter" "_by_first_letter" st__by_first_letter f fd) : FnOk P w K mg base (L2.CX P w) 1 f fd ["words"] (spF (S_by_first)) := by
  refine fn_ok F sc__by_first_letter rfl fun cdv A outer s H E hr => ?_
  have tk : Takes (cxD P w K mg base ["words", "number", "word"] "_by_first_letter" st__by_first_letter f cdv A outer s H E) (fun cls d _ H => E cls d H) := takes_of rfl rfl rfl rfl
  have hx := pxM tk
  have nd := sc__by_first_letter.nd
  refine ⟨_, (pss_one (ps_ret (pe_dc (own := [("number", 1), ("word", 2)]) (g := gTup K 2 (gCons (gName 1) (gCons (gName 2) gNil))) (tt := tYes) rfl nd (pi_enum rfl T.no_enumerate (pa_cons (pv 0) pa_nil)) (blkOk_by (N := ["words", "number", "word"]) (sc := defScope st__by_first_letter) (by decide +kernel)) (fun _ _ _ _ _ => (pg_tupK (K := K) rfl (pgs_cons (pg_name (i := 1) nd rfl (Or.inl rfl)) (pgs_cons (pg_name (i := 2) nd rfl (Or.inl rfl)) pgs_nil)))) (fun _ _ _ _ _ => pts_nil) (fun _ _ _ _ _ => (pe_ix (r := rIx K) ix_seq (pv 2) pe_int (fun _ _ => rfl))) (fun _ _ _ _ _ => (pv 1))))), ?_⟩
  intro x
  obtain ⟨W, hW⟩ := x
  have lw := wD_len W
  have hl : W.length ≤ 60 := hW.1
  refine .ok (ss_ret ?_)
  refine sv_dcE (K := K) (ds := wD W) (rl_sv (sv_var rfl)) hd0 (Nat.le_of_ble_eq_true rfl) (Nat.le_of_ble_eq_true rfl) (by decide) (by omega) fun i d hd => ?_
  obtain ⟨w, hw, rfl⟩ := List.mem_map.mp (List.mem_of_getElem? hd)
  have h1 := (hW.2 w hw).1
  cases w with
  | nil => simp at h1
  | cons a w => exact sv_ixT (i := ((0 : Nat) : Int)) (sv_var rfl) sv_int (atI_nat rfl)
def S_Reader (cBk cPr cNA : Addr) : Ini := ⟨{x : Int × List (List Int) × List (List Int) // BkOk x.2.1 ∧ BkOk x.2.2}, 1, fun x => [.im (isI cPr (pairF cBk x.1.1 (wD x.1.2.1) x.1.1 (wD x.1.2.2)))], fun _ => rfl,
  fun x => if (apartB x.1.2.1 && apartB x.1.2.2) = true then .inl (rdF x.1.2.1 x.1.2.2) else .inr cNA⟩
theorem putI_keys (kvs : List (Int × Int)) (k v : Int) : (putI kvs k v).map (·.1) = if ((kvs.map (·.1)).any fun y => y == k) = true then kvs.map (·.1) else kvs.map (·.1) ++ [k] := by
  have e : ((kvs.map (·.1)).any fun y => y == k) = kvs.any fun p => decide (p.1 = k) := by
    rw [List.any_map]
    congr 1
  unfold putI
  rw [e]
  split
  · rw [List.map_map]
    refine List.map_congr_left fun p _ => ?_
    show (if p.1 = k then (p.1, v) else p).1 = p.1
    split <;> rfl
  · rw [List.map_append]; rfl
theorem dE_keys (W : List (List Int)) : ∀ n, n ≤ W.length → (dE hd0 (wD W) n).map (·.1) = dl ((W.map fun w => w.getD 0 0).take n)
  | 0, _ => rfl
  | n + 1, h => by
    have ih := dE_keys W n (by omega)
    show (putI (dE hd0 (wD W) n) (hd0 ((wD W).getD n .none)) n).map (·.1) = _
    have hn : n < W.length := by omega
    have e : (W.map fun w => w.getD 0 0)[n]? = some (hdW W n) := by
      rw [List.getElem?_map, List.getElem?_eq_getElem hn]
      unfold hdW
      rw [List.getD_eq_getElem?_getD (l := W), List.getElem?_eq_getElem hn]; rfl
    rw [putI_keys, ih, hd0_wD hn, List.take_succ, e, show (W.map fun w => w.getD 0 0).take n ++ (some (hdW W n)).toList = (W.map fun w => w.getD 0 0).take n ++ [hdW W n] from rfl, dl_snoc]
theorem keys_lt (W : List (List Int)) : decide (((keysW W).length : Int) < ((wD W).length : Int)) = !apartB W := by
  have e : (keysW W).length = (dl (W.map fun w => w.getD 0 0)).length := by
    have h := congrArg List.length (dE_keys W W.length (Nat.le_refl _))
    rw [List.length_map, List.take_of_length_le (by rw [List.length_map]; exact Nat.le_refl _)] at h
    unfold keysW
    rw [wD_len]
    exact h
  have l := dl_le (W.map fun w : List Int => w.getD 0 0)
  rw [List.length_map] at l
  unfold apartB
  rw [e, wD_len]
  by_cases c : (dl (W.map fun w => w.getD 0 0)).length = W.length
  · rw [decide_eq_false (by omega), decide_eq_true (by omega)]; rfl
  · rw [decide_eq_true (by omega), decide_eq_false (by omega)]; rfl
abbrev st_Reader_init : Stmt := inClass (top 27) 0
theorem sc_Reader_init : FnScope ["self", "pair"] ["self", "pair"] (defScope st_Reader_init) := ⟨rfl, rfl, rfl, by decide +kernel, rfl, by decide +kernel, by decide +kernel⟩
theorem ok_Reader_init {f : Addr} {fd : FuncData} (T : Txt K mg cAE cBB cBT cNA cBk cPr cRd aE0 aEV aSI) (M_Book_words : MtC P w K mg base 1 cBk "words" (spF (S_words cBk))) (F__by_first_letter : FnC P w K mg base 1 "_by_first_letter" (spF (S_by_first))) (F : Fun K "__init__" "Reader.__init__" st_Reader_init f fd) : FnOk P w K mg base (L2.CX P w) 2 f fd ["self", "pair"] (spN cRd (S_Reader cBk cPr cNA)) := by
  refine ini_ok F sc_Reader_init rfl fun cdv A outer s H E hr => ?_
  have tk : Takes (cxD P w K mg base ["self", "pair"] "Reader.__init__" st_Reader_init f cdv A outer s H E) (fun cls d _ H => E cls d H) := takes_of rfl rfl rfl rfl
  have hx := pxM tk
  have nd := sc_Reader_init.nd
  refine ⟨_, (pss_cons (ps_fld (pv 0) (pe_tup (pa_cons (pe_mt0 (pe_fld (pv 1) rfl) M_Book_words hr hx) (pa_cons (pe_mt0 (pe_fld (pv 1) rfl) M_Book_words hr hx) pa_nil))) rfl)
 (pss_cons (ps_fld (pv 0) (pe_tup (pa_cons (pe_fn F__by_first_letter hr hx (pa_cons (pe_ix ix_seq (pe_fld (pv 0) rfl) pe_int (fun _ _ => rfl)) pa_nil)) (pa_cons (pe_fn F__by_first_letter hr hx (pa_cons (pe_ix ix_seq (pe_fld (pv 0) rfl) pe_int (fun _ _ => rfl)) pa_nil)) pa_nil))) rfl)
 (pss_one (ps_if (PW.pt (pw_or (pt_cmpR op_lt (pe_callB call_lenD (by rfl) T.no_len (by decide +kernel) (pa_cons (pe_ix ix_seq (pe_fld (pv 0) rfl) pe_int (fun _ _ => rfl)) pa_nil)) (pe_fld (pe_fld (pv 1) rfl) rfl) (nomark _)) (pw_or1 (pt_cmpR op_lt (pe_callB call_lenD (by rfl) T.no_len (by decide +kernel) (pa_cons (pe_ix ix_seq (pe_fld (pv 0) rfl) pe_int (fun _ _ => rfl)) pa_nil)) (pe_fld (pe_fld (pv 1) rfl) rfl) (nomark _))))) (pss_one (ps_rs rfl tk (pmk_err T.e_NotApart))) pss_nil)))), ?_⟩
  intro x
  obtain ⟨⟨m, A, B⟩, hA, hB⟩ := x
  have hA : BkOk A := hA
  have hB : BkOk B := hB
  have two : ∀ {G : Gm} {a b : TE} {d e : PyData}, Sv a G (isD d) → Sv b G (isD e) → Sv (tTup (tCons a (tCons b tNil))) G (isD (.tuple [d, e])) := fun {G a b d e} h h' => sv_tup (ds := [d, e]) (sa_ims h (sa_ims h' sa_nil)) (by show 2 ≤ sizeLine; decide)
  have fw : ∀ {G : Gm} {p' dx' : Addr}, G[0]? = some (.ow (owI cRd p' dx' (flds [("_words", isD (.tuple [.list (wD A), .list (wD B)]))]))) → Sv (tFld K (tVar 0) "_words") G (isD (.tuple [.list (wD A), .list (wD B)])) := fun h => sv_fldOw h rfl T.cl_cRd T.n_cRd__words
  have f1 : ∀ {G : Gm}, G[1]? = some (.im (isI cPr (pairF cBk m (wD A) m (wD B)))) → Sv (tFld K (tFld K (tVar 1) "first") "size") G (isD (.int (wD A).length)) := fun h => sv_fld (sv_fld (sv_var h) rfl T.cl_cPr T.n_cPr_first) rfl T.cl_cBk T.n_cBk_size
  have f2 : ∀ {G : Gm}, G[1]? = some (.im (isI cPr (pairF cBk m (wD A) m (wD B)))) → Sv (tFld K (tFld K (tVar 1) "second") "size") G (isD (.int (wD B).length)) := fun h => sv_fld (sv_fld (sv_var h) rfl T.cl_cPr T.n_cPr_second) rfl T.cl_cBk T.n_cBk_size
  have t1 : ∀ {p dx : Addr}, St' (tOr (tTest (tOp (rI0 fun i j => .bl (decide (i < j))) (tCB rLenDk (tCons (tOp (rIx K) (tFld K (tVar 0) "_numbers") (tC (.int 0))) tNil)) (tFld K (tFld K (tVar 1) "first") "size"))) (tTest (tOp (rI0 fun i j => .bl (decide (i < j))) (tCB rLenDk (tCons (tOp (rIx K) (tFld K (tVar 0) "_numbers") (tC (.int 1))) tNil)) (tFld K (tFld K (tVar 1) "second") "size")))) [.ow (owI cRd p dx (rdF A B)), .im (isI cPr (pairF cBk m (wD A) m (wD B)))] (!(apartB A && apartB B)) := fun {p dx} =>
    st_is (st_or (b := !apartB A) (c := !apartB B) (st_is (st_test (sv_cmp (g := fun i j => decide (i < j)) (sv_lenDi (sv_ixTT (m := 0) (sv_fldOw rfl rfl T.cl_cRd T.n_cRd__numbers) sv_int rfl rfl)) (f1 rfl))) (keys_lt A)) fun _ => st_is (st_test (sv_cmp (g := fun i j => decide (i < j)) (sv_lenDi (sv_ixTT (m := 1) (sv_fldOw rfl rfl T.cl_cRd T.n_cRd__numbers) sv_int rfl rfl)) (f2 rfl))) (keys_lt B)) (by rw [Bool.not_and])
  by_cases c : (apartB A && apartB B) = true
  · have hr : (S_Reader cBk cPr cNA).res ⟨(m, A, B), hA, hB⟩ = .inl (rdF A B) := if_pos c
    rw [hr]
    intro p dx
    apply ini_good
    · show Ss _ _ (Sl.ow (owI cRd p dx (flds [])) :: [.im (isI cPr (pairF cBk m (wD A) m (wD B)))]) _
      refine ss_seq (ss_fld (fs := []) rfl (two (sv_svl (svl_mt (S := S_words cBk) (sv_fld (sv_var rfl) rfl T.cl_cPr T.n_cPr_first) (bookF_no rfl) sa_nil (.int m, wD A) rfl rfl)) (sv_svl (svl_mt (S := S_words cBk) (sv_fld (sv_var rfl) rfl T.cl_cPr T.n_cPr_second) (bookF_no rfl) sa_nil (.int m, wD B) rfl rfl))) rfl (Nat.le_of_ble_eq_true rfl) T.cl_cRd T.n_cRd__words) ?_
      refine ss_seq (ss_fld (fs := [("_words", isD (.tuple [.list (wD A), .list (wD B)]))]) rfl (sv_tt (Ps := [isDi (keysW A), isDi (keysW B)]) (sa_im (sv_call (S := S_by_first) (sa_im (sv_ixT (i := ((0 : Nat) : Int)) (fw rfl) sv_int (atI_nat rfl)) sa_nil) ⟨A, hA⟩ rfl rfl) (sa_im (sv_call (S := S_by_first) (sa_im (sv_ixT (i := ((1 : Nat) : Int)) (fw rfl) sv_int (atI_nat rfl)) sa_nil) ⟨B, hB⟩ rfl rfl) sa_nil)) (by show 2 ≤ sizeLine; decide)) rfl (Nat.le_of_ble_eq_true rfl) T.cl_cRd T.n_cRd__numbers) ?_
      exact ss_if0 (st_is t1 (by rw [c]; rfl)) ss_next
    · rfl
  · have hr : (S_Reader cBk cPr cNA).res ⟨(m, A, B), hA, hB⟩ = .inr cNA := if_neg c
    rw [hr]
    intro p dx
    apply ini_bad (F' := rdF A B)
    · show Ss _ _ (Sl.ow (owI cRd p dx (flds [])) :: [.im (isI cPr (pairF cBk m (wD A) m (wD B)))]) _
      refine ss_seq (ss_fld (fs := []) rfl (two (sv_svl (svl_mt (S := S_words cBk) (sv_fld (sv_var rfl) rfl T.cl_cPr T.n_cPr_first) (bookF_no rfl) sa_nil (.int m, wD A) rfl rfl)) (sv_svl (svl_mt (S := S_words cBk) (sv_fld (sv_var rfl) rfl T.cl_cPr T.n_cPr_second) (bookF_no rfl) sa_nil (.int m, wD B) rfl rfl))) rfl (Nat.le_of_ble_eq_true rfl) T.cl_cRd T.n_cRd__words) ?_
      refine ss_seq (ss_fld (fs := [("_words", isD (.tuple [.list (wD A), .list (wD B)]))]) rfl (sv_tt (Ps := [isDi (keysW A), isDi (keysW B)]) (sa_im (sv_call (S := S_by_first) (sa_im (sv_ixT (i := ((0 : Nat) : Int)) (fw rfl) sv_int (atI_nat rfl)) sa_nil) ⟨A, hA⟩ rfl rfl) (sa_im (sv_call (S := S_by_first) (sa_im (sv_ixT (i := ((1 : Nat) : Int)) (fw rfl) sv_int (atI_nat rfl)) sa_nil) ⟨B, hB⟩ rfl rfl) sa_nil)) (by show 2 ≤ sizeLine; decide)) rfl (Nat.le_of_ble_eq_true rfl) T.cl_cRd T.n_cRd__numbers) ?_
      exact ss_if1 (st_is t1 (by cases h : (apartB A && apartB B) with | true => exact absurd h c | false => rfl)) ss_rs
    · rfl
def S_follow (cRd : Addr) : Fs := ⟨{x : (List (List Int) × List (List Int)) × Int × List Int × Nat // BkOk x.1.1 ∧ BkOk x.1.2 ∧ (x.2.1 = 0 ∨ x.2.1 = 1) ∧ x.2.2.2 < x.2.2.1.length ∧ x.2.2.1.length < 1000000}, 2,
  fun x => [.im (isI cRd (rdF x.1.1.1 x.1.1.2)), .im (isD (.tuple [.int x.1.2.1, .tuple (x.1.2.2.1.map .int), .int ((x.1.2.2.2 : Nat) : Int)]))], fun _ => rfl, fun x => .ok (isD (followD x.1.1.1 x.1.1.2 x.1.2.1 x.1.2.2.1 x.1.2.2.2))⟩
abbrev st_Reader_follow : Stmt := inClass (top 27) 3
theorem sc_Reader_follow : FnScope ["self", "state", "side", "word", "start", "number", "coming", "left"] ["self", "state"] (defScope st_Reader_follow) := ⟨rfl, rfl, rfl, by decide +kernel, rfl, by decide +kernel, by decide +kernel⟩
theorem ok_Reader_follow {f : Addr} {fd : FuncData} (T : Txt K mg cAE cBB cBT cNA cBk cPr cRd aE0 aEV aSI)  (F : Fun K "follow" "Reader.follow" st_Reader_follow f fd) : FnOk P w K mg base (L2.CX P w) 1 f fd ["self", "state"] (spF (S_follow cRd)) := by
  refine fn_ok F sc_Reader_follow rfl fun cdv A outer s H E hr => ?_
  have tk : Takes (cxD P w K mg base ["self", "state", "side", "word", "start", "number", "coming", "left"] "Reader.follow" st_Reader_follow f cdv A outer s H E) (fun cls d _ H => E cls d H) := takes_of rfl rfl rfl rfl
  have hx := pxM tk
  have nd := sc_Reader_follow.nd
  refine ⟨_, (pss_cons (ps_asg (pv 1) (pg_tup rfl (pgs_cons (pg_name (i := 2) nd rfl (Or.inl rfl)) (pgs_cons (pg_name (i := 3) nd rfl (Or.inl rfl)) (pgs_cons (pg_name (i := 4) nd rfl (Or.inl rfl)) pgs_nil)))))
 (pss_cons (ps_set (i := 5) nd rfl (Or.inl rfl) (pe_dget1 (Nat.lt_of_le_of_lt (Nat.add_le_add_left (show 1 ≤ 64 by decide) _) hr.units) (pe_ix ix_seq (pe_fld (pv 0) rfl) (pe_op op_sub pe_int (pv 2)) (fun _ _ => rfl)) (pe_ix ix_seq (pv 3) (pv 4) (fun _ _ => rfl)) ⟨rfl, rfl, rfl, rfl⟩))
 (pss_cons (ps_if (pt_cmpR op_isN (pv 5) pe_non (nomark _)) (pss_one (ps_ret pe_non)) pss_nil)
 (pss_cons (ps_set (i := 6) nd rfl (Or.inl rfl) (pe_ix ix_seq (pe_ix ix_seq (pe_fld (pv 0) rfl) (pe_op op_sub pe_int (pv 2)) (fun _ _ => rfl)) (pv 5) (fun _ _ => rfl)))
 (pss_cons (ps_set (i := 7) nd rfl (Or.inl rfl) (pe_op op_sub (pe_callB call_len (by rfl) T.no_len (by decide +kernel) (pa_cons (pv 3) pa_nil)) (pv 4)))
 (pss_cons (ps_if (pt_cmpR (op_neD hr.units) (pe_slice sl_uSl (pv 3) (po_some (pv 4)) (po_some (pe_op op_uAdd (pv 4) (pe_callB call_len (by rfl) T.no_len (by decide +kernel) (pa_cons (pv 6) pa_nil))))) (pe_slice sl_uSl (pv 6) po_none (po_some (pv 7))) (nomark _)) (pss_one (ps_ret pe_non)) pss_nil)
 (pss_cons (ps_if (pt_cmpR op_le (pe_callB call_len (by rfl) T.no_len (by decide +kernel) (pa_cons (pv 6) pa_nil)) (pv 7) (nomark _)) (pss_one (ps_ret (pe_tup (pa_cons (pv 5) (pa_cons (pe_tup (pa_cons (pv 2) (pa_cons (pv 3) (pa_cons (pe_op op_uAdd (pv 4) (pe_callB call_len (by rfl) T.no_len (by decide +kernel) (pa_cons (pv 6) pa_nil))) pa_nil)))) pa_nil))))) pss_nil)
 (pss_one (ps_ret (pe_tup (pa_cons (pv 5) (pa_cons (pe_tup (pa_cons (pe_op op_sub pe_int (pv 2)) (pa_cons (pv 6) (pa_cons (pv 7) pa_nil)))) pa_nil)))))))))))), ?_⟩
  intro x
  obtain ⟨⟨⟨A, B⟩, s, w, st⟩, hA, hB, hs, hst, hw⟩ := x
  have hA : BkOk A := hA
  have hB : BkOk B := hB
  have hs : s = 0 ∨ s = 1 := hs
  have hst : st < w.length := hst
  have hw : w.length < 1000000 := hw
  have hz : (sizeLine : Nat) = 16777216 := sizeLine_eq
  have hO : BkOk (oth A B s) := by unfold oth; split; exact hB; exact hA
  show Mini.Ans _ _ [.im (isI cRd (rdF A B)), .im (isD (.tuple [.int s, .tuple (w.map .int), .int (st : Int)])), .no, .no, .no, .no, .no, .no] (.ok (isD (followD A B s w st)))
  refine .ok (ss_seq (ss_unpT3 (sv_var rfl)) ?_)
  have numO : ∀ {G : Gm}, G[0]? = some (.im (isI cRd (rdF A B))) → G[2]? = some (.im (isD (.int s))) → Sv (tOp (rIx K) (tFld K (tVar 0) "_numbers") (tOp (rI0 fun i j => .int (i - j)) (tC (.int 1)) (tVar 2))) G (isDi (keysW (oth A B s))) := fun h0 h2 => by
    rcases hs with rfl | rfl
    · exact sv_ixTT (m := 1) (sv_fld (sv_var h0) rfl T.cl_cRd T.n_cRd__numbers) (sv_sub sv_int (sv_var h2)) rfl rfl
    · exact sv_ixTT (m := 0) (sv_fld (sv_var h0) rfl T.cl_cRd T.n_cRd__numbers) (sv_sub sv_int (sv_var h2)) rfl rfl
  have worO : ∀ {G : Gm}, G[0]? = some (.im (isI cRd (rdF A B))) → G[2]? = some (.im (isD (.int s))) → Sv (tOp (rIx K) (tFld K (tVar 0) "_words") (tOp (rI0 fun i j => .int (i - j)) (tC (.int 1)) (tVar 2))) G (isD (.list (wD (oth A B s)))) := fun h0 h2 => by
    rcases hs with rfl | rfl
    · exact sv_ixT (i := ((1 : Nat) : Int)) (sv_fld (sv_var h0) rfl T.cl_cRd T.n_cRd__words) (sv_is (sv_sub sv_int (sv_var h2)) rfl) (atI_nat rfl)
    · exact sv_ixT (i := ((0 : Nat) : Int)) (sv_fld (sv_var h0) rfl T.cl_cRd T.n_cRd__words) (sv_is (sv_sub sv_int (sv_var h2)) rfl) (atI_nat rfl)
  have wst : atI (w.map PyData.int) (st : Int) = some (.int (w.getD st 0)) := atI_nat (by rw [List.getElem?_map, List.getD_eq_getElem?_getD, List.getElem?_eq_getElem hst]; rfl)
  refine ss_seq (ss_set (P := isD (getI (keysW (oth A B s)) (w.getD st 0))) (sv_dget (numO rfl rfl) (sv_ixT (sv_var rfl) (sv_var rfl) wst))) ?_
  rw [getI_headK]
  unfold followD
  cases hk : headK (oth A B s) (w.getD st 0) with
  | none => exact ss_seqRt (ss_if1 (st_is (st_test (sv_isN (d := .none) (sv_var rfl))) rfl) (ss_ret sv_non))
  | some k =>
    have hk2 := headK_lt hk
    refine ss_seq (ss_if0 (st_is (st_test (sv_isN (d := .int k) (sv_var rfl))) rfl) ss_next) ?_
    have hc := hO.2 _ (getD_mem hk2.1 hk2.2)
    have hat := at_wD hk2.1 hk2.2
    dsimp only
    refine ss_seq (ss_set (sv_ixL (rl_sv (worO rfl rfl)) (sv_var rfl) hat)) ?_
    generalize (oth A B s).getD k.toNat [] = c at hc ⊢
    refine ss_seq (ss_set (P := isD (.int ((w.length - st : Nat) : Int))) (sv_is (sv_sub (sv_lenT (ds := w.map .int) (sv_var rfl)) (sv_var rfl)) (by rw [List.length_map]; congr 1; omega))) ?_
    have e1 : cutD (w.map PyData.int) (some (st : Int)) (some ((st : Int) + ((c.map PyData.int).length : Nat))) = ((w.drop st).take c.length).map .int := by
      rw [cut_mid _ (by omega) (by omega) (by rw [List.length_map]; omega), Int.toNat_natCast, List.length_map, List.map_take, List.map_drop]
      congr 1
      omega
    have e2 : cutD (c.map PyData.int) none (some ((w.length - st : Nat) : Int)) = (c.take (w.length - st)).map .int := by
      rw [cut_take _ (by omega), Int.toNat_natCast, List.map_take]
    by_cases ce : (w.drop st).take c.length = c.take (w.length - st)
    · rw [if_pos ce]
      refine ss_seq (ss_if0 (neT (a := (w.drop st).take c.length) (a' := c.take (w.length - st)) (sv_is (sv_sliceT (sv_var rfl) (so_some (sv_var rfl)) (so_some (sv_add (sv_var rfl) (sv_lenT (ds := c.map .int) (sv_var rfl))))) (by rw [e1])) (sv_is (sv_sliceT (sv_var rfl) so_none (so_some (sv_var rfl))) (by rw [e2])) ce) ss_next) ?_
      have tup2 : ∀ {G : Gm} {a b c d : TE} {d0 d1 d2 d3 : PyData}, Sv a G (isD d0) → Sv b G (isD d1) → Sv c G (isD d2) → Sv d G (isD d3) → Sv (tTup (tCons a (tCons (tTup (tCons b (tCons c (tCons d tNil)))) tNil))) G (isD (.tuple [d0, .tuple [d1, d2, d3]])) := fun {G a b c d d0 d1 d2 d3} h0 h1 h2 h3 =>
        sv_tup (ds := [d0, .tuple [d1, d2, d3]]) (sa_ims h0 (sa_ims (sv_tup (ds := [d1, d2, d3]) (sa_ims h1 (sa_ims h2 (sa_ims h3 sa_nil))) (by show 3 ≤ sizeLine; decide)) sa_nil)) (by show 2 ≤ sizeLine; decide)
      by_cases cl : c.length ≤ w.length - st
      · rw [if_pos cl]
        exact ss_seqRt (ss_if1 (st_is (st_test (sv_cmp (g := fun i j => decide (i ≤ j)) (sv_lenT (ds := c.map .int) (sv_var rfl)) (sv_var rfl))) (by rw [List.length_map]; exact decide_eq_true (by omega))) (ss_ret (tup2 (sv_var rfl) (sv_var rfl) (sv_var rfl) (sv_is (sv_add (sv_var rfl) (sv_lenT (ds := c.map .int) (sv_var rfl))) (by rw [List.length_map, Int.natCast_add])))))
      · rw [if_neg cl]
        refine ss_seq (ss_if0 (st_is (st_test (sv_cmp (g := fun i j => decide (i ≤ j)) (sv_lenT (ds := c.map .int) (sv_var rfl)) (sv_var rfl))) (by rw [List.length_map]; exact decide_eq_false (by omega))) ss_next) (ss_ret (tup2 (sv_var rfl) (sv_sub sv_int (sv_var rfl)) (sv_var rfl) (sv_var rfl)))
    · rw [if_neg ce]
      exact ss_seqRt (ss_if1 (st_is (st_test (sv_ne (d := .tuple (((w.drop st).take c.length).map .int)) (e := .tuple ((c.take (w.length - st)).map .int)) (sv_is (sv_sliceT (sv_var rfl) (so_some (sv_var rfl)) (so_some (sv_add (sv_var rfl) (sv_lenT (ds := c.map .int) (sv_var rfl))))) (by rw [e1])) (sv_is (sv_sliceT (sv_var rfl) so_none (so_some (sv_var rfl))) (by rw [e2])) (shaped_tints _) (shaped_tints _))) (by rw [eqv_tints, decide_eq_false ce]; rfl)) (ss_ret sv_non))
end
end K10

namespace K10
open PySem L2 Evl Mini PyProof.Rows
def sidesL : List Str := ["first", "second"]
def sideS (s : Int) : Str := if s = 0 then "first" else "second"
def sideB (a : PyData) : Bool := match a with
  | .str s => decide (s ∈ sidesL)
  | _ => false
def isRestB (d : PyData) (m : Int) : Bool := match d with
  | .tuple [a, b] => sideB a && isWordB b m
  | _ => false
def restFit (d : PyData) : Prop := match d with
  | .tuple [_, b] => Fit b
  | _ => True
def restT (s : Int) (w : List Int) : PyData := .tuple [.str (sideS s), .tuple (w.map .int)]
def restD (s : Int) (w : List Int) (st : Nat) : PyData := if st = w.length then .tuple [.str "even", .tuple []] else .tuple [.str (sideS s), .tuple ((w.drop st).map .int)]
def afterD (A B : List (List Int)) (s : Int) (w : List Int) : PyData := match headK (oth A B s) (w.getD 0 0) with
  | none => .none
  | some k => if w.take ((oth A B s).getD k.toNat []).length = ((oth A B s).getD k.toNat []).take w.length then
      (if ((oth A B s).getD k.toNat []).length ≤ w.length then .tuple [.int k, restD s w ((oth A B s).getD k.toNat []).length] else .tuple [.int k, restD (1 - s) ((oth A B s).getD k.toNat []) w.length]) else .none
theorem word_of {b : PyData} {m : Int} (h : isWordB b m = true) : ∃ w : List Int, b = .tuple (w.map .int) ∧ 1 ≤ w.length ∧ w.length ≤ 5000 ∧ ∀ v ∈ w, 0 ≤ v ∧ v < m := by
  cases b with
  | tuple ds =>
    have h0 : (ds.all (fun e => belowB e m) && (decide (1 ≤ (ds.length : Int)) && decide ((ds.length : Int) ≤ 5000))) = true := h
    rw [Bool.and_eq_true, Bool.and_eq_true, List.all_eq_true] at h0
    obtain ⟨h1, h2, h3⟩ := h0
    have h2 := of_decide_eq_true h2
    have h3 := of_decide_eq_true h3
    have ib : ∀ e ∈ ds, ∃ i, e = .int i ∧ 0 ≤ i ∧ i < m := fun e he => by
      have := h1 e he
      cases e <;> simp [belowB] at this
      exact ⟨_, rfl, this⟩
    let f : PyData → Int := fun e => match e with
      | .int i => i
      | _ => 0
    refine ⟨ds.map f, ?_, by rw [List.length_map]; omega, by rw [List.length_map]; omega, fun v hv => ?_⟩
    · rw [List.map_map]
      congr 1
      conv => lhs; rw [← List.map_id ds]
      refine List.map_congr_left fun e he => ?_
      obtain ⟨i, rfl, _⟩ := ib e he
      rfl
    · obtain ⟨e, he, rfl⟩ := List.mem_map.mp hv
      obtain ⟨i, rfl, h⟩ := ib e he
      exact h
  | _ => simp [isWordB, tupB] at h
section
variable {P : Program} {w : World} {K : PySem.W.Frag} {mg : Str → Option Value} {base : Heap} {cAE cBB cBT cNA cBk cPr cRd aE0 aEV aSI : Addr}
def S_is_rest : Fs := ⟨{x : PyData × Int // restFit x.1}, 2, fun x => [.im (isD x.1.1), .im (isD (.int x.1.2))], fun _ => rfl, fun x => .ok (isD (.bool (isRestB x.1.1 x.1.2)))⟩
abbrev st_is_rest_ahead : Stmt := top 26
theorem sc_is_rest_ahead : FnScope ["value", "letters", "side", "word"] ["value", "letters"] (defScope st_is_rest_ahead) := ⟨rfl, rfl, rfl, by decide +kernel, rfl, by decide +kernel, by decide +kernel⟩
theorem ok_is_rest_ahead {f : Addr} {fd : FuncData} (T : Txt K mg cAE cBB cBT cNA cBk cPr cRd aE0 aEV aSI) (F_are_below : FnC P w K mg base 1 "are_below" (spF (S_are_below))) (F : Fun K "is_rest_ahead" "is_rest_ahead" st_is_rest_ahead f fd) : FnOk P w K mg base (L2.CX P w) 2 f fd ["value", "letters"] (spF (S_is_rest)) := by
  refine fn_ok F sc_is_rest_ahead rfl fun cdv A outer s H E hr => ?_
  have tk : Takes (cxD P w K mg base ["value", "letters", "side", "word"] "is_rest_ahead" st_is_rest_ahead f cdv A outer s H E) (fun cls d _ H => E cls d H) := takes_of rfl rfl rfl rfl
  have hx := pxM tk
  have nd := sc_is_rest_ahead.nd
  refine ⟨_, (pss_cons (ps_if (PW.pt (pw_or (pt_not (pt_val (pe_callB call_isi (by rfl) T.no_isinstance (by decide +kernel) (pa_cons (pv 0) (pa_cons (pe_bltn (by rfl) T.no_tuple (by decide +kernel) (v := .ty "tuple") rfl) pa_nil))))) (pw_or1 (pt_cmpR (op_neD hr.units) (pe_callB call_len (by rfl) T.no_len (by decide +kernel) (pa_cons (pv 0) pa_nil)) pe_int (nomark _))))) (pss_one (ps_ret pe_bl)) pss_nil)
 (pss_cons (ps_asg (pv 0) (pg_tup rfl (pgs_cons (pg_name (i := 2) nd rfl (Or.inl rfl)) (pgs_cons (pg_name (i := 3) nd rfl (Or.inl rfl)) pgs_nil))))
 (pss_cons (ps_if (PW.pt (pw_or (pt_not (pt_val (pe_callB call_isi (by rfl) T.no_isinstance (by decide +kernel) (pa_cons (pv 2) (pa_cons (pe_bltn (by rfl) T.no_str (by decide +kernel) (v := .ty "str") rfl) pa_nil))))) (pw_or1 (pt_cmpR op_notIn_seq (pv 2) (pe_gc T.c_SIDES) (by rfl))))) (pss_one (ps_ret pe_bl)) pss_nil)
 (pss_one (ps_ret (pe_and (pe_fn F_are_below hr hx (pa_cons (pv 3) (pa_cons (pv 1) pa_nil))) (pe_one (pe_chain op_le op_le pe_int (pe_callB call_len (by rfl) T.no_len (by decide +kernel) (pa_cons (pv 3) pa_nil)) (pe_gc T.c_LONGEST_WORD))))))))), ?_⟩
  intro x
  obtain ⟨⟨d, m⟩, hf⟩ := x
  have hf : restFit d := hf
  show Mini.Ans _ _ [.im (isD d), .im (isD (.int m)), .no, .no] (.ok (isD (.bool (isRestB d m))))
  cases d with
  | tuple ds =>
    have t0 : ∀ {K' : PySem.W.Frag}, St' (tOr (tNot (tB (tCB (rIsi K') (tCons (tVar 0) (tCons (tC (.ty "tuple")) tNil))))) (tTest (tOp (rNeD K') (tCB (fun xs H Q => ∃ x n, xs = [x] ∧ LenV K' x H n ∧ Q (.int n) H) (tCons (tVar 0) tNil)) (tC (.int 2))))) [.im (isD (.tuple ds)), .im (isD (.int m)), .no, .no] (!decide ((ds.length : Int) = 2)) := fun {K'} =>
      st_is (st_or (b := false) (c := !decide ((ds.length : Int) = 2)) (st_is (st_not (st_B (sv_isTup (sv_var rfl)))) rfl) fun _ => st_test (sv_neI (sv_lenT (ds := ds) (sv_var rfl)) sv_int)) rfl
    by_cases c2 : ds.length = 2
    · obtain ⟨a, b, rfl⟩ : ∃ a b, ds = [a, b] := by
        cases ds with
        | nil => simp at c2
        | cons a ds => cases ds with
          | nil => simp at c2
          | cons b ds => cases ds with
            | nil => exact ⟨a, b, rfl⟩
            | cons c ds => simp at c2
      have hf : Fit b := hf
      refine .ok (ss_seq (ss_if0 (st_is t0 rfl) ss_next) (ss_seq (ss_unpT2 (sv_var rfl)) ?_))
      have tS : ∀ {K' : PySem.W.Frag}, St' (tOr (tNot (tB (tCB (rIsi K') (tCons (tVar 2) (tCons (tC (.ty "str")) tNil))))) (tTest (tOp (rIn K true) (tVar 2) (tC (.ref aSI))))) [.im (isD (.tuple [a, b])), .im (isD (.int m)), .im (isD a), .im (isD b)] (!sideB a) := fun {K'} => by
        cases a with
        | str x => exact st_is (st_or (b := false) (c := !decide (x ∈ sidesL)) (st_is (st_not (st_B (sv_isStr (d := .str x) (sv_var rfl)))) rfl) fun _ => st_test (sv_notInK (ys := sidesL) T.kt_aSI (sv_var rfl))) rfl
        | _ => exact st_is (st_or (b := true) (c := true) (st_is (st_not (st_B (sv_isStr (sv_var rfl)))) rfl) fun z => by cases z) rfl
      by_cases cs : sideB a = true
      · refine ss_seq (ss_if0 (st_is tS (by rw [cs]; rfl)) ss_next) (ss_ret (sv_is (sv_and (c := isWordB b m) (sv_call (S := S_are_below) (sa_im (sv_var rfl) (sa_im (sv_var rfl) sa_nil)) ⟨(b, m), hf⟩ rfl rfl) fun h1 => ?_) ?_))
        · cases b with
          | tuple es => exact sv_is (sv_chain (g := fun i j => decide (i ≤ j)) (g' := fun i j => decide (i ≤ j)) sv_int (sv_lenT (ds := es) (sv_var rfl)) fun _ => sv_int) (by
              show PyData.bool (decide (1 ≤ (es.length : Int)) && decide ((es.length : Int) ≤ 5000)) = .bool (tupB (fun e => belowB e m) (.tuple es) && (decide (1 ≤ (es.length : Int)) && decide ((es.length : Int) ≤ 5000)))
              rw [show tupB (fun e => belowB e m) (.tuple es) = true from h1, Bool.true_and])
          | _ => simp [tupB] at h1
        · show PyData.bool (tupB (fun e => belowB e m) b && isWordB b m) = .bool (sideB a && isWordB b m)
          rw [cs, Bool.true_and]
          unfold isWordB
          cases tupB (fun e => belowB e m) b <;> simp
      · have cs' : sideB a = false := by simpa using cs
        exact ss_seqRt (ss_if1 (st_is tS (by rw [cs']; rfl)) (ss_ret (sv_is sv_bl (by show PyData.bool false = .bool (sideB a && isWordB b m); rw [cs']; rfl))))
    · refine .ok (ss_seqRt (ss_if1 (st_is t0 (by rw [decide_eq_false (by omega)]; rfl)) (ss_ret (sv_is sv_bl ?_))))
      have : isRestB (.tuple ds) m = false := by
        cases ds with
        | nil => rfl
        | cons a ds => cases ds with
          | nil => rfl
          | cons b ds => cases ds with
            | nil => simp at c2
            | cons c ds => rfl
      rw [this]
  | _ => exact .ok (ss_seqRt (ss_if1 (st_is (st_or (c := true) (st_not (st_B (sv_isTup (sv_var rfl)))) fun z => by simp [dTup] at z) rfl) (ss_ret sv_bl)))
def stateT (s : Int) (w : List Int) (st : Nat) : PyData := .tuple [.int s, .tuple (w.map .int), .int ((st : Nat) : Int)]
def S_is_even' : Fs := ⟨Int × List Int × Nat, 1, fun x => [.im (isD (stateT x.1 x.2.1 x.2.2))], fun _ => rfl, fun x => .ok (isD (.bool (decide (x.2.2 = x.2.1.length))))⟩
abbrev st_is_even : Stmt := top 32
theorem sc_is_even : FnScope ["state"] ["state"] (defScope st_is_even) := ⟨rfl, rfl, rfl, by decide +kernel, rfl, by decide +kernel, by decide +kernel⟩
theorem ok_is_even {f : Addr} {fd : FuncData} (T : Txt K mg cAE cBB cBT cNA cBk cPr cRd aE0 aEV aSI)  (F : Fun K "is_even" "is_even" st_is_even f fd) : FnOk P w K mg base (L2.CX P w) 1 f fd ["state"] (spF (S_is_even')) := by
  refine fn_ok F sc_is_even rfl fun cdv A outer s H E hr => ?_
  have tk : Takes (cxD P w K mg base ["state"] "is_even" st_is_even f cdv A outer s H E) (fun cls d _ H => E cls d H) := takes_of rfl rfl rfl rfl
  have hx := pxM tk
  have nd := sc_is_even.nd
  refine ⟨_, (pss_one (ps_ret (pe_cmpR (op_eqD hr.units) (pe_ix ix_seq (pv 0) pe_int (fun _ _ => rfl)) (pe_callB call_len (by rfl) T.no_len (by decide +kernel) (pa_cons (pe_ix ix_seq (pv 0) pe_int (fun _ _ => rfl)) pa_nil)) (nomark _)))), ?_⟩
  intro x
  obtain ⟨s, w, st⟩ := x
  refine .ok (ss_ret (sv_is (sv_eqI (i := (st : Int)) (j := ((w.map PyData.int).length : Nat)) (sv_ixT (i := ((2 : Nat) : Int)) (sv_var rfl) sv_int (atI_nat rfl)) (sv_lenT (ds := w.map .int) (sv_ixT (i := ((1 : Nat) : Int)) (sv_var rfl) sv_int (atI_nat rfl)))) ?_))
  rw [List.length_map]
  show PyData.bool (decide ((st : Int) = (w.length : Int))) = .bool (decide (st = w.length))
  congr 1
  exact decide_eq_decide.mpr (by omega)
end
end K10

namespace K10
open PySem L2 Evl Mini PyProof.Rows
abbrev AR := PyData ⊕ (Int × List Int)
def AR.d : AR → PyData
  | .inl d => d
  | .inr (s, w) => restT s w
def AR.ok (A B : List (List Int)) (m : Int) : AR → Prop
  | .inl d => restFit d ∧ ((apartB A && apartB B) = true → isRestB d m = false)
  | .inr (s, w) => (apartB A && apartB B) = true ∧ (s = 0 ∨ s = 1) ∧ 1 ≤ w.length ∧ w.length ≤ 5000 ∧ ∀ v ∈ w, 0 ≤ v ∧ v < m
def AR.res (K : PySem.W.Frag) (cBT cNA : Addr) (A B : List (List Int)) : AR → Rs
  | .inl _ => if (apartB A && apartB B) = true then .bad cBT else .bad cNA
  | .inr (s, w) => .ok (isP K (afterD A B s w))
theorem rest_good {s : Int} {w : List Int} {m : Int} (hs : s = 0 ∨ s = 1) (h1 : 1 ≤ w.length) (h2 : w.length ≤ 5000) (h3 : ∀ v ∈ w, 0 ≤ v ∧ v < m) : isRestB (restT s w) m = true := by
  show (sideB (.str (sideS s)) && isWordB (.tuple (w.map .int)) m) = true
  rw [(word_iff w m).mpr ⟨h1, h2, h3⟩, Bool.and_true]
  rcases hs with rfl | rfl <;> decide +kernel
section
variable {P : Program} {w : World} {K : PySem.W.Frag} {mg : Str → Option Value} {base : Heap} {cAE cBB cBT cNA cBk cPr cRd aE0 aEV aSI : Addr}
def S_after (K : PySem.W.Frag) (cBk cPr cBT cNA : Addr) : Fs := ⟨{x : (Int × List (List Int) × List (List Int)) × AR // BkOk x.1.2.1 ∧ BkOk x.1.2.2 ∧ x.2.ok x.1.2.1 x.1.2.2 x.1.1}, 2,
  fun x => [.im (isI cPr (pairF cBk x.1.1.1 (wD x.1.1.2.1) x.1.1.1 (wD x.1.1.2.2))), .im (isD x.1.2.d)], fun _ => rfl, fun x => x.1.2.res K cBT cNA x.1.1.2.1 x.1.1.2.2⟩
abbrev st_after : Stmt := top 25
theorem sc_after : FnScope ["pair", "rest", "reader", "side", "word", "told", "number", "state"] ["pair", "rest"] (defScope st_after) := ⟨rfl, rfl, rfl, by decide +kernel, rfl, by decide +kernel, by decide +kernel⟩
theorem ok_after {f : Addr} {fd : FuncData} (T : Txt K mg cAE cBB cBT cNA cBk cPr cRd aE0 aEV aSI) (K_Reader : MkC P w K mg base 2 cRd "Reader" (spN cRd (S_Reader cBk cPr cNA))) (F_is_rest_ahead : FnC P w K mg base 2 "is_rest_ahead" (spF (S_is_rest))) (M_Reader_follow : MtC P w K mg base 1 cRd "follow" (spF (S_follow cRd))) (F_is_even : FnC P w K mg base 1 "is_even" (spF (S_is_even'))) (F : Fun K "after" "after" st_after f fd) : FnOk P w K mg base (L2.CX P w) 4 f fd ["pair", "rest"] (spF (S_after K cBk cPr cBT cNA)) := by
  refine fn_ok F sc_after rfl fun cdv A outer s H E hr => ?_
  have tk : Takes (cxD P w K mg base ["pair", "rest", "reader", "side", "word", "told", "number", "state"] "after" st_after f cdv A outer s H E) (fun cls d _ H => E cls d H) := takes_of rfl rfl rfl rfl
  have hx := pxM tk
  have nd := sc_after.nd
  refine ⟨_, (pss_cons (ps_set (i := 2) nd rfl (Or.inl rfl) (pe_mk K_Reader hr hx (pa_cons (pv 0) pa_nil)))
 (pss_cons (ps_if (pt_not (pt_val (pe_fn F_is_rest_ahead hr hx (pa_cons (pv 1) (pa_cons (pe_fld (pv 0) rfl) pa_nil))))) (pss_one (ps_rs rfl tk (pmk_err T.e_BadRest))) pss_nil)
 (pss_cons (ps_asg (pv 1) (pg_tup rfl (pgs_cons (pg_name (i := 3) nd rfl (Or.inl rfl)) (pgs_cons (pg_name (i := 4) nd rfl (Or.inl rfl)) pgs_nil))))
 (pss_cons (ps_set (i := 5) nd rfl (Or.inl rfl) (pe_mt (pv 2) M_Reader_follow hr hx (pa_cons (pe_tup (pa_cons (pe_bm PySem.F.plainAttrs_tuple PySem.F.slot_tuple_index PySem.F.type_tuple_index mt_tup_index (pe_gc T.c_SIDES) (pa_cons (pv 3) pa_nil)) (pa_cons (pv 4) (pa_cons pe_int pa_nil)))) pa_nil)))
 (pss_cons (ps_if (pt_cmpR op_isN (pv 5) pe_non (nomark _)) (pss_one (ps_ret pe_non)) pss_nil)
 (pss_cons (ps_asg (pv 5) (pg_tup rfl (pgs_cons (pg_name (i := 6) nd rfl (Or.inl rfl)) (pgs_cons (pg_name (i := 7) nd rfl (Or.inl rfl)) pgs_nil))))
 (pss_cons (ps_if (pt_val (pe_fn F_is_even hr hx (pa_cons (pv 7) pa_nil))) (pss_one (ps_ret (pe_tup (pa_cons (pv 6) (pa_cons (pe_gc T.c_EVEN) pa_nil))))) pss_nil)
 (pss_one (ps_ret (pe_tup (pa_cons (pv 6) (pa_cons (pe_tup (pa_cons (pe_ix ix_seq (pe_gc T.c_SIDES) (pe_ix ix_seq (pv 7) pe_int (fun _ _ => rfl)) (fun _ _ => rfl)) (pa_cons (pe_slice sl_uSl (pe_ix ix_seq (pv 7) pe_int (fun _ _ => rfl)) (po_some (pe_ix ix_seq (pv 7) pe_int (fun _ _ => rfl))) po_none) pa_nil))) pa_nil)))))))))))), ?_⟩
  intro x
  obtain ⟨⟨⟨m, A, B⟩, r⟩, hA, hB, hr'⟩ := x
  have hA : BkOk A := hA
  have hB : BkOk B := hB
  show Mini.Ans _ _ [.im (isI cPr (pairF cBk m (wD A) m (wD B))), .im (isD r.d), .no, .no, .no, .no, .no, .no] (r.res K cBT cNA A B)
  by_cases ap : (apartB A && apartB B) = true
  · have mk : ∀ {G : Gm}, G[0]? = some (.im (isI cPr (pairF cBk m (wD A) m (wD B)))) → Sv (tMk cRd (spN cRd (S_Reader cBk cPr cNA)) (fun _ => E) (tCons (tVar 0) tNil)) G (isI cRd (rdF A B)) := fun h =>
      sv_mk (S := S_Reader cBk cPr cNA) (sa_im (sv_var h) sa_nil) ⟨(m, A, B), hA, hB⟩ rfl (if_pos ap)
    cases r with
    | inl d =>
      obtain ⟨hf, hb⟩ := hr'
      have hb := hb ap
      show Mini.Ans _ _ _ (if (apartB A && apartB B) = true then .bad cBT else .bad cNA)
      rw [if_pos ap]
      refine .bad (ss_seq (ss_set (mk rfl)) (ss_seqBad (ss_if1 (st_is (st_not (st_B (sv_call (S := S_is_rest) (sa_im (sv_var rfl) (sa_im (sv_fld (sv_var rfl) rfl T.cl_cPr T.n_cPr_letters) sa_nil)) ⟨(d, m), hf⟩ rfl rfl))) (by rw [hb]; rfl)) ss_rs)))
    | inr x =>
      obtain ⟨s, w⟩ := x
      obtain ⟨_, hs, w1, w2, w3⟩ := hr'
      have hg := rest_good hs w1 w2 w3
      have hw6 : w.length < 1000000 := by omega
      show Mini.Ans _ _ _ (.ok (isP K (afterD A B s w)))
      refine .ok (ss_seq (ss_set (mk rfl)) (ss_seq (ss_if0 (st_is (st_not (st_B (sv_call (S := S_is_rest) (sa_im (sv_var rfl) (sa_im (sv_fld (sv_var rfl) rfl T.cl_cPr T.n_cPr_letters) sa_nil)) ⟨(restT s w, m), by show (w.map PyData.int).length < 10000000; rw [List.length_map]; omega⟩ rfl rfl))) (by rw [hg]; rfl)) ss_next) (ss_seq (ss_unpT2 (sv_var rfl)) ?_)))
      have ix : ∀ {G : Gm}, G[3]? = some (.im (isD (.str (sideS s)))) → Sv (tBM K "tuple" (rTupIx K) (tC (.ref aSI)) (tCons (tVar 3) tNil)) G (isD (.int s)) := fun h => by
        rcases hs with rfl | rfl
        · exact sv_indexK (ys := sidesL) (m := 0) T.kt_aSI (sv_var h) rfl (fun k hk => by omega)
        · exact sv_indexK (ys := sidesL) (m := 1) T.kt_aSI (sv_var h) rfl (fun k hk => by
            have : k = 0 := by omega
            rw [this]; decide)
      refine ss_seq (ss_set (P := isD (followD A B s w 0)) (sv_mt (S := S_follow cRd) (sv_var rfl) (rdF_no rfl) (sa_im (sv_tup (ds := [.int s, .tuple (w.map .int), .int ((0 : Nat) : Int)]) (sa_ims (ix rfl) (sa_ims (sv_var rfl) (sa_ims sv_int sa_nil))) (by show 3 ≤ sizeLine; decide)) sa_nil) ⟨((A, B), s, w, 0), hA, hB, hs, by show 0 < w.length; omega, hw6⟩ rfl rfl)) ?_
      unfold followD afterD
      have no : Ss (fun _ => E) (tSeq (tIfS (tTest (tOp (fun x y H Q => y = .non ∧ Q (.bl (decide (x = .non))) H) (tVar 5) (tC .non))) (tRet (tC .non)) tNext) (tSeq (tAsg (tVar 5) (gTup K 2 (gCons (gName 6) (gCons (gName 7) gNil)))) (tSeq (tIfS (tB (tCallS (spF S_is_even') (fun _ => E) (tCons (tVar 7) tNil))) (tRet (tTup (tCons (tVar 6) (tCons (tC (.ref aEV)) tNil)))) tNext) (tRet (tTup (tCons (tVar 6) (tCons (tTup (tCons (tOp (rIx K) (tC (.ref aSI)) (tOp (rIx K) (tVar 7) (tC (.int 0)))) (tCons (tSl (uSl K) (tOp (rIx K) (tVar 7) (tC (.int 1))) (tPart (tOp (rIx K) (tVar 7) (tC (.int 2)))) tNoPart) tNil))) tNil))))))) [.im (isI cPr (pairF cBk m (wD A) m (wD B))), .im (isD (restT s w)), .im (isI cRd (rdF A B)), .im (isD (.str (sideS s))), .im (isD (.tuple (w.map .int))), .im (isD .none), .no, .no] (.rt (isP K .none)) :=
        ss_seqRt (ss_if1 (st_is (st_test (sv_isN (d := .none) (sv_var rfl))) rfl) (ss_ret (sv_pD sv_non)))
      have yes : ∀ (k s' : Int) (w' : List Int) (st : Nat), s' = 0 ∨ s' = 1 → Ss (fun _ => E) (tSeq (tIfS (tTest (tOp (fun x y H Q => y = .non ∧ Q (.bl (decide (x = .non))) H) (tVar 5) (tC .non))) (tRet (tC .non)) tNext) (tSeq (tAsg (tVar 5) (gTup K 2 (gCons (gName 6) (gCons (gName 7) gNil)))) (tSeq (tIfS (tB (tCallS (spF S_is_even') (fun _ => E) (tCons (tVar 7) tNil))) (tRet (tTup (tCons (tVar 6) (tCons (tC (.ref aEV)) tNil)))) tNext) (tRet (tTup (tCons (tVar 6) (tCons (tTup (tCons (tOp (rIx K) (tC (.ref aSI)) (tOp (rIx K) (tVar 7) (tC (.int 0)))) (tCons (tSl (uSl K) (tOp (rIx K) (tVar 7) (tC (.int 1))) (tPart (tOp (rIx K) (tVar 7) (tC (.int 2)))) tNoPart) tNil))) tNil))))))) [.im (isI cPr (pairF cBk m (wD A) m (wD B))), .im (isD (restT s w)), .im (isI cRd (rdF A B)), .im (isD (.str (sideS s))), .im (isD (.tuple (w.map .int))), .im (isD (.tuple [.int k, stateT s' w' st])), .no, .no] (.rt (isP K (.tuple [.int k, restD s' w' st]))) := fun k s' w' st h' => by
        have te : St' (tB (tCallS (spF S_is_even') (fun _ => E) (tCons (tVar 7) tNil))) [.im (isI cPr (pairF cBk m (wD A) m (wD B))), .im (isD (restT s w)), .im (isI cRd (rdF A B)), .im (isD (.str (sideS s))), .im (isD (.tuple (w.map .int))), .im (isD (.tuple [.int k, stateT s' w' st])), .im (isD (.int k)), .im (isD (stateT s' w' st))] (decide (st = w'.length)) := st_B (sv_call (S := S_is_even') (sa_im (sv_var rfl) sa_nil) (s', w', st) rfl rfl)
        refine ss_seq (ss_if0 (st_is (st_test (sv_isN (d := .tuple [.int k, stateT s' w' st]) (sv_var rfl))) rfl) ss_next) (ss_seq (ss_unpT2 (d1 := .int k) (d2 := stateT s' w' st) (sv_var rfl)) ?_)
        unfold restD
        by_cases c : st = w'.length
        · rw [if_pos c]
          exact ss_seqRt (ss_if1 (st_is te (decide_eq_true c)) (ss_ret (sv_tupP (ds := [.int k, .tuple [.str "even", .tuple []]]) (sa_pms (sv_pD (sv_var rfl)) (sa_pms (sv_pK fun B => .tup (.inr T.kt_aEV.kt) (.cons (.str _) (.cons (.tup (.inr T.kt_aE0.kt) .nil) .nil))) sa_nil)) (by show 2 ≤ sizeLine; decide))))
        · rw [if_neg c]
          have i0 : ∀ {G : Gm}, G[7]? = some (.im (isD (stateT s' w' st))) → Sv (tOp (rIx K) (tVar 7) (tC (.int 0))) G (isD (.int s')) := fun h => sv_ixT (i := ((0 : Nat) : Int)) (sv_var h) sv_int (atI_nat rfl)
          have i1 : ∀ {G : Gm}, G[7]? = some (.im (isD (stateT s' w' st))) → Sv (tOp (rIx K) (tVar 7) (tC (.int 1))) G (isD (.tuple (w'.map .int))) := fun h => sv_ixT (i := ((1 : Nat) : Int)) (sv_var h) sv_int (atI_nat rfl)
          have i2 : ∀ {G : Gm}, G[7]? = some (.im (isD (stateT s' w' st))) → Sv (tOp (rIx K) (tVar 7) (tC (.int 2))) G (isD (.int (st : Int))) := fun h => sv_ixT (i := ((2 : Nat) : Int)) (sv_var h) sv_int (atI_nat rfl)
          refine ss_seq (ss_if0 (st_is te (decide_eq_false c)) ss_next) (ss_ret (sv_tupP (ds := [.int k, .tuple [.str (sideS s'), .tuple ((w'.drop st).map .int)]]) (sa_pms (sv_pD (sv_var rfl)) (sa_pms (sv_tupP (ds := [.str (sideS s'), .tuple ((w'.drop st).map .int)]) (sa_pms (sv_ixP (ds := [.str "first", .str "second"]) (i := s') (sv_pK fun B => .tup (.inr T.kt_aSI.kt) (.cons (.str _) (.cons (.str _) .nil))) (i0 rfl) ?_) (sa_pms (sv_pD (sv_is (sv_sliceT (ds := w'.map .int) (i1 rfl) (so_some (i2 rfl)) so_none) ?_)) sa_nil)) (by show 2 ≤ sizeLine; decide)) sa_nil)) (by show 2 ≤ sizeLine; decide)))
          · rcases h' with rfl | rfl <;> rfl
          · rw [cut_drop _ (by omega), Int.toNat_natCast, List.map_drop]
      cases hk : headK (oth A B s) (w.getD 0 0) with
      | none => exact no
      | some k =>
        dsimp only
        generalize (oth A B s).getD k.toNat [] = c
        rw [List.drop_zero, Nat.sub_zero, Nat.zero_add]
        by_cases ce : w.take c.length = c.take w.length
        · rw [if_pos ce, if_pos ce]
          by_cases cl : c.length ≤ w.length
          · rw [if_pos cl, if_pos cl]
            exact yes k s w c.length hs
          · rw [if_neg cl, if_neg cl]
            exact yes k (1 - s) c w.length (by omega)
        · rw [if_neg ce, if_neg ce]
          exact no
  · cases r with
    | inl d =>
      show Mini.Ans _ _ _ (if (apartB A && apartB B) = true then .bad cBT else .bad cNA)
      rw [if_neg ap]
      exact .bad (ss_seqBad (ss_setBad (sb_mk (S := S_Reader cBk cPr cNA) (sa_im (sv_var rfl) sa_nil) ⟨(m, A, B), hA, hB⟩ rfl (if_neg ap))))
    | inr x => exact absurd hr'.1 ap
end
end K10

namespace K10
open PySem L2 Evl Mini PyProof.Rows
theorem wordD_hd (dr : List Int) (letters longest first : Int) (k : Nat) : hdL (wordD dr letters longest first k) = first := rfl
theorem getE_perm : ∀ (l : List Int) (i : Nat) (h : i < l.length), List.Perm (l[i] :: l.eraseIdx i) l
  | [], i, h => absurd h (Nat.not_lt_zero _)
  | a :: l, 0, _ => List.Perm.refl _
  | a :: l, i + 1, h => (List.Perm.swap a (l[i]'(by rw [List.length_cons] at h; omega)) (l.eraseIdx i)).trans (List.Perm.cons a (getE_perm l i (by rw [List.length_cons] at h; omega)))
theorem wordsS_nd (dr : List Int) (n longest : Int) (hp : ∀ i, 0 ≤ atD dr i) : ∀ k : Nat, (k : Int) ≤ n → (((wordsS dr n longest true k).2.map hdL) ++ (wordsS dr n longest true k).1).Nodup
  | 0, _ => by
    show (([] : List (List Int)).map hdL ++ (List.range n.toNat).map fun k : Nat => (k : Int)).Nodup
    rw [List.map_nil, List.nil_append]
    show List.Pairwise _ _
    rw [List.pairwise_map]
    exact (List.pairwise_lt_range).imp fun {a b} h => by omega
  | k + 1, h => by
    have ih := wordsS_nd dr n longest hp k (by omega)
    have hl := leftS_len dr n longest k hp (by omega)
    unfold wordsS
    simp only [if_true]
    generalize wordsS dr n longest true k = s at ih hl
    have h0 : 0 ≤ atD dr (3 * k) % (s.1.length : Int) := Int.emod_nonneg _ (by omega)
    have h1 : atD dr (3 * k) % (s.1.length : Int) < (s.1.length : Int) := Int.emod_lt_of_pos _ (by omega)
    generalize (atD dr (3 * k) % (s.1.length : Int)) = i at h0 h1
    have hi : i.toNat < s.1.length := by omega
    rw [List.map_append, List.map_cons, List.map_nil, wordD_hd, List.append_assoc]
    have e : s.1.getD i.toNat 0 = s.1[i.toNat] := by rw [List.getD_eq_getElem?_getD, List.getElem?_eq_getElem hi]; rfl
    rw [e]
    refine (List.Perm.nodup_iff (List.Perm.append_left _ ?_)).mpr ih
    exact getE_perm _ _ hi
theorem rowsP_nd {D : List Int} {n longest : Int} (k : Nat) (hn : 1 ≤ n) (hp : ∀ i, 0 ≤ atD D i) : ((rowsP D n longest k).map hdL).Nodup := by
  have hs := sizeP_ok (D := D) k hn hp
  have := wordsS_nd (D.drop (6 + 24 * k)) n longest (atD_drop _ hp) (sizeP D n k).toNat (by omega)
  exact (List.nodup_append.mp this).1
theorem secF_hd {D : List Int} {A : List (List Int)} {k : Nat} {w : List Int} (hA : ∀ u ∈ A, 1 ≤ u.length) : hdL (secF D A k w) = hdL w := by
  unfold secF
  cases h : likeP A w with
  | nil => rfl
  | cons u us =>
    have hm := List.mem_filter.mp (show u ∈ likeP A w by rw [h]; exact List.mem_cons_self)
    have hu := hA u hm.1
    have he : hdL u = hdL w := of_decide_eq_true hm.2
    dsimp only
    rw [← he]
    cases u with
    | nil => simp at hu
    | cons a u =>
      split
      · rw [show 1 + (a :: u).length / 2 = ((a :: u).length / 2) + 1 by omega, List.take_succ_cons]; rfl
      · split <;> rfl
theorem secF_ok {D : List Int} {A : List (List Int)} {n : Int} {g : Int} {k : Nat} {w : List Int} (hA : ∀ u ∈ A, 1 ≤ u.length ∧ u.length ≤ g ∧ ∀ v ∈ u, 0 ≤ v ∧ v < n) (hw : 1 ≤ w.length ∧ w.length ≤ g ∧ ∀ v ∈ w, 0 ≤ v ∧ v < n) : 1 ≤ (secF D A k w).length ∧ (secF D A k w).length ≤ g + 2 ∧ ∀ v ∈ secF D A k w, 0 ≤ v ∧ v < n := by
  unfold secF
  cases h : likeP A w with
  | nil => exact ⟨hw.1, by show (w.length : Int) ≤ g + 2; omega, hw.2.2⟩
  | cons u us =>
    have hm := List.mem_filter.mp (show u ∈ likeP A w by rw [h]; exact List.mem_cons_self)
    obtain ⟨h1, h2, h3⟩ := hA u hm.1
    dsimp only
    split
    · refine ⟨by rw [List.length_take]; omega, by rw [List.length_take]; omega, fun v hv => h3 v (List.mem_of_mem_take hv)⟩
    · split
      · have h0 : 0 < A.length := List.length_pos_of_mem hm.1
        have hm2 : (k + 1) % A.length < A.length := Nat.mod_lt _ h0
        have hx := hA (A.getD ((k + 1) % A.length) []) (by rw [List.getD_eq_getElem?_getD, List.getElem?_eq_getElem hm2]; exact List.getElem_mem hm2)
        refine ⟨by rw [List.length_append]; omega, by rw [List.length_append, List.length_take]; omega, fun v hv => ?_⟩
        rcases List.mem_append.mp hv with z | z
        · exact h3 v z
        · exact hx.2.2 v (List.mem_of_mem_take z)
      · exact ⟨h1, by omega, h3⟩
/-- both books of a drawn pair -/
structure PairOk (W : List (List Int)) (n g : Int) : Prop where
  len : 1 ≤ W.length ∧ (W.length : Int) ≤ n
  wds : ∀ w ∈ W, 1 ≤ w.length ∧ w.length ≤ g ∧ ∀ v ∈ w, 0 ≤ v ∧ v < n
  nd : (W.map hdL).Nodup
theorem pair_one {D : List Int} {n g : Int} (hn : 1 ≤ n) (hg : 1 ≤ g) (hp : ∀ i, 0 ≤ atD D i) (k : Nat) : PairOk (rowsP D n g k) n g := by
  have hs := sizeP_ok (D := D) k hn hp
  exact ⟨by rw [rowsP_len]; omega, rowsP_ok k hn hg hp, rowsP_nd k hn hp⟩
theorem pair_two {D : List Int} {n g : Int} (hn : 1 ≤ n) (hg : 1 ≤ g) (hp : ∀ i, 0 ≤ atD D i) : PairOk (pairP D n g) n (g + 2) := by
  have h0 := pair_one (g := g) hn hg hp 0
  have h1 := pair_one (g := g) hn hg hp 1
  unfold pairP
  split
  · exact ⟨h1.len, fun w hw => by obtain ⟨a, b, c⟩ := h1.wds w hw; exact ⟨a, by omega, c⟩, h1.nd⟩
  · unfold secP
    generalize rowsP D n g 1 = B at h1
    generalize rowsP D n g 0 = A at h0
    have gB : ∀ k, k < B.length → B.getD k [] ∈ B := fun k hk => by rw [List.getD_eq_getElem?_getD, List.getElem?_eq_getElem hk]; exact List.getElem_mem hk
    refine ⟨by rw [List.length_map, List.length_range]; exact h1.len, fun w hw => ?_, ?_⟩
    · obtain ⟨k, hk, rfl⟩ := List.mem_map.mp hw
      exact secF_ok h0.wds (h1.wds _ (gB k (List.mem_range.mp hk)))
    · have e : ((List.range B.length).map fun k => secF D A k (B.getD k [])).map hdL = B.map hdL := by
        rw [List.map_map]
        apply List.ext_getElem
        · rw [List.length_map, List.length_map, List.length_range]
        · intro i h1 h2
          rw [List.getElem_map, List.getElem_map, List.getElem_range]
          show hdL (secF D A i (B.getD i [])) = _
          rw [secF_hd fun u hu => (h0.wds u hu).1]
          rw [List.length_map] at h2
          rw [List.getD_eq_getElem?_getD, List.getElem?_eq_getElem h2]
          rfl
      rw [e]
      exact h1.nd
theorem PairOk.apart {W : List (List Int)} {n g : Int} (h : PairOk W n g) : apartB W = true := (apart_iff W).mpr h.nd
theorem PairOk.bk {W : List (List Int)} {n g : Int} (h : PairOk W n g) (hn : n ≤ 6) (hg : g ≤ 5000) : BkOk W := ⟨by have := h.len; omega, fun w hw => by have := h.wds w hw; omega⟩
theorem PairOk.good {W : List (List Int)} {n g : Int} (h : PairOk W n g) (hn : n ≤ 6) (hg : g ≤ 5000) : GoodW W n := ⟨by have := h.len; omega, fun w hw => by obtain ⟨a, b, c⟩ := h.wds w hw; exact ⟨a, by omega, c⟩⟩
/-! ### _law_due, _law_told, _law_letters -/
def shF (c w : List Int) : Nat := if w.length < c.length then w.length else c.length
def mtF (W : List (List Int)) (w : List Int) (k : Nat) : Bool := decide ((W.getD k []).take (shF (W.getD k []) w) = w.take (shF (W.getD k []) w))
def itemD (W : List (List Int)) (w : List Int) (k : Nat) : PyData := .tuple [.int (k : Int), .tuple (((W.getD k []).drop (shF (W.getD k []) w)).map .int), .tuple ((w.drop (shF (W.getD k []) w)).map .int)]
def dueD (W : List (List Int)) (w : List Int) : PyData := match fil (mtF W w) W.length with
  | [k] => itemD W w k
  | _ => .none
section
variable {P : Program} {w : World} {K : PySem.W.Frag} {mg : Str → Option Value} {base : Heap} {cAE cBB cBT cNA cBk cPr cRd aE0 aEV aSI : Addr}
def S_law_due : Fs := ⟨{x : List (List Int) × List Int // x.1.length ≤ 60 ∧ x.2.length < 1000000}, 2, fun x => [.im (isD (.list (wD x.1.1))), .im (isD (.tuple (x.1.2.map .int)))], fun _ => rfl, fun x => .ok (isD (dueD x.1.1 x.1.2))⟩
abbrev st__law_due : Stmt := top 39
theorem sc__law_due : FnScope ["words", "letters", "found", "number", "word", "shorter"] ["words", "letters"] (defScope st__law_due) := ⟨rfl, rfl, rfl, by decide +kernel, rfl, by decide +kernel, by decide +kernel⟩
theorem ok__law_due {f : Addr} {fd : FuncData} (T : Txt K mg cAE cBB cBT cNA cBk cPr cRd aE0 aEV aSI)  (F : Fun K "_law_due" "_law_due" st__law_due f fd) : FnOk P w K mg base (L2.CX P w) 1 f fd ["words", "letters"] (spF (S_law_due)) := by
  refine fn_ok F sc__law_due rfl fun cdv A outer s H E hr => ?_
  have tk : Takes (cxD P w K mg base ["words", "letters", "found", "number", "word", "shorter"] "_law_due" st__law_due f cdv A outer s H E) (fun cls d _ H => E cls d H) := takes_of rfl rfl rfl rfl
  have hx := pxM tk
  have nd := sc__law_due.nd
  refine ⟨_, (pss_cons (ps_set (i := 2) nd rfl (Or.inl rfl) (pe_lst pa_nil))
 (pss_cons (ps_for (passes_of rfl) rfl (pi_range1 (by rfl) T.no_range (pa_cons (pe_callB call_len (by rfl) T.no_len (by decide +kernel) (pa_cons (pv 0) pa_nil)) pa_nil)) (pg_name (i := 3) nd rfl (Or.inl rfl)) (pss_cons (ps_set (i := 4) nd rfl (Or.inl rfl) (pe_ix ix_seq (pv 0) (pv 3) (fun _ _ => rfl)))
 (pss_cons (ps_set (i := 5) nd rfl (Or.inl rfl) (pe_callB (call_min2 rfl) (by rfl) T.no_min (by decide +kernel) (pa_cons (pe_callB call_len (by rfl) T.no_len (by decide +kernel) (pa_cons (pv 4) pa_nil)) (pa_cons (pe_callB call_len (by rfl) T.no_len (by decide +kernel) (pa_cons (pv 1) pa_nil)) pa_nil))))
 (pss_one (ps_if (pt_cmpR (op_eqD hr.units) (pe_slice sl_uSl (pv 4) po_none (po_some (pv 5))) (pe_slice sl_uSl (pv 1) po_none (po_some (pv 5))) (nomark _)) (pss_one (ps_expr (pe_bm PySem.F.plainAttrs_list PySem.F.slot_list_append PySem.F.type_list_append mt_append (pv 2) (pa_cons (pe_tup (pa_cons (pv 3) (pa_cons (pe_slice sl_uSl (pv 4) (po_some (pv 5)) po_none) (pa_cons (pe_slice sl_uSl (pv 1) (po_some (pv 5)) po_none) pa_nil)))) pa_nil)))) pss_nil)))))
 (pss_cons (ps_if (pt_cmpR (op_neD hr.units) (pe_callB call_len (by rfl) T.no_len (by decide +kernel) (pa_cons (pv 2) pa_nil)) pe_int (nomark _)) (pss_one (ps_ret pe_non)) pss_nil)
 (pss_one (ps_ret (pe_ix ix_seq (pv 2) pe_int (fun _ _ => rfl))))))), ?_⟩
  intro x
  obtain ⟨⟨W, w⟩, hW, hw⟩ := x
  have hW : W.length ≤ 60 := hW
  have hw : w.length < 1000000 := hw
  have hz : (sizeLine : Nat) = 16777216 := sizeLine_eq
  have lw := wD_len W
  show Mini.Ans _ _ [.im (isD (.list (wD W))), .im (isD (.tuple (w.map .int))), .no, .no, .no, .no] (.ok (isD (dueD W w)))
  refine .ok (ss_seq (ss_setL (svl_lst (ds := []) sa_nil (Nat.zero_le _))) ?_)
  have fl : ∀ i, (fil (mtF W w) i).length ≤ i := fun i => by unfold fil; have := List.length_filter_le (mtF W w) (List.range i); rwa [List.length_range] at this
  refine ss_seq (ss_forR (j := 3) (n := (W.length : Int)) (sv_is (sv_lenL (rl_sv (sv_var rfl))) (by rw [lw])) (by omega) (fun i => [.im (isD (.list (wD W))), .im (isD (.tuple (w.map .int))), .ow (isL ((fil (mtF W w) i).map (itemD W w))), .no, .no, .no]) W.length (by omega) (Le.refl _) (fun _ _ => Nat.le_of_ble_eq_true rfl) (fun i hi => ?_) (.inl ⟨by omega, rfl⟩)) ?_
  · refine .inl ?_
    have hwi : atI (wD W) (i : Int) = some (.tuple ((W.getD i []).map .int)) := atI_nat (wD_get hi)
    have hl := fl i
    rw [fil_succ]
    show Ss _ _ [.im (isD (.list (wD W))), .im (isD (.tuple (w.map .int))), .ow (isL ((fil (mtF W w) i).map (itemD W w))), .im (isD (.int (i : Int))), .no, .no] _
    generalize fil (mtF W w) i = F at hl ⊢
    have hmt : mtF W w i = decide ((W.getD i []).take (shF (W.getD i []) w) = w.take (shF (W.getD i []) w)) := rfl
    have hit : itemD W w i = .tuple [.int (i : Int), .tuple (((W.getD i []).drop (shF (W.getD i []) w)).map .int), .tuple ((w.drop (shF (W.getD i []) w)).map .int)] := rfl
    rw [hmt]
    refine ss_seq (ss_set (sv_ixL (rl_sv (sv_var rfl)) (sv_var rfl) hwi)) ?_
    generalize W.getD i [] = c at hit ⊢
    refine ss_seq (ss_set (P := isD (.int ((shF c w : Nat) : Int))) (sv_is (sv_min2 (sv_lenT (ds := c.map .int) (sv_var rfl)) (sv_lenT (ds := w.map .int) (sv_var rfl))) (by rw [List.length_map, List.length_map]; unfold shF; split <;> split <;> first | rfl | omega))) ?_
    generalize shF c w = sh at hit ⊢
    have tt := st_test (sv_eq (K := K) (G := [.im (isD (.list (wD W))), .im (isD (.tuple (w.map .int))), .ow (isL (F.map (itemD W w))), .im (isD (.int (i : Int))), .im (isD (.tuple (c.map .int))), .im (isD (.int (sh : Int)))]) (d := .tuple ((c.take sh).map .int)) (e := .tuple ((w.take sh).map .int)) (sv_is (sv_sliceT (K := K) (sv_var (n := 4) rfl) so_none (so_some (sv_var (n := 5) rfl))) (by rw [cut_take _ (by omega), Int.toNat_natCast, List.map_take])) (sv_is (sv_sliceT (K := K) (sv_var (n := 1) rfl) so_none (so_some (sv_var (n := 5) rfl))) (by rw [cut_take _ (by omega), Int.toNat_natCast, List.map_take])) (shaped_tints _) (shaped_tints _))
    rw [eqv_tints] at tt
    by_cases ce : c.take sh = w.take sh
    · rw [if_pos (decide_eq_true ce)]
      refine ss_nxLe (ss_if1 (st_is tt (decide_eq_true ce)) (ss_append (n := 2) (ds := F.map (itemD W w)) (d := itemD W w i) rfl (by rw [hit]; exact sv_tup (sa_ims (sv_var rfl) (sa_ims (sv_is (sv_sliceT (sv_var rfl) (so_some (sv_var rfl)) so_none) (by rw [cut_drop _ (by omega), Int.toNat_natCast, List.map_drop])) (sa_ims (sv_is (sv_sliceT (sv_var rfl) (so_some (sv_var rfl)) so_none) (by rw [cut_drop _ (by omega), Int.toNat_natCast, List.map_drop])) sa_nil))) (by show 3 ≤ sizeLine; decide)) (by rw [List.length_map]; omega))) ?_
      rw [List.map_append]
      exact Le.eq (Le.eq (Le.eq (Le.no (Le.no (Le.no Le.nil)))))
    · rw [if_neg (by rw [decide_eq_false ce]; decide)]
      exact ss_nxLe (ss_if0 (st_is tt (decide_eq_false ce)) ss_next) (Le.eq (Le.eq (Le.eq (Le.no (Le.no (Le.no Le.nil))))))
  · unfold dueD
    have hl := fl W.length
    show Ss _ _ [.im (isD (.list (wD W))), .im (isD (.tuple (w.map .int))), .ow (isL ((fil (mtF W w) W.length).map (itemD W w))), .no, .no, .no] _
    generalize fil (mtF W w) W.length = F at hl ⊢
    have tl : ∀ {K' : PySem.W.Frag}, St' (tTest (tOp (rNeD K') (tCB (fun xs H Q => ∃ x n, xs = [x] ∧ LenV K' x H n ∧ Q (.int n) H) (tCons (tVar 2) tNil)) (tC (.int 1)))) [.im (isD (.list (wD W))), .im (isD (.tuple (w.map .int))), .ow (isL (F.map (itemD W w))), .no, .no, .no] (!decide ((F.length : Int) = 1)) := fun {K'} => st_is (st_test (sv_neI (sv_lenL (ds := F.map (itemD W w)) (rl_ow rfl)) sv_int)) (by rw [List.length_map])
    cases F with
    | nil => exact ss_seqRt (ss_if1 (st_is tl rfl) (ss_ret sv_non))
    | cons k F => cases F with
      | nil => exact ss_seq (ss_if0 (st_is tl rfl) ss_next) (ss_ret (sv_ixL (i := ((0 : Nat) : Int)) (rl_ow (ds := [itemD W w k]) rfl) sv_int (atI_nat rfl)))
      | cons k2 F => exact ss_seqRt (ss_if1 (st_is tl (by rw [decide_eq_false (by rw [List.length_cons, List.length_cons]; omega)]; rfl)) (ss_ret sv_non))
def toldP (A B : List (List Int)) : AR → PyData
  | .inl _ => if (apartB A && apartB B) = true then .list [.bool true, .bool false] else .list [.bool false, .bool true]
  | .inr (s, w) => afterD A B s w
def S_law_told (K : PySem.W.Frag) (cBk cPr : Addr) : Fs := ⟨{x : (Int × List (List Int) × List (List Int)) × AR // BkOk x.1.2.1 ∧ BkOk x.1.2.2 ∧ x.2.ok x.1.2.1 x.1.2.2 x.1.1}, 2,
  fun x => [.im (isI cPr (pairF cBk x.1.1.1 (wD x.1.1.2.1) x.1.1.1 (wD x.1.1.2.2))), .im (isD x.1.2.d)], fun _ => rfl, fun x => .ok (isP K (toldP x.1.1.2.1 x.1.1.2.2 x.1.2))⟩
abbrev st__law_told : Stmt := top 40
theorem sc__law_told : FnScope ["pair", "rest", "e"] ["pair", "rest"] (defScope st__law_told) := ⟨rfl, rfl, rfl, by decide +kernel, rfl, by decide +kernel, by decide +kernel⟩
theorem ok__law_told {f : Addr} {fd : FuncData} (T : Txt K mg cAE cBB cBT cNA cBk cPr cRd aE0 aEV aSI) (F_after : FnC P w K mg base 4 "after" (spF (S_after K cBk cPr cBT cNA))) (F : Fun K "_law_told" "_law_told" st__law_told f fd) : FnOk P w K mg base (L2.CX P w) 5 f fd ["pair", "rest"] (spF (S_law_told K cBk cPr)) := by
  refine fn_ok F sc__law_told rfl fun cdv A outer s H E hr => ?_
  have tk : Takes (cxD P w K mg base ["pair", "rest", "e"] "_law_told" st__law_told f cdv A outer s H E) (fun cls d _ H => E cls d H) := takes_of rfl rfl rfl rfl
  have hx := pxM tk
  have nd := sc__law_told.nd
  refine ⟨_, (pss_one (ps_try_as (i := 2) rfl rfl nd rfl rfl ⟨rfl, by decide, .inl T.e_AlikeError.g⟩ takes0 (fun W pn xe tkW po => (pss_one (ps_ret (pe_fn F_after hr (fun σ => passAt tkW σ) (pa_cons (pv 0) (pa_cons (pv 1) pa_nil)))))) (fun a oe cls dd pn hz hf => (pss_one (ps_ret (pe_lst (pa_cons (pe_callB (r := rIsX K a cls dd) (call_isX hz hf) (by rfl) T.no_isinstance (by decide +kernel) (pa_cons (pv 2) (pa_cons (pe_err T.e_BadRest.g) pa_nil))) (pa_cons (pe_callB (r := rIsX K a cls dd) (call_isX hz hf) (by rfl) T.no_isinstance (by decide +kernel) (pa_cons (pv 2) (pa_cons (pe_err T.e_NotApart.g) pa_nil))) pa_nil)))))))), ?_⟩
  intro x
  obtain ⟨⟨⟨m, A, B⟩, r⟩, hx⟩ := x
  show Mini.Ans _ _ _ (.ok (isP K (toldP A B r)))
  have hS : ∀ {q : Rs}, r.res K cBT cNA A B = q → (S_after K cBk cPr cBT cNA).res ⟨((m, A, B), r), hx⟩ = q := fun h => h
  cases r with
  | inr x =>
    obtain ⟨s, w⟩ := x
    exact .ok (ss_tryOk (fun W => ss_ret (sv_call (S := S_after K cBk cPr cBT cNA) (sa_im (sv_var rfl) (sa_im (sv_var rfl) sa_nil)) ⟨((m, A, B), .inr (s, w)), hx⟩ rfl rfl)) (fun _ _ z => by cases z))
  | inl d =>
    have two : ∀ {G : Gm} {a b : TE} {d e : PyData}, Sv a G (isD d) → Sv b G (isD e) → Sv (tLst (tCons a (tCons b tNil))) G (isP K (.list [d, e])) := fun {G a b d e} h h' => sv_pD (sv_svl (svl_lst (ds := [d, e]) (sa_ims h (sa_ims h' sa_nil)) (by show 2 ≤ sizeLine; decide)))
    show Mini.Ans _ _ _ (.ok (isP K (if (apartB A && apartB B) = true then .list [.bool true, .bool false] else .list [.bool false, .bool true])))
    by_cases ap : (apartB A && apartB B) = true
    · rw [if_pos ap]
      exact .ok (ss_tryBad (o := .rt _) (fun W => ss_retBad (sb_call (S := S_after K cBk cPr cBT cNA) (sa_im (sv_var rfl) (sa_im (sv_var rfl) sa_nil)) ⟨((m, A, B), .inl d), hx⟩ rfl (hS (if_pos ap)))) T.m_cBT (Nat.le_of_ble_eq_true rfl) (fun a => ss_ret (two (sv_isX (sv_var rfl) sv_val T.x_cBT T.k_cBT_cBT) (sv_isX (sv_var rfl) sv_val T.x_cBT T.k_cBT_cNA))) (fun _ _ z => by cases z))
    · rw [if_neg ap]
      exact .ok (ss_tryBad (o := .rt _) (fun W => ss_retBad (sb_call (S := S_after K cBk cPr cBT cNA) (sa_im (sv_var rfl) (sa_im (sv_var rfl) sa_nil)) ⟨((m, A, B), .inl d), hx⟩ rfl (hS (if_neg ap)))) T.m_cNA (Nat.le_of_ble_eq_true rfl) (fun a => ss_ret (two (sv_isX (sv_var rfl) sv_val T.x_cNA T.k_cNA_cBT) (sv_isX (sv_var rfl) sv_val T.x_cNA T.k_cNA_cNA))) (fun _ _ z => by cases z))
/-- the letters of a rest -/
def baseW (D : List Int) (A B : List (List Int)) : List Int := (if atD D 2 % 2 = 0 then A else B).getD (atD D 3 % ((if atD D 2 % 2 = 0 then A else B).length : Int)).toNat []
def lettersF (D : List Int) (n : Int) (A B : List (List Int)) : List Int := if atD D 0 % 4 = 0 then (List.range (1 + atD D 1 % 9).toNat).map fun k => atD D (2 + k) % n
  else if atD D 0 % 4 = 1 then (baseW D A B).drop (atD D 4 % ((baseW D A B).length : Int)).toNat
  else if atD D 0 % 4 = 2 then (baseW D A B).take (1 + atD D 4 % ((baseW D A B).length : Int)).toNat
  else baseW D A B ++ List.replicate (atD D 4 % 4).toNat (atD D 5 % n)
theorem baseW_mem {D : List Int} {A B : List (List Int)} (hA : 1 ≤ A.length) (hB : 1 ≤ B.length) : baseW D A B ∈ A ∨ baseW D A B ∈ B := by
  unfold baseW
  have h : ∀ W : List (List Int), 1 ≤ W.length → W.getD (atD D 3 % (W.length : Int)).toNat [] ∈ W := fun W hW => by
    have h0 := Int.emod_nonneg (atD D 3) (show (W.length : Int) ≠ 0 by omega)
    have h1 := Int.emod_lt_of_pos (atD D 3) (show (0 : Int) < (W.length : Int) by omega)
    have h2 : (atD D 3 % (W.length : Int)).toNat < W.length := by omega
    rw [List.getD_eq_getElem?_getD, List.getElem?_eq_getElem h2]
    exact List.getElem_mem h2
  split
  · exact .inl (h A hA)
  · exact .inr (h B hB)
theorem lettersF_ok {D : List Int} {n : Int} {A B : List (List Int)} (hn : 1 ≤ n) (hA : 1 ≤ A.length) (hB : 1 ≤ B.length) (hw : ∀ w, w ∈ A ∨ w ∈ B → 1 ≤ w.length ∧ w.length ≤ 1000 ∧ ∀ v ∈ w, 0 ≤ v ∧ v < n) : 1 ≤ (lettersF D n A B).length ∧ (lettersF D n A B).length ≤ 1010 ∧ ∀ v ∈ lettersF D n A B, 0 ≤ v ∧ v < n := by
  obtain ⟨h1, h2, h3⟩ := hw _ (baseW_mem (D := D) hA hB)
  unfold lettersF
  generalize baseW D A B = u at h1 h2 h3
  have a0 := Int.emod_nonneg (atD D 1) (show (9 : Int) ≠ 0 by decide)
  have a1 := Int.emod_lt_of_pos (atD D 1) (show (0 : Int) < 9 by decide)
  have b0 := Int.emod_nonneg (atD D 4) (show (u.length : Int) ≠ 0 by omega)
  have b1 := Int.emod_lt_of_pos (atD D 4) (show (0 : Int) < (u.length : Int) by omega)
  have c0 := Int.emod_nonneg (atD D 4) (show (4 : Int) ≠ 0 by decide)
  have c1 := Int.emod_lt_of_pos (atD D 4) (show (0 : Int) < 4 by decide)
  have md : ∀ x : Int, 0 ≤ x % n ∧ x % n < n := fun x => ⟨Int.emod_nonneg _ (by omega), Int.emod_lt_of_pos _ (by omega)⟩
  split
  · refine ⟨by rw [List.length_map, List.length_range]; omega, by rw [List.length_map, List.length_range]; omega, fun v hv => ?_⟩
    obtain ⟨k, _, rfl⟩ := List.mem_map.mp hv
    exact md _
  split
  · exact ⟨by rw [List.length_drop]; omega, by rw [List.length_drop]; omega, fun v hv => h3 v (List.mem_of_mem_drop hv)⟩
  split
  · exact ⟨by rw [List.length_take]; omega, by rw [List.length_take]; omega, fun v hv => h3 v (List.mem_of_mem_take hv)⟩
  · refine ⟨by rw [List.length_append]; omega, by rw [List.length_append, List.length_replicate]; omega, fun v hv => ?_⟩
    rcases List.mem_append.mp hv with z | z
    · exact h3 v z
    · rw [List.eq_of_mem_replicate z]; exact md _
def S_law_letters : Fs := ⟨{x : List Int × Int × List (List Int) × List (List Int) // 11 ≤ x.1.length ∧ 1 ≤ x.2.1 ∧ 1 ≤ x.2.2.1.length ∧ 1 ≤ x.2.2.2.length ∧ ∀ w, w ∈ x.2.2.1 ∨ w ∈ x.2.2.2 → 1 ≤ w.length ∧ w.length ≤ 1000}, 4,
  fun x => [.im (isD (.list (x.1.1.map .int))), .im (isD (.int x.1.2.1)), .im (isD (.list (wD x.1.2.2.1))), .im (isD (.list (wD x.1.2.2.2)))], fun _ => rfl, fun x => .ok (isD (.tuple ((lettersF x.1.1 x.1.2.1 x.1.2.2.1 x.1.2.2.2).map .int)))⟩
abbrev st__law_letters : Stmt := top 41
theorem sc__law_letters : FnScope ["draws", "letters", "one", "two", "way", "books", "word", "k"] ["draws", "letters", "one", "two"] (defScope st__law_letters) := ⟨rfl, rfl, rfl, by decide +kernel, rfl, by decide +kernel, by decide +kernel⟩
theorem ok__law_letters {f : Addr} {fd : FuncData} (T : Txt K mg cAE cBB cBT cNA cBk cPr cRd aE0 aEV aSI)  (F : Fun K "_law_letters" "_law_letters" st__law_letters f fd) : FnOk P w K mg base (L2.CX P w) 1 f fd ["draws", "letters", "one", "two"] (spF (S_law_letters)) := by
  refine fn_ok F sc__law_letters rfl fun cdv A outer s H E hr => ?_
  have tk : Takes (cxD P w K mg base ["draws", "letters", "one", "two", "way", "books", "word", "k"] "_law_letters" st__law_letters f cdv A outer s H E) (fun cls d _ H => E cls d H) := takes_of rfl rfl rfl rfl
  have hx := pxM tk
  have nd := sc__law_letters.nd
  refine ⟨_, (pss_cons (ps_par (i := 4) (j := 5) rfl nd rfl rfl (by decide) rfl rfl (pa_cons (pe_op op_mod (pe_callTy call_int1 (by rfl) T.no_int (by decide +kernel) (pa_cons (pe_ix ix_seq (pv 0) pe_int (fun _ _ => rfl)) pa_nil)) pe_int) (pa_cons (pe_lst (pa_cons (pv 2) (pa_cons (pv 3) pa_nil))) pa_nil)) (by rfl))
 (pss_cons (ps_if (pt_cmpR (op_eqD hr.units) (pv 4) pe_int (nomark _)) (pss_one (ps_ret (pe_tupleOf (by rfl) T.no_tuple (pe_lc (own := [("k", 7)]) (g := gName 7) (tt := tYes) rfl nd (pi_range1 (by rfl) T.no_range (pa_cons (pe_op op_uAdd pe_int (pe_op op_mod (pe_callTy call_int1 (by rfl) T.no_int (by decide +kernel) (pa_cons (pe_ix ix_seq (pv 0) pe_int (fun _ _ => rfl)) pa_nil)) pe_int)) pa_nil)) (blkOk_by (N := ["draws", "letters", "one", "two", "way", "books", "word", "k"]) (sc := defScope st__law_letters) (by decide +kernel)) (fun _ _ _ _ _ => pg_name (i := 7) nd rfl (Or.inl rfl)) (fun _ _ _ _ _ => pts_nil) (fun _ _ _ _ _ => (pe_op op_mod (pe_callTy call_int1 (by rfl) T.no_int (by decide +kernel) (pa_cons (pe_ix (r := rIx K) ix_seq (pv 0) (pe_op (r := uAdd K) op_uAdd pe_int (pv 7)) (fun _ _ => rfl)) pa_nil)) (pv 1))))))) pss_nil)
 (pss_cons (ps_set (i := 6) nd rfl (Or.inl rfl) (pe_ix ix_seq (pe_ix ix_seq (pv 5) (pe_op op_mod (pe_callTy call_int1 (by rfl) T.no_int (by decide +kernel) (pa_cons (pe_ix ix_seq (pv 0) pe_int (fun _ _ => rfl)) pa_nil)) pe_int) (fun _ _ => rfl)) (pe_op op_mod (pe_callTy call_int1 (by rfl) T.no_int (by decide +kernel) (pa_cons (pe_ix ix_seq (pv 0) pe_int (fun _ _ => rfl)) pa_nil)) (pe_callB call_len (by rfl) T.no_len (by decide +kernel) (pa_cons (pe_ix ix_seq (pv 5) (pe_op op_mod (pe_callTy call_int1 (by rfl) T.no_int (by decide +kernel) (pa_cons (pe_ix ix_seq (pv 0) pe_int (fun _ _ => rfl)) pa_nil)) pe_int) (fun _ _ => rfl)) pa_nil))) (fun _ _ => rfl)))
 (pss_cons (ps_if (pt_cmpR (op_eqD hr.units) (pv 4) pe_int (nomark _)) (pss_one (ps_ret (pe_slice sl_uSl (pv 6) (po_some (pe_op op_mod (pe_callTy call_int1 (by rfl) T.no_int (by decide +kernel) (pa_cons (pe_ix ix_seq (pv 0) pe_int (fun _ _ => rfl)) pa_nil)) (pe_callB call_len (by rfl) T.no_len (by decide +kernel) (pa_cons (pv 6) pa_nil)))) po_none))) pss_nil)
 (pss_cons (ps_if (pt_cmpR (op_eqD hr.units) (pv 4) pe_int (nomark _)) (pss_one (ps_ret (pe_slice sl_uSl (pv 6) po_none (po_some (pe_op op_uAdd pe_int (pe_op op_mod (pe_callTy call_int1 (by rfl) T.no_int (by decide +kernel) (pa_cons (pe_ix ix_seq (pv 0) pe_int (fun _ _ => rfl)) pa_nil)) (pe_callB call_len (by rfl) T.no_len (by decide +kernel) (pa_cons (pv 6) pa_nil)))))))) pss_nil)
 (pss_one (ps_ret (pe_op op_uAdd (pv 6) (pe_op op_uMul2 (pe_tup (pa_cons (pe_op op_mod (pe_callTy call_int1 (by rfl) T.no_int (by decide +kernel) (pa_cons (pe_ix ix_seq (pv 0) pe_int (fun _ _ => rfl)) pa_nil)) (pv 1)) pa_nil)) (pe_op op_mod (pe_callTy call_int1 (by rfl) T.no_int (by decide +kernel) (pa_cons (pe_ix ix_seq (pv 0) pe_int (fun _ _ => rfl)) pa_nil)) pe_int)))))))))), ?_⟩
  intro x
  obtain ⟨⟨D, n, A, B⟩, hD, hn, hA, hB, hw⟩ := x
  have hD : 11 ≤ D.length := hD
  have hn : 1 ≤ n := hn
  have hA : 1 ≤ A.length := hA
  have hB : 1 ≤ B.length := hB
  have hz : (sizeLine : Nat) = 16777216 := sizeLine_eq
  obtain ⟨u1, u2⟩ := hw _ (baseW_mem (D := D) hA hB)
  have dr : ∀ {G : Gm} {te : TE} {k : Nat}, G[0]? = some (.im (isD (.list (D.map .int)))) → k < 11 → Sv te G (isD (.int (k : Int))) → Sv (tCB cInt (tCons (tOp (rIx K) (tVar 0) te) tNil)) G (isD (.int (atD D k))) := fun {G te k} h hk ht => sv_int1 (sv_ixL (i := ((k : Nat) : Int)) (rl_sv (sv_var h)) ht (atI_ints (ds := D) (k := k) (by omega)))
  show Mini.Ans _ _ [.im (isD (.list (D.map .int))), .im (isD (.int n)), .im (isD (.list (wD A))), .im (isD (.list (wD B))), .no, .no, .no, .no] (.ok (isD (.tuple ((lettersF D n A B).map .int))))
  have a0 := Int.emod_nonneg (atD D 1) (show (9 : Int) ≠ 0 by decide)
  have a1 := Int.emod_lt_of_pos (atD D 1) (show (0 : Int) < 9 by decide)
  have c0 := Int.emod_nonneg (atD D 4) (show (4 : Int) ≠ 0 by decide)
  have c1 := Int.emod_lt_of_pos (atD D 4) (show (0 : Int) < 4 by decide)
  have e0 := Int.emod_nonneg (atD D 2) (show (2 : Int) ≠ 0 by decide)
  have e1 := Int.emod_lt_of_pos (atD D 2) (show (0 : Int) < 2 by decide)
  refine .ok (ss_seq (ss_par (P' := isD (.list [.list (wD A), .list (wD B)])) (sv_mod (dr (k := 0) rfl (by omega) sv_int) sv_int (by decide)) (sv_svl (svl_lst (ds := [.list (wD A), .list (wD B)]) (sa_ims (sv_var rfl) (sa_ims (sv_var rfl) sa_nil)) (by show 2 ≤ sizeLine; decide)))) ?_)
  have tw : ∀ {G : Gm} {k : Int}, G[4]? = some (.im (isD (.int (atD D 0 % 4)))) → St' (tTest (tOp (rEqD K) (tVar 4) (tC (.int k)))) G (decide (atD D 0 % 4 = k)) := fun h => st_test (sv_eqI (sv_var h) sv_int)
  unfold lettersF
  by_cases w0 : atD D 0 % 4 = 0
  · rw [if_pos w0]
    refine ss_seqRt (ss_if1 (st_is (tw rfl) (decide_eq_true w0)) (ss_ret (sv_tupleL (rl_svl (svl_is (svl_lcMapR (j := 7) (n := 1 + atD D 1 % 9) (sv_add sv_int (sv_mod (dr (k := 1) rfl (by omega) sv_int) sv_int (by decide))) (fun k => .int (atD D (2 + k) % n)) (Nat.le_of_ble_eq_true rfl) (by omega) (by omega) fun k hk => ?_) (by rw [List.map_map]; rfl))))))
    exact sv_mod (dr (k := 2 + k) rfl (by omega) (sv_is (sv_add sv_int (sv_var rfl)) (by rw [Int.natCast_add]; rfl))) (sv_var rfl) (by omega)
  rw [if_neg w0]
  refine ss_seq (ss_if0 (st_is (tw rfl) (decide_eq_false w0)) ss_next) ?_
  have bks : ∀ {G : Gm}, G[0]? = some (.im (isD (.list (D.map .int)))) → G[5]? = some (.im (isD (.list [.list (wD A), .list (wD B)]))) → Sv (tOp (rIx K) (tVar 5) (tOp (rI (fun _ j => 0 < j) fun i j => .int (i % j)) (tCB cInt (tCons (tOp (rIx K) (tVar 0) (tC (.int ((2 : Nat) : Int)))) tNil)) (tC (.int 2)))) G (isD (.list (wD (if atD D 2 % 2 = 0 then A else B)))) := fun h0 h5 => by
    refine sv_ixL (rl_sv (sv_var h5)) (sv_mod (dr (k := 2) h0 (by omega) sv_int) sv_int (by decide)) ?_
    have h : atD D 2 % 2 = 0 ∨ atD D 2 % 2 = 1 := by omega
    rcases h with h | h <;> rw [h] <;> rfl
  have lX : ∀ W : List (List Int), (wD W).length = W.length := wD_len
  refine ss_seq (ss_set (P := isD (.tuple ((baseW D A B).map .int))) (sv_ixL (rl_sv (bks rfl rfl)) (sv_mod (dr (k := 3) rfl (by omega) sv_int) (sv_lenL (rl_sv (bks rfl rfl))) (by rw [lX]; split <;> omega)) ?_)) ?_
  · rw [lX]
    unfold baseW
    have hX : 1 ≤ (if atD D 2 % 2 = 0 then A else B).length := by split <;> assumption
    generalize (if atD D 2 % 2 = 0 then A else B) = X at hX
    have h0 := Int.emod_nonneg (atD D 3) (show (X.length : Int) ≠ 0 by omega)
    have h1 := Int.emod_lt_of_pos (atD D 3) (show (0 : Int) < (X.length : Int) by omega)
    exact at_wD h0 h1
  generalize baseW D A B = u at u1 u2
  have b0 := Int.emod_nonneg (atD D 4) (show (u.length : Int) ≠ 0 by omega)
  have b1 := Int.emod_lt_of_pos (atD D 4) (show (0 : Int) < (u.length : Int) by omega)
  have lu : (u.map PyData.int).length = u.length := List.length_map _
  by_cases w1 : atD D 0 % 4 = 1
  · rw [if_pos w1]
    refine ss_seqRt (ss_if1 (st_is (tw rfl) (decide_eq_true w1)) (ss_ret (sv_is (sv_sliceT (sv_var rfl) (so_some (sv_is (sv_mod (dr (k := 4) rfl (by omega) sv_int) (sv_lenT (ds := u.map .int) (sv_var rfl)) (by rw [lu]; omega)) (by rw [lu]))) so_none) ?_)))
    rw [cut_drop _ b0, List.map_drop]
  rw [if_neg w1]
  refine ss_seq (ss_if0 (st_is (tw rfl) (decide_eq_false w1)) ss_next) ?_
  by_cases w2 : atD D 0 % 4 = 2
  · rw [if_pos w2]
    refine ss_seqRt (ss_if1 (st_is (tw rfl) (decide_eq_true w2)) (ss_ret (sv_is (sv_sliceT (sv_var rfl) so_none (so_some (sv_is (sv_add sv_int (sv_mod (dr (k := 4) rfl (by omega) sv_int) (sv_lenT (ds := u.map .int) (sv_var rfl)) (by rw [lu]; omega))) (by rw [lu])))) ?_)))
    rw [cut_take _ (by omega), List.map_take]
  rw [if_neg w2]
  refine ss_seq (ss_if0 (st_is (tw rfl) (decide_eq_false w2)) ss_next) ?_
  refine ss_ret (sv_is (sv_catT (sv_var rfl) (sv_repT2 (ds := [.int (atD D 5 % n)]) (sv_tup (ds := [.int (atD D 5 % n)]) (sa_ims (sv_mod (dr (k := 5) rfl (by omega) sv_int) (sv_var rfl) (by omega)) sa_nil) (by show 1 ≤ sizeLine; decide)) (sv_mod (dr (k := 4) rfl (by omega) sv_int) sv_int (by decide)) (by simp) c0 (by show (1 : Int) * (atD D 4 % 4) ≤ 1000000; omega)) ?_) ?_)
  · rw [lu, rep_one, List.length_replicate]; omega
  · rw [rep_one, List.map_append, List.map_replicate]
end
end K10

namespace K10
open PySem L2 Evl Mini PyProof.Rows
theorem fil_none {f : Nat → Bool} : ∀ {n : Nat}, (∀ j, j < n → f j = false) → fil f n = []
  | 0, _ => rfl
  | n + 1, h => by rw [fil_succ, fil_none fun j hj => h j (by omega), h n (by omega)]; rfl
theorem fil_one {f : Nat → Bool} {k : Nat} (hf : f k = true) : ∀ {n : Nat}, k < n → (∀ j, j < n → f j = true → j = k) → fil f n = [k]
  | 0, h, _ => absurd h (Nat.not_lt_zero _)
  | n + 1, h, u => by
    rw [fil_succ]
    by_cases e : k = n
    · subst e
      rw [if_pos hf, fil_none fun j hj => ?_]
      · rfl
      · cases z : f j with
        | false => rfl
        | true => have := u j (by omega) z; omega
    · rw [if_neg, fil_one hf (by omega) fun j hj => u j (by omega)]
      intro z
      exact e (u n (by omega) z).symm
def dueK (W : List (List Int)) (w : List Int) (s : Int) : PyData := match fil (mtF W w) W.length with
  | [k] => if 0 < ((W.getD k []).drop (shF (W.getD k []) w)).length then .tuple [.int (k : Int), restT (1 - s) ((W.getD k []).drop (shF (W.getD k []) w))]
      else if 0 < (w.drop (shF (W.getD k []) w)).length then .tuple [.int (k : Int), restT s (w.drop (shF (W.getD k []) w))] else .tuple [.int (k : Int), .tuple [.str "even", .tuple []]]
  | _ => .none
theorem sh_pos {c w : List Int} (h1 : 1 ≤ c.length) (h2 : 1 ≤ w.length) : 1 ≤ shF c w := by unfold shF; split <;> omega
theorem mtF_hd {W : List (List Int)} {w : List Int} {k : Nat} (hc : 1 ≤ (W.getD k []).length) (hw : 1 ≤ w.length) (h : mtF W w k = true) : hdW W k = w.getD 0 0 := by
  have h : (W.getD k []).take (shF (W.getD k []) w) = w.take (shF (W.getD k []) w) := of_decide_eq_true h
  have hp := sh_pos hc hw
  unfold hdW
  generalize W.getD k [] = c at *
  generalize shF c w = sh at *
  cases c with
  | nil => simp at hc
  | cons a c => cases w with
    | nil => simp at hw
    | cons b w => cases sh with
      | zero => omega
      | succ sh => rw [List.take_succ_cons, List.take_succ_cons] at h; injection h with h _
theorem mtF_iff {W : List (List Int)} {w : List Int} {k : Nat} : mtF W w k = decide (w.take (W.getD k []).length = (W.getD k []).take w.length) := by
  unfold mtF
  generalize W.getD k [] = c
  refine decide_eq_decide.mpr ?_
  unfold shF
  by_cases h : w.length < c.length
  · rw [if_pos h, List.take_of_length_le (Nat.le_of_lt h) (l := w), List.take_of_length_le (Nat.le_refl _)]
    exact ⟨Eq.symm, Eq.symm⟩
  · rw [if_neg h, List.take_of_length_le (Nat.le_of_not_lt h) (l := c), List.take_of_length_le (Nat.le_refl _)]
    exact ⟨Eq.symm, Eq.symm⟩
theorem after_due {A B : List (List Int)} {w : List Int} {s : Int} (ha : apartB (oth A B s) = true) (hW : ∀ u ∈ oth A B s, 1 ≤ u.length) (hw : 1 ≤ w.length) : afterD A B s w = dueK (oth A B s) w s := by
  unfold afterD dueK
  generalize oth A B s = W at *
  have hi := hi_of ha
  have gm : ∀ j, j < W.length → 1 ≤ (W.getD j []).length := fun j hj => hW _ (getD_mem (k := (j : Int)) (by omega) (by omega))
  cases hk : headK W (w.getD 0 0) with
  | none =>
    rw [fil_none]
    intro j hj
    cases z : mtF W w j with
    | false => rfl
    | true => rw [headK_iff hi _ hj (mtF_hd (gm j hj) hw z)] at hk; cases hk
  | some k =>
    obtain ⟨k0, k1⟩ := headK_lt hk
    have hh := headK_hd hi hk
    obtain ⟨n, rfl⟩ : ∃ n : Nat, k = n := ⟨k.toNat, by omega⟩
    rw [Int.toNat_natCast] at hh
    have hn : n < W.length := by omega
    have un : ∀ j, j < W.length → mtF W w j = true → j = n := fun j hj z => hi j n hj hn ((mtF_hd (gm j hj) hw z).trans hh.symm)
    dsimp only
    rw [Int.toNat_natCast]
    have hm := mtF_iff (W := W) (w := w) (k := n)
    by_cases ce : w.take (W.getD n []).length = (W.getD n []).take w.length
    · rw [decide_eq_true ce] at hm
      rw [if_pos ce, fil_one hm hn un]
      dsimp only
      generalize W.getD n [] = c
      unfold shF restD
      by_cases hl : c.length ≤ w.length
      · rw [if_pos hl, if_neg (show ¬ w.length < c.length by omega), List.length_drop, List.length_drop, if_neg (show ¬ 0 < c.length - c.length by omega)]
        by_cases e : c.length = w.length
        · rw [if_pos e, if_neg (show ¬ 0 < w.length - c.length by omega)]
        · rw [if_neg e, if_pos (show 0 < w.length - c.length by omega)]; rfl
      · rw [if_neg hl, if_pos (show w.length < c.length by omega), List.length_drop, List.length_drop, if_pos (show 0 < c.length - w.length by omega), if_neg (show ¬ w.length = c.length by omega)]; rfl
    · rw [decide_eq_false ce] at hm
      rw [if_neg ce, fil_none]
      intro j hj
      cases z : mtF W w j with
      | false => rfl
      | true => have := un j hj z; subst this; rw [hm] at z; cases z
theorem due_cases {W : List (List Int)} {w : List Int} (hl : ∀ u ∈ W, u.length ≤ 5000) (hw : w.length ≤ 5000) : (∀ s, dueK W w s = .none) ∨ (∃ k : Nat, ∀ s, dueK W w s = .tuple [.int (k : Int), .tuple [.str "even", .tuple []]]) ∨ (∃ (k : Nat) (x : List Int), x.length ≤ 5000 ∧ ∀ s, dueK W w s = .tuple [.int (k : Int), restT s x]) ∨ (∃ (k : Nat) (x : List Int), x.length ≤ 5000 ∧ ∀ s, dueK W w s = .tuple [.int (k : Int), restT (1 - s) x]) := by
  unfold dueK
  split
  · rename_i k hk
    have hm : k ∈ fil (mtF W w) W.length := by rw [hk]; exact List.mem_cons_self
    have hk : k < W.length := List.mem_range.mp (List.mem_filter.mp hm).1
    have hx := hl _ (getD_mem (W := W) (k := (k : Int)) (by omega) (by omega))
    rw [Int.toNat_natCast] at hx
    generalize W.getD k [] = c at *
    split
    · exact .inr (.inr (.inr ⟨k, _, by rw [List.length_drop]; omega, fun _ => rfl⟩))
    split
    · exact .inr (.inr (.inl ⟨k, _, by rw [List.length_drop]; omega, fun _ => rfl⟩))
    · exact .inr (.inl ⟨k, fun _ => rfl⟩)
  · exact .inl fun _ => rfl
/-! what is told is of four levels -/
abbrev Q4 : PyData → Prop := Q_up (Q_up (Q_up (Q_up Q_no)))
theorem qI {Q : PyData → Prop} {i : Int} : Q_up Q (.int i) := .inl trivial
theorem qB {Q : PyData → Prop} {b : Bool} : Q_up Q (.bool b) := .inl trivial
theorem qN {Q : PyData → Prop} : Q_up Q .none := .inl trivial
theorem qS {Q : PyData → Prop} (s : Int) : Q_up Q (.str (sideS s)) := .inl (by unfold sideS; split <;> (show PyData.strOk _ = true; decide +kernel))
theorem qE {Q : PyData → Prop} : Q_up Q (.str "even") := .inl (show PyData.strOk _ = true by decide +kernel)
theorem qT {Q : PyData → Prop} {l : List Int} (h : l.length ≤ 5000) : Q_up (Q_up Q) (.tuple (l.map .int)) := .inr ⟨_, .inl rfl, by rw [List.length_map]; omega, fun e he => by obtain ⟨v, _, rfl⟩ := List.mem_map.mp he; exact qI⟩
theorem q2 {Q : PyData → Prop} {a b : PyData} (ha : Q a) (hb : Q b) : Q_up Q (.tuple [a, b]) := .inr ⟨_, .inl rfl, by show 2 < 1000000; decide, fun e he => by
  simp only [List.mem_cons, List.not_mem_nil, or_false] at he
  rcases he with rfl | rfl <;> assumption⟩
theorem qR {Q : PyData → Prop} {s : Int} {l : List Int} (h : l.length ≤ 5000) : Q_up (Q_up (Q_up Q)) (restT s l) := q2 (qS s) (qT h)
theorem qBs {Q : PyData → Prop} {a b : Bool} : Q_up (Q_up Q) (.list [.bool a, .bool b]) := .inr ⟨_, .inr rfl, by show 2 < 1000000; decide, fun e he => by
  simp only [List.mem_cons, List.not_mem_nil, or_false] at he
  rcases he with rfl | rfl <;> exact qB⟩
theorem qDue {W : List (List Int)} {w : List Int} (hl : ∀ u ∈ W, u.length ≤ 5000) (hw : w.length ≤ 5000) (s : Int) : Q4 (dueK W w s) := by
  rcases due_cases hl hw with h | ⟨k, h⟩ | ⟨k, x, hx, h⟩ | ⟨k, x, hx, h⟩ <;> rw [h s]
  · exact qN
  · exact q2 qI (q2 qE (qT (l := []) (Nat.zero_le _)))
  · exact q2 qI (qR hx)
  · exact q2 qI (qR hx)
theorem GoodW.drop {W : List (List Int)} {n : Int} (h : GoodW W n) : ∀ u ∈ W, 1 ≤ u.length ∧ u.length ≤ 5000 := fun u hu => ⟨(h.2 u hu).1, (h.2 u hu).2.1⟩
section
variable {P : Program} {w : World} {K : PySem.W.Frag} {mg : Str → Option Value} {base : Heap} {cAE cBB cBT cNA cBk cPr cRd aE0 aEV aSI : Addr}
end
end K10

namespace K10
open PySem L2 Evl Mini PyProof.Rows
theorem shS (s : Str) (h : PyData.strOk s = true) : SeqAt.shaped (.str s) = true := by
  unfold SeqAt.shaped
  rw [Bool.and_eq_true]
  exact ⟨by rw [PyData.canLay0]; exact h, decide_eq_true (by rw [PyData.depth]; omega)⟩
theorem okS (s : Int) : PyData.strOk (sideS s) = true := by unfold sideS; split <;> decide +kernel
theorem eqvS (a b : Str) : PyData.eqv (.str a) (.str b) = decide (a = b) := by
  rw [PyData.eqv]
  first
  | rfl
  | exact Bool.eq_iff_iff.mpr (by rw [beq_iff_eq, decide_eq_true_iff])
def dueI (W : List (List Int)) (w : List Int) (s : Int) (k : Nat) : PyData := if 0 < ((W.getD k []).drop (shF (W.getD k []) w)).length then .tuple [.int (k : Int), restT (1 - s) ((W.getD k []).drop (shF (W.getD k []) w))]
      else if 0 < (w.drop (shF (W.getD k []) w)).length then .tuple [.int (k : Int), restT s (w.drop (shF (W.getD k []) w))] else .tuple [.int (k : Int), .tuple [.str "even", .tuple []]]
theorem due_two (W : List (List Int)) (w : List Int) (s : Int) : (dueD W w = .none ∧ dueK W w s = .none) ∨ ∃ k, dueD W w = itemD W w k ∧ dueK W w s = dueI W w s k := by
  unfold dueD dueK
  generalize fil (mtF W w) W.length = F
  match F with
  | [] => exact .inl ⟨rfl, rfl⟩
  | [k] => exact .inr ⟨k, rfl, rfl⟩
  | _ :: _ :: _ => exact .inl ⟨rfl, rfl⟩
theorem sv_is' {K : PySem.W.Frag} {a : TE} {G : Gm} {d e : PyData} (h : Sv a G (isP K d)) (hd : d = e) : Sv a G (isP K e) := hd ▸ h
section
variable {P : Program} {w : World} {K : PySem.W.Frag} {mg : Str → Option Value} {base : Heap} {cAE cBB cBT cNA cBk cPr cRd aE0 aEV aSI : Addr}
def S_law (K : PySem.W.Frag) : Fs := ⟨{ns : List Int // ns.length ≤ 63}, 1, fun x => [.im (isS K x.1)], fun _ => rfl, fun _ => .ok (isD (.bool true))⟩
abbrev st_law : Stmt := top 42
theorem sc_law : FnScope ["script", "draws", "letters", "one", "two", "pair", "turn", "word", "side", "found", "due", "wrong", "value", "double"] ["script"] (defScope st_law) := ⟨rfl, rfl, rfl, by decide +kernel, rfl, by decide +kernel, by decide +kernel⟩
theorem ok_law {f : Addr} {fd : FuncData} (T : Txt K mg cAE cBB cBT cNA cBk cPr cRd aE0 aEV aSI) (F__law_draws : FnC P w K mg base 1 "_law_draws" (spF (S_law_draws K))) (F__law_pair : FnC P w K mg base 2 "_law_pair" (spF (S_law_pair))) (K_Pair : MkC P w K mg base 1 cPr "Pair" (spN cPr (S_Pair cBk cBB))) (K_Book : MkC P w K mg base 4 cBk "Book" (spN cBk (S_Book cBB))) (F__law_letters : FnC P w K mg base 1 "_law_letters" (spF (S_law_letters))) (F__law_due : FnC P w K mg base 1 "_law_due" (spF (S_law_due))) (F__law_same_as : FnC P w K mg base 5 "_law_same_as" (spF (S_sameP K (Q_up (Q_up (Q_up (Q_up Q_no))))))) (F__law_told : FnC P w K mg base 5 "_law_told" (spF (S_law_told K cBk cPr))) (M_Pair_swapped : MtC P w K mg base 3 cPr "swapped" (spF (S_swapped cBk cPr))) (F : Fun K "law" "law" st_law f fd) : FnOk P w K mg base (L2.CX P w) 6 f fd ["script"] (spF (S_law K)) := by
  refine fn_ok F sc_law rfl fun cdv A outer s H E hr => ?_
  have tk : Takes (cxD P w K mg base ["script", "draws", "letters", "one", "two", "pair", "turn", "word", "side", "found", "due", "wrong", "value", "double"] "law" st_law f cdv A outer s H E) (fun cls d _ H => E cls d H) := takes_of rfl rfl rfl rfl
  have hx := pxM tk
  have nd := sc_law.nd
  refine ⟨_, (pss_cons (ps_set (i := 1) nd rfl (Or.inl rfl) (pe_fn F__law_draws hr hx (pa_cons (pv 0) (pa_cons pe_int pa_nil))))
 (pss_cons (ps_set (i := 2) nd rfl (Or.inl rfl) (pe_op op_uAdd pe_int (pe_op op_mod (pe_callTy call_int1 (by rfl) T.no_int (by decide +kernel) (pa_cons (pe_ix ix_seq (pv 1) pe_int (fun _ _ => rfl)) pa_nil)) pe_int)))
 (pss_cons (ps_asg (pe_fn F__law_pair hr hx (pa_cons (pv 1) (pa_cons (pv 2) (pa_cons pe_int pa_nil)))) (pg_tup rfl (pgs_cons (pg_name (i := 3) nd rfl (Or.inl rfl)) (pgs_cons (pg_name (i := 4) nd rfl (Or.inl rfl)) pgs_nil))))
 (pss_cons (ps_set (i := 5) nd rfl (Or.inl rfl) (pe_mk K_Pair hr hx (pa_cons (pe_mk K_Book hr hx (pa_cons (pv 2) (pa_cons (pv 3) pa_nil))) (pa_cons (pe_mk K_Book hr hx (pa_cons (pv 2) (pa_cons (pv 4) pa_nil))) pa_nil))))
 (pss_cons (ps_for (passes_of rfl) rfl (pi_range1 (by rfl) T.no_range (pa_cons pe_int pa_nil)) (pg_name (i := 6) nd rfl (Or.inl rfl)) (pss_cons (ps_set (i := 7) nd rfl (Or.inl rfl) (pe_fn F__law_letters hr hx (pa_cons (pe_slice sl_uSl (pv 1) (po_some (pe_op op_uAdd pe_int (pe_op op_uMul pe_int (pv 6)))) po_none) (pa_cons (pv 2) (pa_cons (pv 3) (pa_cons (pv 4) pa_nil))))))
 (pss_one (ps_for (passes_of rfl) rfl (pi_list (pe_lst (pa_cons pe_str (pa_cons pe_str pa_nil)))) (pg_name (i := 8) nd rfl (Or.inl rfl)) (pss_cons (ps_par (i := 9) (j := 10) rfl nd rfl rfl (by decide) rfl rfl (pa_cons (pe_fn F__law_due hr hx (pa_cons (pe_ix ix_seq (pe_lst (pa_cons (pv 3) (pa_cons (pv 4) pa_nil))) (pe_callTy call_int1 (by rfl) T.no_int (by decide +kernel) (pa_cons (pe_cmpR (op_eqD hr.units) (pv 8) pe_str (nomark _)) pa_nil)) (fun _ _ => rfl)) (pa_cons (pv 7) pa_nil))) (pa_cons pe_non pa_nil)) (by rfl))
 (pss_cons (ps_if (pt_cmpR op_notN (pv 9) pe_non (nomark _)) (pss_cons (ps_set (i := 10) nd rfl (Or.inl rfl) (pe_tup (pa_cons (pe_ix ix_seq (pv 9) pe_int (fun _ _ => rfl)) (pa_cons (pe_tup (pa_cons pe_str (pa_cons (pe_tup pa_nil) pa_nil))) pa_nil))))
 (pss_cons (ps_if (pt_cmpR op_gt (pe_callB call_len (by rfl) T.no_len (by decide +kernel) (pa_cons (pe_ix ix_seq (pv 9) pe_int (fun _ _ => rfl)) pa_nil)) pe_int (nomark _)) (pss_one (ps_set (i := 10) nd rfl (Or.inl rfl) (pe_tup (pa_cons (pe_ix ix_seq (pv 9) pe_int (fun _ _ => rfl)) (pa_cons (pe_tup (pa_cons (pv 8) (pa_cons (pe_ix ix_seq (pv 9) pe_int (fun _ _ => rfl)) pa_nil))) pa_nil))))) pss_nil)
 (pss_one (ps_if (pt_cmpR op_gt (pe_callB call_len (by rfl) T.no_len (by decide +kernel) (pa_cons (pe_ix ix_seq (pv 9) pe_int (fun _ _ => rfl)) pa_nil)) pe_int (nomark _)) (pss_one (ps_set (i := 10) nd rfl (Or.inl rfl) (pe_tup (pa_cons (pe_ix ix_seq (pv 9) pe_int (fun _ _ => rfl)) (pa_cons (pe_tup (pa_cons (pe_ix ix_seq (pe_lst (pa_cons pe_str (pa_cons pe_str pa_nil))) (pe_callTy call_int1 (by rfl) T.no_int (by decide +kernel) (pa_cons (pe_cmpR (op_eqD hr.units) (pv 8) pe_str (nomark _)) pa_nil)) (fun _ _ => rfl)) (pa_cons (pe_ix ix_seq (pv 9) pe_int (fun _ _ => rfl)) pa_nil))) pa_nil))))) pss_nil)))) pss_nil)
 (pss_cons (ps_if (pt_not (pt_val (pe_fn F__law_same_as hr hx (pa_cons (pe_fn F__law_told hr hx (pa_cons (pv 5) (pa_cons (pe_tup (pa_cons (pv 8) (pa_cons (pv 7) pa_nil))) pa_nil))) (pa_cons (pv 10) pa_nil))))) (pss_one (ps_ret pe_bl)) pss_nil)
 (pss_cons (ps_if (PW.pt (pw_and (pt_cmpR op_notN (pv 10) pe_non (nomark _)) (pw_and1 (pt_cmpR (op_neD hr.units) (pe_ix ix_seq (pe_ix ix_seq (pv 10) pe_int (fun _ _ => rfl)) pe_int (fun _ _ => rfl)) pe_str (nomark _))))) (pss_one (ps_set (i := 10) nd rfl (Or.inl rfl) (pe_tup (pa_cons (pe_ix ix_seq (pv 10) pe_int (fun _ _ => rfl)) (pa_cons (pe_tup (pa_cons (pe_ix ix_seq (pe_lst (pa_cons pe_str (pa_cons pe_str pa_nil))) (pe_callTy call_int1 (by rfl) T.no_int (by decide +kernel) (pa_cons (pe_cmpR (op_eqD hr.units) (pe_ix ix_seq (pe_ix ix_seq (pv 10) pe_int (fun _ _ => rfl)) pe_int (fun _ _ => rfl)) pe_str (nomark _)) pa_nil)) (fun _ _ => rfl)) (pa_cons (pe_ix ix_seq (pe_ix ix_seq (pv 10) pe_int (fun _ _ => rfl)) pe_int (fun _ _ => rfl)) pa_nil))) pa_nil))))) pss_nil)
 (pss_one (ps_if (pt_not (pt_val (pe_fn F__law_same_as hr hx (pa_cons (pe_fn F__law_told hr hx (pa_cons (pe_mt0 (pv 5) M_Pair_swapped hr hx) (pa_cons (pe_tup (pa_cons (pe_ix ix_seq (pe_lst (pa_cons pe_str (pa_cons pe_str pa_nil))) (pe_callTy call_int1 (by rfl) T.no_int (by decide +kernel) (pa_cons (pe_cmpR (op_eqD hr.units) (pv 8) pe_str (nomark _)) pa_nil)) (fun _ _ => rfl)) (pa_cons (pv 7) pa_nil))) pa_nil))) (pa_cons (pv 10) pa_nil))))) (pss_one (ps_ret pe_bl)) pss_nil))))))))))
 (pss_cons (ps_set (i := 11) nd rfl (Or.inl rfl) (pe_lst (pa_cons (pe_tup (pa_cons pe_str (pa_cons (pe_tup pa_nil) pa_nil))) (pa_cons (pe_tup (pa_cons pe_str (pa_cons (pe_tup pa_nil) pa_nil))) (pa_cons (pe_tup (pa_cons pe_str (pa_cons (pe_tup (pa_cons pe_int pa_nil)) pa_nil))) (pa_cons (pe_tup (pa_cons pe_str (pa_cons (pe_lst (pa_cons pe_int pa_nil)) pa_nil))) (pa_cons (pe_lst (pa_cons pe_str (pa_cons (pe_tup (pa_cons pe_int pa_nil)) pa_nil))) (pa_cons (pe_tup (pa_cons pe_str (pa_cons (pe_tup (pa_cons (pv 2) pa_nil)) pa_nil))) (pa_cons (pe_tup (pa_cons pe_str (pa_cons (pe_tup (pa_cons pe_bl pa_nil)) pa_nil))) (pa_cons pe_non (pa_cons pe_int pa_nil)))))))))))
 (pss_cons (ps_set (i := 11) nd rfl (Or.inl rfl) (pe_op op_uAdd (pv 11) (pe_lst (pa_cons (pe_tup (pa_cons pe_str pa_nil)) (pa_cons (pe_tup (pa_cons pe_str (pa_cons (pe_tup (pa_cons pe_int pa_nil)) (pa_cons pe_int pa_nil)))) (pa_cons (pe_tup (pa_cons (pe_tup (pa_cons pe_str pa_nil)) (pa_cons (pe_tup (pa_cons pe_int pa_nil)) pa_nil))) (pa_cons (pe_tup (pa_cons pe_str (pa_cons (pe_op op_uMul (pe_tup (pa_cons pe_int pa_nil)) pe_int) pa_nil))) (pa_cons (pe_tup (pa_cons pe_str (pa_cons (pe_tup (pa_cons (pe_un un_neg pe_int) pa_nil)) pa_nil))) (pa_cons (pe_tup (pa_cons pe_str (pa_cons pe_int pa_nil))) pa_nil)))))))))
 (pss_cons (ps_for (passes_of rfl) rfl (pi_list (pv 11)) (pg_name (i := 12) nd rfl (Or.inl rfl)) (pss_one (ps_if (pt_not (pt_val (pe_fn F__law_same_as hr hx (pa_cons (pe_fn F__law_told hr hx (pa_cons (pv 5) (pa_cons (pv 12) pa_nil))) (pa_cons (pe_lst (pa_cons pe_bl (pa_cons pe_bl pa_nil))) pa_nil))))) (pss_one (ps_ret pe_bl)) pss_nil)))
 (pss_cons (ps_set (i := 13) nd rfl (Or.inl rfl) (pe_mk K_Pair hr hx (pa_cons (pe_mk K_Book hr hx (pa_cons (pv 2) (pa_cons (pe_lst (pa_cons (pe_tup (pa_cons pe_int pa_nil)) (pa_cons (pe_tup (pa_cons pe_int (pa_cons pe_int pa_nil))) pa_nil))) pa_nil))) (pa_cons (pe_mk K_Book hr hx (pa_cons (pv 2) (pa_cons (pv 4) pa_nil))) pa_nil))))
 (pss_one (ps_ret (pe_and (pe_fn F__law_same_as hr hx (pa_cons (pe_fn F__law_told hr hx (pa_cons (pv 13) (pa_cons (pe_tup (pa_cons pe_str (pa_cons (pe_tup (pa_cons pe_int pa_nil)) pa_nil))) pa_nil))) (pa_cons (pe_lst (pa_cons pe_bl (pa_cons pe_bl pa_nil))) pa_nil))) (pe_one (pe_fn F__law_same_as hr hx (pa_cons (pe_fn F__law_told hr hx (pa_cons (pe_mt0 (pv 13) M_Pair_swapped hr hx) (pa_cons pe_non pa_nil))) (pa_cons (pe_lst (pa_cons pe_bl (pa_cons pe_bl pa_nil))) pa_nil)))))))))))))))), ?_⟩
  intro x
  obtain ⟨ns, hl0⟩ := x
  have hl0 : ns.length ≤ 63 := hl0
  have hz : (sizeLine : Nat) = 16777216 := sizeLine_eq
  show Mini.Ans _ _ [.im (isS K ns), .no, .no, .no, .no, .no, .no, .no, .no, .no, .no, .no, .no, .no] (.ok (isD (.bool true)))
  have hDl : (drawsF ns 120).length = 120 := drawsF_len (by decide)
  have hDr : ∀ k, Dr (atD (drawsF ns 120) k) := atD_dr (drawsF_dr (by decide))
  have hDm : ∀ v ∈ drawsF ns 120, 0 ≤ v := fun v hv => (drawsF_dr (by decide) v hv).1
  refine .ok (ss_seq (ss_set (P := isD (.list ((drawsF ns 120).map .int))) (sv_svl (svl_call (S := S_law_draws K) (sa_im (sv_var rfl) (sa_im sv_int sa_nil)) ⟨(ns, 120), hl0, by show (0 : Int) ≤ 120; decide, by show (120 : Int) ≤ 1000; decide⟩ rfl rfl))) ?_)
  generalize drawsF ns 120 = D at hDl hDr hDm ⊢
  have hp : ∀ i, 0 ≤ atD D i := fun i => (hDr i).1
  have dr : ∀ {G : Gm} {te : TE} {k : Nat}, G[1]? = some (.im (isD (.list (D.map .int)))) → k < 120 → Sv te G (isD (.int (k : Int))) → Sv (tCB cInt (tCons (tOp (rIx K) (tVar 1) te) tNil)) G (isD (.int (atD D k))) := fun {G te k} h hk ht => sv_int1 (sv_ixL (i := ((k : Nat) : Int)) (rl_sv (sv_var h)) ht (atI_ints (ds := D) (k := k) (by omega)))
  refine ss_seq (ss_set (sv_add sv_int (sv_mod (dr (k := 119) rfl (by omega) sv_int) sv_int (by decide)))) ?_
  have hn1 : 1 ≤ 1 + atD D 119 % 6 := by have := Int.emod_nonneg (atD D 119) (show (6 : Int) ≠ 0 by decide); omega
  have hn6 : 1 + atD D 119 % 6 ≤ 6 := by have := Int.emod_lt_of_pos (atD D 119) (show (0 : Int) < 6 by decide); omega
  generalize 1 + atD D 119 % 6 = n at hn1 hn6 ⊢
  refine ss_seq (ss_unpT2 (sv_call (S := S_law_pair) (sa_im (sv_var rfl) (sa_im (sv_var rfl) (sa_im sv_int sa_nil))) ⟨(D, n, 7), by show 48 ≤ D.length; omega, hDm, ⟨hn1, hn6⟩, by show (1 : Int) ≤ 7; decide, by show (7 : Int) ≤ 900; decide⟩ rfl rfl)) ?_
  have pA := pair_one (D := D) (n := n) (g := 7) hn1 (by decide) hp 0
  have pB := pair_two (D := D) (n := n) (g := 7) hn1 (by decide) hp
  generalize rowsP D n 7 0 = A at pA ⊢
  generalize pairP D n 7 = B at pB ⊢
  have gA := pA.good hn6 (by decide)
  have gB := pB.good hn6 (by decide)
  have bA := pA.bk hn6 (by decide)
  have bB := pB.bk hn6 (by decide)
  have aA := pA.apart
  have aB := pB.apart
  have lA : 1 ≤ A.length := pA.len.1
  have lB : 1 ≤ B.length := pB.len.1
  have mkB : ∀ {G : Gm} {a b : TE} {W : List (List Int)}, GoodW W n → Sv a G (isD (.int n)) → Sv b G (isD (.list (wD W))) → Sv (tMk cBk (spN cBk (S_Book cBB)) (fun _ => E) (tCons a (tCons b tNil))) G (isI cBk (bookF (.int n) (wD W))) := fun {G a b W} g h h' =>
    sv_mk (S := S_Book cBB) (sa_im h (sa_im h' sa_nil)) ⟨(.int n, .inl (.list (wD W))), g.fits⟩ rfl (res_good _ rfl rfl (good_wD (by omega) (by omega) g))
  have mkP : ∀ {G : Gm} {a b : TE} {X Y : List (List Int)}, Sv a G (isI cBk (bookF (.int n) (wD X))) → Sv b G (isI cBk (bookF (.int n) (wD Y))) → Sv (tMk cPr (spN cPr (S_Pair cBk cBB)) (fun _ => E) (tCons a (tCons b tNil))) G (isI cPr (pairF cBk n (wD X) n (wD Y))) := fun {G a b X Y} h h' =>
    sv_mk (S := S_Pair cBk cBB) (sa_im h (sa_im h' sa_nil)) ((n, wD X), (n, wD Y)) rfl (if_pos rfl)
  have swp : ∀ {G : Gm} {te : TE} {X Y : List (List Int)}, Sv te G (isI cPr (pairF cBk n (wD X) n (wD Y))) → Sv (tMt cPr "swapped" (spF (S_swapped cBk cPr)) (fun _ => E) te tNil) G (isI cPr (pairF cBk n (wD Y) n (wD X))) := fun {G te X Y} h => sv_mt (S := S_swapped cBk cPr) h (pairF_no rfl) sa_nil (n, wD X, wD Y) rfl rfl
  have tld : ∀ {G : Gm} {a b : TE} {X Y : List (List Int)} (r : AR), BkOk X → BkOk Y → r.ok X Y n → Sv a G (isI cPr (pairF cBk n (wD X) n (wD Y))) → Sv b G (isD r.d) → Sv (tCallS (spF (S_law_told K cBk cPr)) (fun _ => E) (tCons a (tCons b tNil))) G (isP K (toldP X Y r)) := fun {G a b X Y} r h1 h2 h3 h h' =>
    sv_call (S := S_law_told K cBk cPr) (sa_im h (sa_im h' sa_nil)) ⟨((n, X, Y), r), h1, h2, h3⟩ rfl rfl
  have sv : ∀ {G : Gm} {a b : TE} {d : PyData}, Q4 d → Sv a G (isP K d) → Sv b G (isD d) → Sv (tCallS (spF (S_sameP K Q4)) (fun _ => E) (tCons a (tCons b tNil))) G (isD (.bool true)) := fun {G a b d} q h h' =>
    sv_call (S := S_sameP K Q4) (sa_im h (sa_im h' sa_nil)) ⟨d, q⟩ rfl rfl
  have eqF : ∀ {G : Gm} {te : TE} {s : Int}, s = 0 ∨ s = 1 → Sv te G (isD (.str (sideS s))) → Sv (tCB cInt (tCons (tOp (rEqD K) te (tC (.str "first"))) tNil)) G (isD (.int (1 - s))) := fun {G te s} hs h => by
    refine sv_is (sv_intB (b := decide (sideS s = "first")) (sv_is (sv_eq (d := .str (sideS s)) (e := .str "first") h sv_str (shS _ (okS s)) (shS _ (okS 0))) (by rw [eqvS]))) ?_
    rcases hs with rfl | rfl
    · rw [if_pos (by decide)]; rfl
    · rw [if_neg (by decide)]; rfl
  have flip : ∀ {G : Gm} {te : TE} {s : Int}, s = 0 ∨ s = 1 → Sv te G (isD (.str (sideS s))) → Sv (tOp (rIx K) (tLst (tCons (tC (.str "first")) (tCons (tC (.str "second")) tNil))) (tCB cInt (tCons (tOp (rEqD K) te (tC (.str "first"))) tNil))) G (isD (.str (sideS (1 - s)))) := fun {G te s} hs h =>
    sv_ixL (rl_svl (svl_lst (ds := [.str "first", .str "second"]) (sa_ims sv_str (sa_ims sv_str sa_nil)) (by show 2 ≤ sizeLine; decide))) (eqF hs h) (by rcases hs with rfl | rfl <;> rfl)
  refine ss_seq (ss_set (mkP (mkB gA (sv_var rfl) (sv_var rfl)) (mkB gB (sv_var rfl) (sv_var rfl)))) ?_
  let G0 : Gm := [.im (isS K ns), .im (isD (.list (D.map .int))), .im (isD (.int n)), .im (isD (.list (wD A))), .im (isD (.list (wD B))), .im (isI cPr (pairF cBk n (wD A) n (wD B))), .no, .no, .no, .no, .no, .no, .no, .no]
  refine ss_seq (G1 := G0) ?_ ?_
  · refine ss_forR (j := 6) (n := 4) sv_int (by decide) (fun _ => G0) 4 (Nat.le_refl _) (Le.refl _) (fun _ _ => Nat.le_of_ble_eq_true rfl) (fun i hi => ?_) (.inl ⟨rfl, rfl⟩)
    refine .inl ?_
    have hlt := lettersF_ok (D := D.drop (54 + 12 * i)) (n := n) (A := A) (B := B) hn1 lA lB (fun w hw => by
      rcases hw with z | z
      · obtain ⟨a, b, c⟩ := pA.wds w z; exact ⟨a, by omega, c⟩
      · obtain ⟨a, b, c⟩ := pB.wds w z; exact ⟨a, by omega, c⟩)
    refine ss_seq (ss_set (P := isD (.tuple ((lettersF (D.drop (54 + 12 * i)) n A B).map .int))) (sv_call (S := S_law_letters) (sa_im (P := isD (.list ((D.drop (54 + 12 * i)).map .int))) ?_ (sa_im (sv_var rfl) (sa_im (sv_var rfl) (sa_im (sv_var rfl) sa_nil)))) ⟨(D.drop (54 + 12 * i), n, A, B), by show 11 ≤ (D.drop (54 + 12 * i)).length; rw [List.length_drop]; omega, hn1, lA, lB, fun w hw => ?_⟩ rfl rfl)) ?_
    · have ed : cutD (D.map PyData.int) (some (54 + 12 * (i : Int))) none = (D.drop (54 + 12 * i)).map .int := by
        rw [cut_drop _ (by omega), ← List.map_drop]
        congr 2
      exact sv_is (d := .list (cutD (D.map PyData.int) (some (54 + 12 * (i : Int))) none)) (sv_svl (svl_slice (rl_sv (sv_var rfl)) (so_some (sv_add sv_int (sv_mul sv_int (sv_var rfl) (.inl ⟨by decide, by decide⟩)))) so_none)) (by rw [ed])
    · rcases hw with z | z
      · obtain ⟨a, b, c⟩ := pA.wds w z; exact ⟨a, by omega⟩
      · obtain ⟨a, b, c⟩ := pB.wds w z; exact ⟨a, by omega⟩
    generalize lettersF (D.drop (54 + 12 * i)) n A B = w at hlt ⊢
    obtain ⟨w1, w2, w3⟩ := hlt
    let G1 : Gm := [.im (isS K ns), .im (isD (.list (D.map .int))), .im (isD (.int n)), .im (isD (.list (wD A))), .im (isD (.list (wD B))), .im (isI cPr (pairF cBk n (wD A) n (wD B))), .im (isD (.int (i : Int))), .im (isD (.tuple (w.map .int))), .no, .no, .no, .no, .no, .no]
    refine ss_nxLe (G1 := G1) ?_ (Le.eq (Le.eq (Le.eq (Le.eq (Le.eq (Le.eq (Le.no (Le.no (Le.refl _)))))))))
    refine ss_forL (K := K) (j := 8) (ds := [.str "first", .str "second"]) (sv_svl (svl_lst (ds := [.str "first", .str "second"]) (sa_ims sv_str (sa_ims sv_str sa_nil)) (by show 2 ≤ sizeLine; decide))) (fun _ => G1) 2 (Nat.le_refl _) (Le.refl _) (fun _ _ => Nat.le_of_ble_eq_true rfl) (fun m d hd _ => ?_) (.inl ⟨rfl, rfl⟩)
    obtain ⟨s, hs, rfl⟩ : ∃ s : Int, (s = 0 ∨ s = 1) ∧ d = .str (sideS s) := by
      have := List.mem_of_getElem? hd
      simp only [List.mem_cons, List.not_mem_nil, or_false] at this
      rcases this with h | h
      · exact ⟨0, .inl rfl, h⟩
      · exact ⟨1, .inr rfl, h⟩
    refine .inl ?_
    have oX : ∀ {P : List (List Int) → Prop}, P A → P B → P (oth A B s) := fun {P} a b => by unfold oth; split <;> assumption
    have oW : oth B A (1 - s) = oth A B s := by rcases hs with rfl | rfl <;> rfl
    have ow := oX (P := BkOk) bA bB
    have oa := oX (P := fun W => apartB W = true) aA aB
    have oi : atI [PyData.list (wD A), PyData.list (wD B)] (1 - s) = some (.list (wD (oth A B s))) := by rcases hs with rfl | rfl <;> rfl
    have k1 := after_due (A := A) (B := B) (w := w) (s := s) oa (fun u hu => (ow.2 u hu).1) w1
    have k2 := after_due (A := B) (B := A) (w := w) (s := 1 - s) (by rw [oW]; exact oa) (fun u hu => by rw [oW] at hu; exact (ow.2 u hu).1) w1
    rw [oW] at k2
    have hl5 : ∀ u ∈ oth A B s, u.length ≤ 5000 := fun u hu => (ow.2 u hu).2
    generalize oth A B s = W at *
    have t2 : ∀ {G : Gm} {a b : TE} {d e : PyData}, Sv a G (isD d) → Sv b G (isD e) → Sv (tTup (tCons a (tCons b tNil))) G (isD (.tuple [d, e])) := fun {G a b d e} h h' => sv_tup (ds := [d, e]) (sa_ims h (sa_ims h' sa_nil)) (by show 2 ≤ sizeLine; decide)
    have fe : ∀ {G : Gm}, Sv (tTup tNil) G (isD (.tuple (([] : List Int).map .int))) := fun {G} => sv_tup (ds := []) sa_nil (Nat.zero_le _)
    refine ss_seq (ss_par (P := isD (dueD W w)) (P' := isD .none) (sv_call (S := S_law_due) (sa_im (sv_ixL (d := .list (wD W)) (rl_svl (svl_lst (ds := [.list (wD A), .list (wD B)]) (sa_ims (sv_var rfl) (sa_ims (sv_var rfl) sa_nil)) (by show 2 ≤ sizeLine; decide))) (eqF hs (sv_var rfl)) oi) (sa_im (sv_var rfl) sa_nil)) ⟨(W, w), ow.1, by show w.length < 1000000; omega⟩ rfl rfl) sv_non) ?_
    let GD : PyData → Gm := fun e => [.im (isS K ns), .im (isD (.list (D.map .int))), .im (isD (.int n)), .im (isD (.list (wD A))), .im (isD (.list (wD B))), .im (isI cPr (pairF cBk n (wD A) n (wD B))), .im (isD (.int (i : Int))), .im (isD (.tuple (w.map .int))), .im (isD (.str (sideS s))), .no, .im (isD e), .no, .no, .no]
    refine ss_seq (G1 := GD (dueK W w s)) ?_ ?_
    · show Ss _ _ [.im (isS K ns), .im (isD (.list (D.map .int))), .im (isD (.int n)), .im (isD (.list (wD A))), .im (isD (.list (wD B))), .im (isI cPr (pairF cBk n (wD A) n (wD B))), .im (isD (.int (i : Int))), .im (isD (.tuple (w.map .int))), .im (isD (.str (sideS s))), .im (isD (dueD W w)), .im (isD .none), .no, .no, .no] _
      rcases due_two W w s with ⟨h1, h2⟩ | ⟨k, h1, h2⟩
      · rw [h1, h2]
        exact ss_nxLe (ss_if0 (st_is (st_test (sv_notN (d := .none) (sv_var rfl))) rfl) ss_next) (Le.eq (Le.eq (Le.eq (Le.eq (Le.eq (Le.eq (Le.eq (Le.eq (Le.eq (Le.no (Le.refl _)))))))))))
      · rw [h1, h2]
        unfold itemD dueI
        generalize (W.getD k []).drop (shF (W.getD k []) w) = c
        generalize w.drop (shF (W.getD k []) w) = x
        let GF : PyData → Gm := fun e => [.im (isS K ns), .im (isD (.list (D.map .int))), .im (isD (.int n)), .im (isD (.list (wD A))), .im (isD (.list (wD B))), .im (isI cPr (pairF cBk n (wD A) n (wD B))), .im (isD (.int (i : Int))), .im (isD (.tuple (w.map .int))), .im (isD (.str (sideS s))), .im (isD (.tuple [.int (k : Int), .tuple (c.map .int), .tuple (x.map .int)])), .im (isD e), .no, .no, .no]
        have f0 : ∀ {e : PyData}, Sv (tOp (rIx K) (tVar 9) (tC (.int ((0 : Nat) : Int)))) (GF e) (isD (.int (k : Int))) := fun {e} => sv_ixT (i := ((0 : Nat) : Int)) (ds := [.int (k : Int), .tuple (c.map .int), .tuple (x.map .int)]) (sv_var rfl) sv_int (atI_nat rfl)
        have f1 : ∀ {e : PyData}, Sv (tOp (rIx K) (tVar 9) (tC (.int ((1 : Nat) : Int)))) (GF e) (isD (.tuple (c.map .int))) := fun {e} => sv_ixT (i := ((1 : Nat) : Int)) (ds := [.int (k : Int), .tuple (c.map .int), .tuple (x.map .int)]) (sv_var rfl) sv_int (atI_nat rfl)
        have f2 : ∀ {e : PyData}, Sv (tOp (rIx K) (tVar 9) (tC (.int ((2 : Nat) : Int)))) (GF e) (isD (.tuple (x.map .int))) := fun {e} => sv_ixT (i := ((2 : Nat) : Int)) (ds := [.int (k : Int), .tuple (c.map .int), .tuple (x.map .int)]) (sv_var rfl) sv_int (atI_nat rfl)
        refine ss_nxLe (G1 := GF (if 0 < c.length then .tuple [.int (k : Int), restT (1 - s) c] else if 0 < x.length then .tuple [.int (k : Int), restT s x] else .tuple [.int (k : Int), .tuple [.str "even", .tuple []]])) (ss_if1 (st_is (st_test (sv_notN (d := .tuple [.int (k : Int), .tuple (c.map .int), .tuple (x.map .int)]) (sv_var rfl))) rfl) ?_) (Le.eq (Le.eq (Le.eq (Le.eq (Le.eq (Le.eq (Le.eq (Le.eq (Le.eq (Le.no (Le.refl _)))))))))))
        refine ss_seq (G1 := GF (.tuple [.int (k : Int), .tuple [.str "even", .tuple []]])) (ss_set (t2 (f0 (e := .none)) (t2 sv_str fe))) ?_
        refine ss_seq (G1 := GF (if 0 < x.length then .tuple [.int (k : Int), restT s x] else .tuple [.int (k : Int), .tuple [.str "even", .tuple []]])) ?_ ?_
        · have tt := st_test (sv_cmp (g := fun i j => decide (j < i)) (sv_lenT (K := K) (ds := x.map .int) (f2 (e := .tuple [.int (k : Int), .tuple [.str "even", .tuple []]]))) (sv_int (i := 0)))
          by_cases h : 0 < x.length
          · rw [if_pos h]
            exact ss_if1 (st_is tt (by rw [List.length_map]; exact decide_eq_true (by omega))) (ss_set (t2 f0 (t2 (sv_var rfl) f2)))
          · rw [if_neg h]
            exact ss_if0 (st_is tt (by rw [List.length_map]; exact decide_eq_false (by omega))) ss_next
        · generalize (if 0 < x.length then PyData.tuple [.int (k : Int), restT s x] else .tuple [.int (k : Int), .tuple [.str "even", .tuple []]]) = e1
          have tt := st_test (sv_cmp (g := fun i j => decide (j < i)) (sv_lenT (K := K) (ds := c.map .int) (f1 (e := e1))) (sv_int (i := 0)))
          by_cases h : 0 < c.length
          · rw [if_pos h]
            exact ss_if1 (st_is tt (by rw [List.length_map]; exact decide_eq_true (by omega))) (ss_set (t2 f0 (t2 (flip hs (sv_var rfl)) f1)))
          · rw [if_neg h]
            exact ss_if0 (st_is tt (by rw [List.length_map]; exact decide_eq_false (by omega))) ss_next
    have qd := qDue hl5 (show w.length ≤ 5000 by omega) s
    have qd2 := qDue hl5 (show w.length ≤ 5000 by omega) (1 - s)
    have to1 : ∀ {G : Gm} {a b : TE}, Sv a G (isI cPr (pairF cBk n (wD A) n (wD B))) → Sv b G (isD (restT s w)) → Sv (tCallS (spF (S_law_told K cBk cPr)) (fun _ => E) (tCons a (tCons b tNil))) G (isP K (dueK W w s)) := fun {G a b} h h' => by
      rw [← k1]
      exact tld (.inr (s, w)) bA bB ⟨by rw [aA, aB]; rfl, hs, w1, by omega, w3⟩ h h'
    have to2 : ∀ {G : Gm} {a b : TE}, Sv a G (isI cPr (pairF cBk n (wD B) n (wD A))) → Sv b G (isD (restT (1 - s) w)) → Sv (tCallS (spF (S_law_told K cBk cPr)) (fun _ => E) (tCons a (tCons b tNil))) G (isP K (dueK W w (1 - s))) := fun {G a b} h h' => by
      rw [← k2]
      exact tld (.inr (1 - s, w)) bB bA ⟨by rw [aA, aB]; rfl, by omega, w1, by omega, w3⟩ h h'
    refine ss_seq (ss_if0 (st_is (st_not (st_B (sv qd (to1 (sv_var rfl) (t2 (sv_var rfl) (sv_var rfl))) (sv_var rfl)))) rfl) ss_next) ?_
    refine ss_seq (G1 := GD (dueK W w (1 - s))) ?_ ?_
    · have e0 : ∀ {k' : Int} {y : Str} {u : PyData}, Sv (tOp (rIx K) (tVar 10) (tC (.int ((0 : Nat) : Int)))) (GD (.tuple [.int k', .tuple [.str y, u]])) (isD (.int k')) := fun {k' y u} => sv_ixT (i := ((0 : Nat) : Int)) (ds := [.int k', .tuple [.str y, u]]) (sv_var rfl) sv_int (atI_nat rfl)
      have e1 : ∀ {k' : Int} {y : Str} {u : PyData}, Sv (tOp (rIx K) (tVar 10) (tC (.int ((1 : Nat) : Int)))) (GD (.tuple [.int k', .tuple [.str y, u]])) (isD (.tuple [.str y, u])) := fun {k' y u} => sv_ixT (i := ((1 : Nat) : Int)) (ds := [.int k', .tuple [.str y, u]]) (sv_var rfl) sv_int (atI_nat rfl)
      have e2 : ∀ {k' : Int} {y : Str} {u : PyData}, Sv (tOp (rIx K) (tOp (rIx K) (tVar 10) (tC (.int ((1 : Nat) : Int)))) (tC (.int ((0 : Nat) : Int)))) (GD (.tuple [.int k', .tuple [.str y, u]])) (isD (.str y)) := fun {k' y u} => sv_ixT (i := ((0 : Nat) : Int)) (ds := [.str y, u]) e1 sv_int (atI_nat rfl)
      have e3 : ∀ {k' : Int} {y : Str} {u : PyData}, Sv (tOp (rIx K) (tOp (rIx K) (tVar 10) (tC (.int ((1 : Nat) : Int)))) (tC (.int ((1 : Nat) : Int)))) (GD (.tuple [.int k', .tuple [.str y, u]])) (isD u) := fun {k' y u} => sv_ixT (i := ((1 : Nat) : Int)) (ds := [.str y, u]) e1 sv_int (atI_nat rfl)
      have ts : ∀ {k' : Int} {y : Str} {u : PyData}, PyData.strOk y = true → St' (tAnd (tTest (tOp (fun x y H Q => y = .non ∧ Q (.bl (!decide (x = .non))) H) (tVar 10) (tC .non))) (tTest (tOp (rNeD K) (tOp (rIx K) (tOp (rIx K) (tVar 10) (tC (.int ((1 : Nat) : Int)))) (tC (.int ((0 : Nat) : Int)))) (tC (.str "even"))))) (GD (.tuple [.int k', .tuple [.str y, u]])) (!decide (y = "even")) := fun {k' y u} hy =>
        st_is (st_and (b := true) (c := !decide (y = "even")) (st_is (st_test (sv_notN (d := .tuple [.int k', .tuple [.str y, u]]) (sv_var rfl))) rfl) fun _ => st_is (st_test (sv_ne (d := .str y) (e := .str "even") e2 sv_str (shS _ hy) (shS _ (by decide +kernel)))) (by rw [eqvS])) (Bool.true_and _)
      have mv : ∀ {k' s' : Int} {x : List Int}, s' = 0 ∨ s' = 1 → Ss (fun _ => E) (tIfS (tAnd (tTest (tOp (fun x y H Q => y = .non ∧ Q (.bl (!decide (x = .non))) H) (tVar 10) (tC .non))) (tTest (tOp (rNeD K) (tOp (rIx K) (tOp (rIx K) (tVar 10) (tC (.int ((1 : Nat) : Int)))) (tC (.int ((0 : Nat) : Int)))) (tC (.str "even"))))) (tAsg (tTup (tCons (tOp (rIx K) (tVar 10) (tC (.int ((0 : Nat) : Int)))) (tCons (tTup (tCons (tOp (rIx K) (tLst (tCons (tC (.str "first")) (tCons (tC (.str "second")) tNil))) (tCB cInt (tCons (tOp (rEqD K) (tOp (rIx K) (tOp (rIx K) (tVar 10) (tC (.int ((1 : Nat) : Int)))) (tC (.int ((0 : Nat) : Int)))) (tC (.str "first"))) tNil))) (tCons (tOp (rIx K) (tOp (rIx K) (tVar 10) (tC (.int ((1 : Nat) : Int)))) (tC (.int ((1 : Nat) : Int)))) tNil))) tNil))) (gName 10)) tNext) (GD (.tuple [.int k', restT s' x])) (.nx (GD (.tuple [.int k', restT (1 - s') x]))) := fun {k' s' x} h =>
        ss_if1 (st_is (ts (okS s')) (by rcases h with rfl | rfl <;> decide)) (ss_set (t2 e0 (t2 (flip h e2) e3)))
      rcases due_cases (w := w) hl5 (by omega) with h | ⟨k, h⟩ | ⟨k, x, _, h⟩ | ⟨k, x, _, h⟩ <;> rw [h s, h (1 - s)]
      · exact ss_if0 (st_is (st_and (b := false) (c := false) (st_is (st_test (sv_notN (d := .none) (sv_var rfl))) rfl) fun z => by cases z) rfl) ss_next
      · exact ss_if0 (st_is (ts (by decide +kernel)) rfl) ss_next
      · exact mv hs
      · exact mv (by omega)
    refine ss_nxLe (ss_if0 (st_is (st_not (st_B (sv qd2 (to2 (swp (sv_var rfl)) (t2 (flip hs (sv_var rfl)) (sv_var rfl))) (sv_var rfl)))) rfl) ss_next) ?_
    exact Le.eq (Le.eq (Le.eq (Le.eq (Le.eq (Le.eq (Le.eq (Le.eq (Le.no (Le.no (Le.no (Le.refl _)))))))))))
  -- what is no rest
  have wok : ∀ {d : PyData}, restFit d → isRestB d n = false → AR.ok A B n (.inl d) := fun {d} h1 h2 => ⟨h1, fun _ => h2⟩
  have one : ∀ {G : Gm} {a : TE} {d : PyData}, Sv a G (isD d) → Sv (tTup (tCons a tNil)) G (isD (.tuple [d])) := fun {G a d} h => sv_tup (ds := [d]) (sa_ims h sa_nil) (by show 1 ≤ sizeLine; decide)
  have t2 : ∀ {G : Gm} {a b : TE} {d e : PyData}, Sv a G (isD d) → Sv b G (isD e) → Sv (tTup (tCons a (tCons b tNil))) G (isD (.tuple [d, e])) := fun {G a b d e} h h' => sv_tup (ds := [d, e]) (sa_ims h (sa_ims h' sa_nil)) (by show 2 ≤ sizeLine; decide)
  have fe : ∀ {G : Gm}, Sv (tTup tNil) G (isD (.tuple [])) := fun {G} => sv_tup (ds := []) sa_nil (Nat.zero_le _)
  have bs : ∀ {G : Gm} {a b : Bool}, Sv (tLst (tCons (tC (.bl a)) (tCons (tC (.bl b)) tNil))) G (isD (.list [.bool a, .bool b])) := fun {G a b} => sv_svl (svl_lst (ds := [.bool a, .bool b]) (sa_ims sv_bl (sa_ims sv_bl sa_nil)) (by show 2 ≤ sizeLine; decide))
  let R1 : List PyData := [.tuple [.str "even", .tuple []], .tuple [.str "first", .tuple []], .tuple [.str "third", .tuple [.int 0]], .tuple [.str "first", .list [.int 0]], .list [.str "first", .tuple [.int 0]], .tuple [.str "first", .tuple [.int n]], .tuple [.str "first", .tuple [.bool true]], .none, .int 5]
  let Z : List PyData := (List.replicate (5001 : Int).toNat [PyData.int 0]).flatten
  have hZ : Z.length = 5001 := by show ((List.replicate (5001 : Int).toNat [PyData.int 0]).flatten).length = 5001; rw [rep_one, List.length_replicate]; rfl
  let R2 : List PyData := [.tuple [.str "first"], .tuple [.str "first", .tuple [.int 0], .int 0], .tuple [.tuple [.str "first"], .tuple [.int 0]], .tuple [.str "second", .tuple Z], .tuple [.str "second", .tuple [.int (-1)]], .tuple [.str "first", .int 0]]
  refine ss_seq (ss_set (P := isD (.list R1)) (sv_svl (svl_lst (ds := R1) (sa_ims (t2 sv_str fe) (sa_ims (t2 sv_str fe) (sa_ims (t2 sv_str (one sv_int)) (sa_ims (t2 sv_str (sv_svl (svl_lst (ds := [.int 0]) (sa_ims sv_int sa_nil) (by show 1 ≤ sizeLine; decide)))) (sa_ims (sv_svl (svl_lst (ds := [.str "first", .tuple [.int 0]]) (sa_ims sv_str (sa_ims (one sv_int) sa_nil)) (by show 2 ≤ sizeLine; decide))) (sa_ims (t2 sv_str (one (sv_var rfl))) (sa_ims (t2 sv_str (one sv_bl)) (sa_ims sv_non (sa_ims sv_int sa_nil))))))))) (by show 9 ≤ sizeLine; decide)))) ?_
  refine ss_seq (ss_set (P := isD (.list (R1 ++ R2))) (sv_svl (svl_cat (rl_sv (sv_var rfl)) (rl_svl (svl_lst (ds := R2) (sa_ims (one sv_str) (sa_ims (sv_tup (ds := [.str "first", .tuple [.int 0], .int 0]) (sa_ims sv_str (sa_ims (one sv_int) (sa_ims sv_int sa_nil))) (by show 3 ≤ sizeLine; decide)) (sa_ims (t2 (one sv_str) (one sv_int)) (sa_ims (t2 sv_str (sv_repT (i := 5001) (ds := [.int 0]) (one sv_int) sv_int (by simp) (by decide) (by show (1 : Int) * 5001 ≤ 1000000; decide))) (sa_ims (t2 sv_str (one (sv_neg sv_int))) (sa_ims (t2 sv_str sv_int) sa_nil)))))) (by show 6 ≤ sizeLine; decide))) (by show 9 + 6 ≤ sizeLine; decide)))) ?_
  have hall : ∀ d ∈ R1 ++ R2, restFit d ∧ isRestB d n = false := fun d hd => by
    have ft : ∀ l : List PyData, l.length ≤ 5001 → Fit (.tuple l) := fun l h => by show l.length < 10000000; omega
    rcases List.mem_append.mp hd with hd | hd
    · simp only [R1, List.mem_cons, List.not_mem_nil, or_false] at hd
      rcases hd with rfl | rfl | rfl | rfl | rfl | rfl | rfl | rfl | rfl
      · exact ⟨ft _ (by decide), rfl⟩
      · exact ⟨ft _ (by decide), rfl⟩
      · exact ⟨ft _ (by decide), rfl⟩
      · exact ⟨by show 1 < 10000000; decide, rfl⟩
      · exact ⟨trivial, rfl⟩
      · exact ⟨ft [.int n] (by show 1 ≤ 5001; decide), by simp [isRestB, isWordB, tupB, belowB]⟩
      · exact ⟨ft _ (by decide), by simp [isRestB, isWordB, tupB, belowB]⟩
      · exact ⟨trivial, rfl⟩
      · exact ⟨trivial, rfl⟩
    · simp only [R2, List.mem_cons, List.not_mem_nil, or_false] at hd
      rcases hd with rfl | rfl | rfl | rfl | rfl | rfl
      · exact ⟨trivial, rfl⟩
      · exact ⟨trivial, rfl⟩
      · exact ⟨ft _ (by decide), rfl⟩
      · refine ⟨ft _ (by omega), ?_⟩
        show (sideB (.str "second") && (Z.all (fun e => belowB e n) && (decide (1 ≤ (Z.length : Int)) && decide ((Z.length : Int) ≤ 5000)))) = false
        rw [hZ, show decide (((5001 : Nat) : Int) ≤ 5000) = false from rfl, Bool.and_false, Bool.and_false, Bool.and_false]
      · exact ⟨ft _ (by decide), by simp [isRestB, isWordB, tupB, belowB]⟩
      · exact ⟨by show 0 < 10000000; decide, rfl⟩
  have hRl : (R1 ++ R2).length = 15 := rfl
  generalize R1 ++ R2 = R at hall hRl ⊢
  let GR : Gm := [.im (isS K ns), .im (isD (.list (D.map .int))), .im (isD (.int n)), .im (isD (.list (wD A))), .im (isD (.list (wD B))), .im (isI cPr (pairF cBk n (wD A) n (wD B))), .no, .no, .no, .no, .no, .im (isD (.list R)), .no, .no]
  refine ss_seq (G1 := GR) ?_ ?_
  · refine ss_forL (K := K) (j := 12) (ds := R) (sv_var rfl) (fun _ => GR) R.length (Nat.le_refl _) (Le.refl _) (fun _ _ => Nat.le_of_ble_eq_true rfl) (fun m d hd _ => ?_) (.inl ⟨rfl, rfl⟩)
    obtain ⟨h1, h2⟩ := hall d (List.mem_of_getElem? hd)
    refine .inl (ss_nxLe (ss_if0 (st_is (st_not (st_B (sv (d := .list [.bool true, .bool false]) qBs (sv_is' (tld (.inl d) bA bB (wok h1 h2) (sv_var rfl) (sv_var rfl)) (if_pos (by rw [aA, aB]; rfl))) bs))) rfl) ss_next) ?_)
    exact Le.eq (Le.eq (Le.eq (Le.eq (Le.eq (Le.eq (Le.eq (Le.eq (Le.eq (Le.eq (Le.eq (Le.eq (Le.no (Le.refl _)))))))))))))
  -- a book that does not start apart
  let C : List (List Int) := [[0], [0, 0]]
  have gC : GoodW C n := ⟨by decide, fun w hw => by
    simp only [C, List.mem_cons, List.not_mem_nil, or_false] at hw
    rcases hw with rfl | rfl
    · exact ⟨by decide, by decide, fun v hv => by simp only [List.mem_cons, List.not_mem_nil, or_false] at hv; omega⟩
    · exact ⟨by decide, by decide, fun v hv => by simp only [List.mem_cons, List.not_mem_nil, or_false] at hv; omega⟩⟩
  have bC : BkOk C := ⟨by decide, fun w hw => ⟨(gC.2 w hw).1, (gC.2 w hw).2.1⟩⟩
  have aC : apartB C = false := by decide +kernel
  refine ss_seq (ss_set (mkP (mkB gC (sv_var rfl) (sv_svl (svl_lst (ds := wD C) (sa_ims (one sv_int) (sa_ims (t2 sv_int sv_int) sa_nil)) (by show 2 ≤ sizeLine; decide)))) (mkB gB (sv_var rfl) (sv_var rfl)))) ?_
  refine ss_ret (sv_and (b := true) (c := true) (sv (d := .list [.bool false, .bool true]) qBs (sv_is' (tld (.inl (.tuple [.str "first", .tuple [.int 0]])) bC bB ⟨by show 1 < 10000000; decide, fun z => by rw [aC] at z; cases z⟩ (sv_var rfl) (t2 sv_str (one sv_int))) (by show (if (apartB C && apartB B) = true then PyData.list [.bool true, .bool false] else .list [.bool false, .bool true]) = _; rw [aC]; rfl)) bs) fun _ => ?_)
  exact sv (d := .list [.bool false, .bool true]) qBs (sv_is' (tld (.inl .none) bB bC ⟨trivial, fun z => by rw [aC, Bool.and_false] at z; cases z⟩ (swp (sv_var rfl)) sv_non) (by show (if (apartB B && apartB C) = true then PyData.list [.bool true, .bool false] else .list [.bool false, .bool true]) = _; rw [aC, Bool.and_false]; rfl)) bs
end
end K10

namespace K10
open PySem L2 Evl Mini PyProof.Rows
theorem all_mk {l : PySem.W.OpenLaw} {w : World} {K : PySem.W.Frag} {h : Heap} {mg : Str → Option Value} {fa : Addr} {cAE cBB cBT cNA cBk cPr cRd aE0 aEV aSI : Addr} {f_law_draws f_law_words f_law_pair fPair_init fis_count fis_below fare_below f_is_word f_are_words fBook_init f_law_letters f_law_due fsame_no fsame0 fsame1 fsame2 f_law_same_as fBook_words f_by_first_letter fReader_init fis_rest_ahead fReader_follow fis_even fafter f_law_told fPair_swapped flaw : Addr} (X : K.In h) (G : h.Ns mainGlobals mg) (hfa : mg "law" = some (.ref fa))
    {od_law_draws an_law_draws od_law_words an_law_words od_law_pair an_law_pair odPair_init anPair_init odis_count anis_count odis_below anis_below odare_below anare_below od_is_word an_is_word od_are_words an_are_words odBook_init anBook_init od_law_letters an_law_letters od_law_due an_law_due odsame_no ansame_no odsame0 ansame0 odsame1 ansame1 odsame2 ansame2 od_law_same_as an_law_same_as odBook_words anBook_words od_by_first_letter an_by_first_letter odReader_init anReader_init odis_rest_ahead anis_rest_ahead odReader_follow anReader_follow odis_even anis_even odafter anafter od_law_told an_law_told odPair_swapped anPair_swapped odlaw anlaw : Option Addr} {sl_law_draws sl_law_words sl_law_pair slPair_init slis_count slis_below slare_below sl_is_word sl_are_words slBook_init sl_law_letters sl_law_due slsame_no slsame0 slsame1 slsame2 sl_law_same_as slBook_words sl_by_first_letter slReader_init slis_rest_ahead slReader_follow slis_even slafter sl_law_told slPair_swapped sllaw : Array (Option Value)} {oc_law_draws kV_law_draws dc_law_draws pm_law_draws cd_law_draws ct_law_draws oc_law_words kV_law_words dc_law_words pm_law_words cd_law_words ct_law_words oc_law_pair kV_law_pair dc_law_pair pm_law_pair cd_law_pair ct_law_pair ocPair_init kVPair_init dcPair_init pmPair_init cdPair_init ctPair_init ocis_count kVis_count dcis_count pmis_count cdis_count ctis_count ocis_below kVis_below dcis_below pmis_below cdis_below ctis_below ocare_below kVare_below dcare_below pmare_below cdare_below ctare_below oc_is_word kV_is_word dc_is_word pm_is_word cd_is_word ct_is_word oc_are_words kV_are_words dc_are_words pm_are_words cd_are_words ct_are_words ocBook_init kVBook_init dcBook_init pmBook_init cdBook_init ctBook_init oc_law_letters kV_law_letters dc_law_letters pm_law_letters cd_law_letters ct_law_letters oc_law_due kV_law_due dc_law_due pm_law_due cd_law_due ct_law_due ocsame_no kVsame_no dcsame_no pmsame_no cdsame_no ctsame_no ocsame0 kVsame0 dcsame0 pmsame0 cdsame0 ctsame0 ocsame1 kVsame1 dcsame1 pmsame1 cdsame1 ctsame1 ocsame2 kVsame2 dcsame2 pmsame2 cdsame2 ctsame2 oc_law_same_as kV_law_same_as dc_law_same_as pm_law_same_as cd_law_same_as ct_law_same_as ocBook_words kVBook_words dcBook_words pmBook_words cdBook_words ctBook_words oc_by_first_letter kV_by_first_letter dc_by_first_letter pm_by_first_letter cd_by_first_letter ct_by_first_letter ocReader_init kVReader_init dcReader_init pmReader_init cdReader_init ctReader_init ocis_rest_ahead kVis_rest_ahead dcis_rest_ahead pmis_rest_ahead cdis_rest_ahead ctis_rest_ahead ocReader_follow kVReader_follow dcReader_follow pmReader_follow cdReader_follow ctReader_follow ocis_even kVis_even dcis_even pmis_even cdis_even ctis_even ocafter kVafter dcafter pmafter cdafter ctafter oc_law_told kV_law_told dc_law_told pm_law_told cd_law_told ct_law_told ocPair_swapped kVPair_swapped dcPair_swapped pmPair_swapped cdPair_swapped ctPair_swapped oclaw kVlaw dclaw pmlaw cdlaw ctlaw : Value}
    {t_c_MOST_LETTERS t_c_MOST_WORDS t_c_LONGEST_WORD : _}
    {t_aEV0 : Tok} {t_aSI0 t_aSI1 : Tok} {n_aE0 : Nat} {s_aE0 : Array (Option Value)} {n_aEV : Nat} {s_aEV : Array (Option Value)} {n_aSI : Nat} {s_aSI : Array (Option Value)} (l_aE0 : K.lookup aE0 = some ⟨.type "tuple", none, .seq #[] n_aE0, s_aE0⟩)
    (g_aEV : PySem.W.nsIn K mainGlobals "EVEN" = some (some (.ref aEV)))
    (l_aEV : K.lookup aEV = some ⟨.type "tuple", none, .seq #[.str "even" t_aEV0, .ref aE0] n_aEV, s_aEV⟩)
    (g_aSI : PySem.W.nsIn K mainGlobals "SIDES" = some (some (.ref aSI)))
    (l_aSI : K.lookup aSI = some ⟨.type "tuple", none, .seq #[.str "first" t_aSI0, .str "second" t_aSI1] n_aSI, s_aSI⟩)
    (a_cAE : PySem.W.nsIn K mainGlobals "AlikeError" = some (some (.ref cAE)))
    (a_cBB : PySem.W.nsIn K mainGlobals "BadBook" = some (some (.ref cBB)))
    (a_cBT : PySem.W.nsIn K mainGlobals "BadRest" = some (some (.ref cBT)))
    (a_cNA : PySem.W.nsIn K mainGlobals "NotApart" = some (some (.ref cNA)))
    (a_cBk : PySem.W.nsIn K mainGlobals "Book" = some (some (.ref cBk)))
    (a_cPr : PySem.W.nsIn K mainGlobals "Pair" = some (some (.ref cPr)))
    (a_cRd : PySem.W.nsIn K mainGlobals "Reader" = some (some (.ref cRd)))
    (k_c_MOST_LETTERS : PySem.W.nsIn K mainGlobals "MOST_LETTERS" = some (some (.int 60 t_c_MOST_LETTERS)))
    (k_c_MOST_WORDS : PySem.W.nsIn K mainGlobals "MOST_WORDS" = some (some (.int 60 t_c_MOST_WORDS)))
    (k_c_LONGEST_WORD : PySem.W.nsIn K mainGlobals "LONGEST_WORD" = some (some (.int 5000 t_c_LONGEST_WORD)))
    (z_isinstance : PySem.W.nsIn K mainGlobals "isinstance" = some none)
    (z_int : PySem.W.nsIn K mainGlobals "int" = some none)
    (z_bool : PySem.W.nsIn K mainGlobals "bool" = some none)
    (z_tuple : PySem.W.nsIn K mainGlobals "tuple" = some none)
    (z_list : PySem.W.nsIn K mainGlobals "list" = some none)
    (z_all : PySem.W.nsIn K mainGlobals "all" = some none)
    (z_len : PySem.W.nsIn K mainGlobals "len" = some none)
    (z_abs : PySem.W.nsIn K mainGlobals "abs" = some none)
    (z_range : PySem.W.nsIn K mainGlobals "range" = some none)
    (z_max : PySem.W.nsIn K mainGlobals "max" = some none)
    (z_min : PySem.W.nsIn K mainGlobals "min" = some none)
    (z_set : PySem.W.nsIn K mainGlobals "set" = some none)
    (z_str : PySem.W.nsIn K mainGlobals "str" = some none)
    (z_enumerate : PySem.W.nsIn K mainGlobals "enumerate" = some none)
    (x_cAE : PySem.W.excIn K cAE veT "ValueError.__new__" = true)
    (p_cAE : PySem.W.keepIn K (.ref cAE) = true)
    (b_cAE : PySem.W.subIn K (.ref cAE) (.type "BaseException") = some true)
    (t_cAE : PySem.W.typeIn K (.ref cAE) = some (.type "type"))
    (x_cBB : PySem.W.excIn K cBB veT "ValueError.__new__" = true)
    (p_cBB : PySem.W.keepIn K (.ref cBB) = true)
    (b_cBB : PySem.W.subIn K (.ref cBB) (.type "BaseException") = some true)
    (t_cBB : PySem.W.typeIn K (.ref cBB) = some (.type "type"))
    (x_cBT : PySem.W.excIn K cBT veT "ValueError.__new__" = true)
    (p_cBT : PySem.W.keepIn K (.ref cBT) = true)
    (b_cBT : PySem.W.subIn K (.ref cBT) (.type "BaseException") = some true)
    (t_cBT : PySem.W.typeIn K (.ref cBT) = some (.type "type"))
    (x_cNA : PySem.W.excIn K cNA veT "ValueError.__new__" = true)
    (p_cNA : PySem.W.keepIn K (.ref cNA) = true)
    (b_cNA : PySem.W.subIn K (.ref cNA) (.type "BaseException") = some true)
    (t_cNA : PySem.W.typeIn K (.ref cNA) = some (.type "type"))
    (e6 : PySem.W.specialIn K (.builtin "object.__class__") "__get__" = some (some (.builtin "getset_descriptor.__get__")))
    (e7 : PySem.W.takesIn K (.builtin "object.__class__") = some true)
    (e1_cBT : PySem.W.findIn K (.ref cBT) "__getattribute__" = some (some (.builtin "BaseException.__getattribute__")))
    (e2_cBT : PySem.W.findIn K (.ref cBT) "__getattr__" = some none)
    (e4_cBT : PySem.W.hasDictIn K cBT = true)
    (e5_cBT : PySem.W.findIn K (.ref cBT) "__class__" = some (some (.builtin "object.__class__")))
    (e8_cBT : PySem.W.mroIn K cBT (.type "object") = some true)
    (e1_cNA : PySem.W.findIn K (.ref cNA) "__getattribute__" = some (some (.builtin "BaseException.__getattribute__")))
    (e2_cNA : PySem.W.findIn K (.ref cNA) "__getattr__" = some none)
    (e4_cNA : PySem.W.hasDictIn K cNA = true)
    (e5_cNA : PySem.W.findIn K (.ref cNA) "__class__" = some (some (.builtin "object.__class__")))
    (e8_cNA : PySem.W.mroIn K cNA (.type "object") = some true)
    (e4_cAE : PySem.W.hasDictIn K cAE = true)
    (s_m_cBT : PySem.W.subIn K (.ref cBT) (.ref cAE) = some true)
    (s_m_cNA : PySem.W.subIn K (.ref cNA) (.ref cAE) = some true)
    (s_k_cBT_cBT : PySem.W.kitOne K (.ref cBT) (.ref cBT) = some true)
    (s_k_cBT_cNA : PySem.W.kitOne K (.ref cBT) (.ref cNA) = some false)
    (s_k_cNA_cBT : PySem.W.kitOne K (.ref cNA) (.ref cBT) = some false)
    (s_k_cNA_cNA : PySem.W.kitOne K (.ref cNA) (.ref cNA) = some true)
    (pg_cBk : PySem.W.plainGet K cBk Str.empty = true)
    (hd_cBk : PySem.W.hasDictIn K cBk = true)
    (po_cBk : PySem.W.plainOver K cBk = true)
    (sa_cBk : PySem.W.findIn K (.ref cBk) "__setattr__" = some (some (.builtin "object.__setattr__")))
    (mk_cBk : PySem.W.makesIn K cBk = true)
    (kc_cBk : PySem.W.keepIn K (.ref cBk) = true)
    (pg_cPr : PySem.W.plainGet K cPr Str.empty = true)
    (hd_cPr : PySem.W.hasDictIn K cPr = true)
    (po_cPr : PySem.W.plainOver K cPr = true)
    (sa_cPr : PySem.W.findIn K (.ref cPr) "__setattr__" = some (some (.builtin "object.__setattr__")))
    (mk_cPr : PySem.W.makesIn K cPr = true)
    (kc_cPr : PySem.W.keepIn K (.ref cPr) = true)
    (pg_cRd : PySem.W.plainGet K cRd Str.empty = true)
    (hd_cRd : PySem.W.hasDictIn K cRd = true)
    (po_cRd : PySem.W.plainOver K cRd = true)
    (sa_cRd : PySem.W.findIn K (.ref cRd) "__setattr__" = some (some (.builtin "object.__setattr__")))
    (mk_cRd : PySem.W.makesIn K cRd = true)
    (kc_cRd : PySem.W.keepIn K (.ref cRd) = true)
    (n_n_cBk_letters : PySem.W.findIn K (.ref cBk) "letters" = some none)
    (n_n_cBk_size : PySem.W.findIn K (.ref cBk) "size" = some none)
    (n_n_cBk__words : PySem.W.findIn K (.ref cBk) "_words" = some none)
    (n_n_cPr_first : PySem.W.findIn K (.ref cPr) "first" = some none)
    (n_n_cPr_second : PySem.W.findIn K (.ref cPr) "second" = some none)
    (n_n_cPr_letters : PySem.W.findIn K (.ref cPr) "letters" = some none)
    (n_n_cRd__words : PySem.W.findIn K (.ref cRd) "_words" = some none)
    (n_n_cRd__numbers : PySem.W.findIn K (.ref cRd) "_numbers" = some none)
    (a_law_draws : PySem.W.nsIn K mainGlobals "_law_draws" = some (some (.ref f_law_draws)))
    (l_law_draws : K.lookup f_law_draws = some ⟨oc_law_draws, od_law_draws, .func (PySem.W.fnOf "_law_draws" "_law_draws" (defArgs st__law_draws) (defBody st__law_draws) (defScope st__law_draws) .none kV_law_draws dc_law_draws pm_law_draws an_law_draws cd_law_draws ct_law_draws), sl_law_draws⟩)
    (c_law_draws : PySem.W.codeIn K cd_law_draws "_law_draws" = true)
    (p_law_draws : PySem.W.keepIn K (.ref f_law_draws) = true)
    (a_law_words : PySem.W.nsIn K mainGlobals "_law_words" = some (some (.ref f_law_words)))
    (l_law_words : K.lookup f_law_words = some ⟨oc_law_words, od_law_words, .func (PySem.W.fnOf "_law_words" "_law_words" (defArgs st__law_words) (defBody st__law_words) (defScope st__law_words) .none kV_law_words dc_law_words pm_law_words an_law_words cd_law_words ct_law_words), sl_law_words⟩)
    (c_law_words : PySem.W.codeIn K cd_law_words "_law_words" = true)
    (p_law_words : PySem.W.keepIn K (.ref f_law_words) = true)
    (a_law_pair : PySem.W.nsIn K mainGlobals "_law_pair" = some (some (.ref f_law_pair)))
    (l_law_pair : K.lookup f_law_pair = some ⟨oc_law_pair, od_law_pair, .func (PySem.W.fnOf "_law_pair" "_law_pair" (defArgs st__law_pair) (defBody st__law_pair) (defScope st__law_pair) .none kV_law_pair dc_law_pair pm_law_pair an_law_pair cd_law_pair ct_law_pair), sl_law_pair⟩)
    (c_law_pair : PySem.W.codeIn K cd_law_pair "_law_pair" = true)
    (p_law_pair : PySem.W.keepIn K (.ref f_law_pair) = true)
    (aPair_init : PySem.W.findIn K (.ref cPr) "__init__" = some (some (.ref fPair_init)))
    (iPair_init : PySem.W.isFn K (.ref fPair_init) = true)
    (lPair_init : K.lookup fPair_init = some ⟨ocPair_init, odPair_init, .func (PySem.W.fnOf "__init__" "Pair.__init__" (defArgs st_Pair_init) (defBody st_Pair_init) (defScope st_Pair_init) .none kVPair_init dcPair_init pmPair_init anPair_init cdPair_init ctPair_init), slPair_init⟩)
    (cPair_init : PySem.W.codeIn K cdPair_init "Pair.__init__" = true)
    (pPair_init : PySem.W.keepIn K (.ref fPair_init) = true)
    (ais_count : PySem.W.nsIn K mainGlobals "is_count" = some (some (.ref fis_count)))
    (lis_count : K.lookup fis_count = some ⟨ocis_count, odis_count, .func (PySem.W.fnOf "is_count" "is_count" (defArgs st_is_count) (defBody st_is_count) (defScope st_is_count) .none kVis_count dcis_count pmis_count anis_count cdis_count ctis_count), slis_count⟩)
    (cis_count : PySem.W.codeIn K cdis_count "is_count" = true)
    (pis_count : PySem.W.keepIn K (.ref fis_count) = true)
    (ais_below : PySem.W.nsIn K mainGlobals "is_below" = some (some (.ref fis_below)))
    (lis_below : K.lookup fis_below = some ⟨ocis_below, odis_below, .func (PySem.W.fnOf "is_below" "is_below" (defArgs st_is_below) (defBody st_is_below) (defScope st_is_below) .none kVis_below dcis_below pmis_below anis_below cdis_below ctis_below), slis_below⟩)
    (cis_below : PySem.W.codeIn K cdis_below "is_below" = true)
    (pis_below : PySem.W.keepIn K (.ref fis_below) = true)
    (aare_below : PySem.W.nsIn K mainGlobals "are_below" = some (some (.ref fare_below)))
    (lare_below : K.lookup fare_below = some ⟨ocare_below, odare_below, .func (PySem.W.fnOf "are_below" "are_below" (defArgs st_are_below) (defBody st_are_below) (defScope st_are_below) .none kVare_below dcare_below pmare_below anare_below cdare_below ctare_below), slare_below⟩)
    (care_below : PySem.W.codeIn K cdare_below "are_below" = true)
    (pare_below : PySem.W.keepIn K (.ref fare_below) = true)
    (a_is_word : PySem.W.nsIn K mainGlobals "_is_word" = some (some (.ref f_is_word)))
    (l_is_word : K.lookup f_is_word = some ⟨oc_is_word, od_is_word, .func (PySem.W.fnOf "_is_word" "_is_word" (defArgs st__is_word) (defBody st__is_word) (defScope st__is_word) .none kV_is_word dc_is_word pm_is_word an_is_word cd_is_word ct_is_word), sl_is_word⟩)
    (c_is_word : PySem.W.codeIn K cd_is_word "_is_word" = true)
    (p_is_word : PySem.W.keepIn K (.ref f_is_word) = true)
    (a_are_words : PySem.W.nsIn K mainGlobals "_are_words" = some (some (.ref f_are_words)))
    (l_are_words : K.lookup f_are_words = some ⟨oc_are_words, od_are_words, .func (PySem.W.fnOf "_are_words" "_are_words" (defArgs st__are_words) (defBody st__are_words) (defScope st__are_words) .none kV_are_words dc_are_words pm_are_words an_are_words cd_are_words ct_are_words), sl_are_words⟩)
    (c_are_words : PySem.W.codeIn K cd_are_words "_are_words" = true)
    (p_are_words : PySem.W.keepIn K (.ref f_are_words) = true)
    (aBook_init : PySem.W.findIn K (.ref cBk) "__init__" = some (some (.ref fBook_init)))
    (iBook_init : PySem.W.isFn K (.ref fBook_init) = true)
    (lBook_init : K.lookup fBook_init = some ⟨ocBook_init, odBook_init, .func (PySem.W.fnOf "__init__" "Book.__init__" (defArgs st_Book_init) (defBody st_Book_init) (defScope st_Book_init) .none kVBook_init dcBook_init pmBook_init anBook_init cdBook_init ctBook_init), slBook_init⟩)
    (cBook_init : PySem.W.codeIn K cdBook_init "Book.__init__" = true)
    (pBook_init : PySem.W.keepIn K (.ref fBook_init) = true)
    (a_law_letters : PySem.W.nsIn K mainGlobals "_law_letters" = some (some (.ref f_law_letters)))
    (l_law_letters : K.lookup f_law_letters = some ⟨oc_law_letters, od_law_letters, .func (PySem.W.fnOf "_law_letters" "_law_letters" (defArgs st__law_letters) (defBody st__law_letters) (defScope st__law_letters) .none kV_law_letters dc_law_letters pm_law_letters an_law_letters cd_law_letters ct_law_letters), sl_law_letters⟩)
    (c_law_letters : PySem.W.codeIn K cd_law_letters "_law_letters" = true)
    (p_law_letters : PySem.W.keepIn K (.ref f_law_letters) = true)
    (a_law_due : PySem.W.nsIn K mainGlobals "_law_due" = some (some (.ref f_law_due)))
    (l_law_due : K.lookup f_law_due = some ⟨oc_law_due, od_law_due, .func (PySem.W.fnOf "_law_due" "_law_due" (defArgs st__law_due) (defBody st__law_due) (defScope st__law_due) .none kV_law_due dc_law_due pm_law_due an_law_due cd_law_due ct_law_due), sl_law_due⟩)
    (c_law_due : PySem.W.codeIn K cd_law_due "_law_due" = true)
    (p_law_due : PySem.W.keepIn K (.ref f_law_due) = true)
    (asame_no : PySem.W.nsIn K mainGlobals "_law_same_as" = some (some (.ref fsame_no)))
    (lsame_no : K.lookup fsame_no = some ⟨ocsame_no, odsame_no, .func (PySem.W.fnOf "_law_same_as" "_law_same_as" (defArgs st_same_no) (defBody st_same_no) (defScope st_same_no) .none kVsame_no dcsame_no pmsame_no ansame_no cdsame_no ctsame_no), slsame_no⟩)
    (csame_no : PySem.W.codeIn K cdsame_no "_law_same_as" = true)
    (psame_no : PySem.W.keepIn K (.ref fsame_no) = true)
    (asame0 : PySem.W.nsIn K mainGlobals "_law_same_as" = some (some (.ref fsame0)))
    (lsame0 : K.lookup fsame0 = some ⟨ocsame0, odsame0, .func (PySem.W.fnOf "_law_same_as" "_law_same_as" (defArgs st_same0) (defBody st_same0) (defScope st_same0) .none kVsame0 dcsame0 pmsame0 ansame0 cdsame0 ctsame0), slsame0⟩)
    (csame0 : PySem.W.codeIn K cdsame0 "_law_same_as" = true)
    (psame0 : PySem.W.keepIn K (.ref fsame0) = true)
    (asame1 : PySem.W.nsIn K mainGlobals "_law_same_as" = some (some (.ref fsame1)))
    (lsame1 : K.lookup fsame1 = some ⟨ocsame1, odsame1, .func (PySem.W.fnOf "_law_same_as" "_law_same_as" (defArgs st_same1) (defBody st_same1) (defScope st_same1) .none kVsame1 dcsame1 pmsame1 ansame1 cdsame1 ctsame1), slsame1⟩)
    (csame1 : PySem.W.codeIn K cdsame1 "_law_same_as" = true)
    (psame1 : PySem.W.keepIn K (.ref fsame1) = true)
    (asame2 : PySem.W.nsIn K mainGlobals "_law_same_as" = some (some (.ref fsame2)))
    (lsame2 : K.lookup fsame2 = some ⟨ocsame2, odsame2, .func (PySem.W.fnOf "_law_same_as" "_law_same_as" (defArgs st_same2) (defBody st_same2) (defScope st_same2) .none kVsame2 dcsame2 pmsame2 ansame2 cdsame2 ctsame2), slsame2⟩)
    (csame2 : PySem.W.codeIn K cdsame2 "_law_same_as" = true)
    (psame2 : PySem.W.keepIn K (.ref fsame2) = true)
    (a_law_same_as : PySem.W.nsIn K mainGlobals "_law_same_as" = some (some (.ref f_law_same_as)))
    (l_law_same_as : K.lookup f_law_same_as = some ⟨oc_law_same_as, od_law_same_as, .func (PySem.W.fnOf "_law_same_as" "_law_same_as" (defArgs st__law_same_as) (defBody st__law_same_as) (defScope st__law_same_as) .none kV_law_same_as dc_law_same_as pm_law_same_as an_law_same_as cd_law_same_as ct_law_same_as), sl_law_same_as⟩)
    (c_law_same_as : PySem.W.codeIn K cd_law_same_as "_law_same_as" = true)
    (p_law_same_as : PySem.W.keepIn K (.ref f_law_same_as) = true)
    (aBook_words : PySem.W.findIn K (.ref cBk) "words" = some (some (.ref fBook_words)))
    (iBook_words : PySem.W.isFn K (.ref fBook_words) = true)
    (lBook_words : K.lookup fBook_words = some ⟨ocBook_words, odBook_words, .func (PySem.W.fnOf "words" "Book.words" (defArgs st_Book_words) (defBody st_Book_words) (defScope st_Book_words) .none kVBook_words dcBook_words pmBook_words anBook_words cdBook_words ctBook_words), slBook_words⟩)
    (cBook_words : PySem.W.codeIn K cdBook_words "Book.words" = true)
    (pBook_words : PySem.W.keepIn K (.ref fBook_words) = true)
    (a_by_first_letter : PySem.W.nsIn K mainGlobals "_by_first_letter" = some (some (.ref f_by_first_letter)))
    (l_by_first_letter : K.lookup f_by_first_letter = some ⟨oc_by_first_letter, od_by_first_letter, .func (PySem.W.fnOf "_by_first_letter" "_by_first_letter" (defArgs st__by_first_letter) (defBody st__by_first_letter) (defScope st__by_first_letter) .none kV_by_first_letter dc_by_first_letter pm_by_first_letter an_by_first_letter cd_by_first_letter ct_by_first_letter), sl_by_first_letter⟩)
    (c_by_first_letter : PySem.W.codeIn K cd_by_first_letter "_by_first_letter" = true)
    (p_by_first_letter : PySem.W.keepIn K (.ref f_by_first_letter) = true)
    (aReader_init : PySem.W.findIn K (.ref cRd) "__init__" = some (some (.ref fReader_init)))
    (iReader_init : PySem.W.isFn K (.ref fReader_init) = true)
    (lReader_init : K.lookup fReader_init = some ⟨ocReader_init, odReader_init, .func (PySem.W.fnOf "__init__" "Reader.__init__" (defArgs st_Reader_init) (defBody st_Reader_init) (defScope st_Reader_init) .none kVReader_init dcReader_init pmReader_init anReader_init cdReader_init ctReader_init), slReader_init⟩)
    (cReader_init : PySem.W.codeIn K cdReader_init "Reader.__init__" = true)
    (pReader_init : PySem.W.keepIn K (.ref fReader_init) = true)
    (ais_rest_ahead : PySem.W.nsIn K mainGlobals "is_rest_ahead" = some (some (.ref fis_rest_ahead)))
    (lis_rest_ahead : K.lookup fis_rest_ahead = some ⟨ocis_rest_ahead, odis_rest_ahead, .func (PySem.W.fnOf "is_rest_ahead" "is_rest_ahead" (defArgs st_is_rest_ahead) (defBody st_is_rest_ahead) (defScope st_is_rest_ahead) .none kVis_rest_ahead dcis_rest_ahead pmis_rest_ahead anis_rest_ahead cdis_rest_ahead ctis_rest_ahead), slis_rest_ahead⟩)
    (cis_rest_ahead : PySem.W.codeIn K cdis_rest_ahead "is_rest_ahead" = true)
    (pis_rest_ahead : PySem.W.keepIn K (.ref fis_rest_ahead) = true)
    (aReader_follow : PySem.W.findIn K (.ref cRd) "follow" = some (some (.ref fReader_follow)))
    (iReader_follow : PySem.W.isFn K (.ref fReader_follow) = true)
    (lReader_follow : K.lookup fReader_follow = some ⟨ocReader_follow, odReader_follow, .func (PySem.W.fnOf "follow" "Reader.follow" (defArgs st_Reader_follow) (defBody st_Reader_follow) (defScope st_Reader_follow) .none kVReader_follow dcReader_follow pmReader_follow anReader_follow cdReader_follow ctReader_follow), slReader_follow⟩)
    (cReader_follow : PySem.W.codeIn K cdReader_follow "Reader.follow" = true)
    (pReader_follow : PySem.W.keepIn K (.ref fReader_follow) = true)
    (ais_even : PySem.W.nsIn K mainGlobals "is_even" = some (some (.ref fis_even)))
    (lis_even : K.lookup fis_even = some ⟨ocis_even, odis_even, .func (PySem.W.fnOf "is_even" "is_even" (defArgs st_is_even) (defBody st_is_even) (defScope st_is_even) .none kVis_even dcis_even pmis_even anis_even cdis_even ctis_even), slis_even⟩)
    (cis_even : PySem.W.codeIn K cdis_even "is_even" = true)
    (pis_even : PySem.W.keepIn K (.ref fis_even) = true)
    (aafter : PySem.W.nsIn K mainGlobals "after" = some (some (.ref fafter)))
    (lafter : K.lookup fafter = some ⟨ocafter, odafter, .func (PySem.W.fnOf "after" "after" (defArgs st_after) (defBody st_after) (defScope st_after) .none kVafter dcafter pmafter anafter cdafter ctafter), slafter⟩)
    (cafter : PySem.W.codeIn K cdafter "after" = true)
    (pafter : PySem.W.keepIn K (.ref fafter) = true)
    (a_law_told : PySem.W.nsIn K mainGlobals "_law_told" = some (some (.ref f_law_told)))
    (l_law_told : K.lookup f_law_told = some ⟨oc_law_told, od_law_told, .func (PySem.W.fnOf "_law_told" "_law_told" (defArgs st__law_told) (defBody st__law_told) (defScope st__law_told) .none kV_law_told dc_law_told pm_law_told an_law_told cd_law_told ct_law_told), sl_law_told⟩)
    (c_law_told : PySem.W.codeIn K cd_law_told "_law_told" = true)
    (p_law_told : PySem.W.keepIn K (.ref f_law_told) = true)
    (aPair_swapped : PySem.W.findIn K (.ref cPr) "swapped" = some (some (.ref fPair_swapped)))
    (iPair_swapped : PySem.W.isFn K (.ref fPair_swapped) = true)
    (lPair_swapped : K.lookup fPair_swapped = some ⟨ocPair_swapped, odPair_swapped, .func (PySem.W.fnOf "swapped" "Pair.swapped" (defArgs st_Pair_swapped) (defBody st_Pair_swapped) (defScope st_Pair_swapped) .none kVPair_swapped dcPair_swapped pmPair_swapped anPair_swapped cdPair_swapped ctPair_swapped), slPair_swapped⟩)
    (cPair_swapped : PySem.W.codeIn K cdPair_swapped "Pair.swapped" = true)
    (pPair_swapped : PySem.W.keepIn K (.ref fPair_swapped) = true)
    (alaw : PySem.W.nsIn K mainGlobals "law" = some (some (.ref flaw)))
    (llaw : K.lookup flaw = some ⟨oclaw, odlaw, .func (PySem.W.fnOf "law" "law" (defArgs st_law) (defBody st_law) (defScope st_law) .none kVlaw dclaw pmlaw anlaw cdlaw ctlaw), sllaw⟩)
    (claw : PySem.W.codeIn K cdlaw "law" = true)
    (plaw : PySem.W.keepIn K (.ref flaw) = true) :
    ∃ fd : FuncData, (∀ (s : Shared) (u : Value), BindsTo s fd ⟨[u], []⟩ [("script", u)]) ∧ ∀ base : Heap, K.In base → base.Ns mainGlobals mg → FnOk l.prog w K mg base (L2.CX l.prog w) 6 fa fd ["script"] (spF (S_law K)) := by
  have e := hfa.symm.trans (PySem.W.mg_of X G alaw)
  cases e
  have T : Txt K mg cAE cBB cBT cNA cBk cPr cRd aE0 aEV aSI := { no_isinstance := PySem.W.mg_none_of X G z_isinstance, no_int := PySem.W.mg_none_of X G z_int, no_bool := PySem.W.mg_none_of X G z_bool, no_tuple := PySem.W.mg_none_of X G z_tuple, no_list := PySem.W.mg_none_of X G z_list, no_all := PySem.W.mg_none_of X G z_all, no_len := PySem.W.mg_none_of X G z_len, no_abs := PySem.W.mg_none_of X G z_abs, no_range := PySem.W.mg_none_of X G z_range, no_max := PySem.W.mg_none_of X G z_max, no_min := PySem.W.mg_none_of X G z_min, no_set := PySem.W.mg_none_of X G z_set, no_str := PySem.W.mg_none_of X G z_str, no_enumerate := PySem.W.mg_none_of X G z_enumerate, c_MOST_LETTERS := ⟨_, PySem.W.mg_of X G k_c_MOST_LETTERS, ⟨_, rfl⟩⟩, c_MOST_WORDS := ⟨_, PySem.W.mg_of X G k_c_MOST_WORDS, ⟨_, rfl⟩⟩, c_LONGEST_WORD := ⟨_, PySem.W.mg_of X G k_c_LONGEST_WORD, ⟨_, rfl⟩⟩, e_AlikeError := ⟨PySem.W.mg_of X G a_cAE, x_cAE, p_cAE, b_cAE, t_cAE⟩, e_BadBook := ⟨PySem.W.mg_of X G a_cBB, x_cBB, p_cBB, b_cBB, t_cBB⟩, e_BadRest := ⟨PySem.W.mg_of X G a_cBT, x_cBT, p_cBT, b_cBT, t_cBT⟩, e_NotApart := ⟨PySem.W.mg_of X G a_cNA, x_cNA, p_cNA, b_cNA, t_cNA⟩, x_cBT := ⟨e1_cBT, e2_cBT, b_cBT, e4_cBT, e5_cBT, e6, e7, e8_cBT⟩, x_cNA := ⟨e1_cNA, e2_cNA, b_cNA, e4_cNA, e5_cNA, e6, e7, e8_cNA⟩, m_cBT := PySem.W.exm_ref b_cAE e4_cAE t_cAE s_m_cBT, m_cNA := PySem.W.exm_ref b_cAE e4_cAE t_cAE s_m_cNA, k_cBT_cBT := s_k_cBT_cBT, k_cBT_cNA := s_k_cBT_cNA, k_cNA_cBT := s_k_cNA_cBT, k_cNA_cNA := s_k_cNA_cNA, cl_cBk := ⟨pg_cBk, hd_cBk, po_cBk, sa_cBk⟩, cl_cPr := ⟨pg_cPr, hd_cPr, po_cPr, sa_cPr⟩, cl_cRd := ⟨pg_cRd, hd_cRd, po_cRd, sa_cRd⟩, kt_aE0 := ⟨_, _, _, l_aE0, Nat.le_of_ble_eq_true rfl, .nil⟩, c_EVEN := ⟨_, PySem.W.mg_of X G g_aEV, rfl⟩, kt_aEV := ⟨_, _, _, l_aEV, Nat.le_of_ble_eq_true rfl, (.cons ⟨_, rfl⟩ (.cons rfl .nil))⟩, c_SIDES := ⟨_, PySem.W.mg_of X G g_aSI, rfl⟩, kt_aSI := ⟨_, _, _, l_aSI, Nat.le_of_ble_eq_true rfl, (.cons ⟨_, rfl⟩ (.cons ⟨_, rfl⟩ .nil))⟩, n_cBk_letters := n_n_cBk_letters, n_cBk_size := n_n_cBk_size, n_cBk__words := n_n_cBk__words, n_cPr_first := n_n_cPr_first, n_cPr_second := n_n_cPr_second, n_cPr_letters := n_n_cPr_letters, n_cRd__words := n_n_cRd__words, n_cRd__numbers := n_n_cRd__numbers }
  have F_law_draws := fun_mk (st := st__law_draws) l_law_draws c_law_draws p_law_draws
  have b_law_draws := F_law_draws.binds (ps := ["script", "many"]) fun _ _ _ _ _ _ us hl => match us, hl with | [_, _], _ => rfl
  have F_law_words := fun_mk (st := st__law_words) l_law_words c_law_words p_law_words
  have b_law_words := F_law_words.binds (ps := ["draws", "letters", "size", "longest", "apart"]) fun _ _ _ _ _ _ us hl => match us, hl with | [_, _, _, _, _], _ => rfl
  have F_law_pair := fun_mk (st := st__law_pair) l_law_pair c_law_pair p_law_pair
  have b_law_pair := F_law_pair.binds (ps := ["draws", "letters", "longest"]) fun _ _ _ _ _ _ us hl => match us, hl with | [_, _, _], _ => rfl
  have FPair_init := fun_mk (st := st_Pair_init) lPair_init cPair_init pPair_init
  have bPair_init := FPair_init.binds (ps := ["self", "first", "second"]) fun _ _ _ _ _ _ us hl => match us, hl with | [_, _, _], _ => rfl
  have Fis_count := fun_mk (st := st_is_count) lis_count cis_count pis_count
  have bis_count := Fis_count.binds (ps := ["value"]) fun _ _ _ _ _ _ us hl => match us, hl with | [_], _ => rfl
  have Fis_below := fun_mk (st := st_is_below) lis_below cis_below pis_below
  have bis_below := Fis_below.binds (ps := ["value", "end"]) fun _ _ _ _ _ _ us hl => match us, hl with | [_, _], _ => rfl
  have Fare_below := fun_mk (st := st_are_below) lare_below care_below pare_below
  have bare_below := Fare_below.binds (ps := ["value", "end"]) fun _ _ _ _ _ _ us hl => match us, hl with | [_, _], _ => rfl
  have F_is_word := fun_mk (st := st__is_word) l_is_word c_is_word p_is_word
  have b_is_word := F_is_word.binds (ps := ["value", "letters"]) fun _ _ _ _ _ _ us hl => match us, hl with | [_, _], _ => rfl
  have F_are_words := fun_mk (st := st__are_words) l_are_words c_are_words p_are_words
  have b_are_words := F_are_words.binds (ps := ["value", "letters"]) fun _ _ _ _ _ _ us hl => match us, hl with | [_, _], _ => rfl
  have FBook_init := fun_mk (st := st_Book_init) lBook_init cBook_init pBook_init
  have bBook_init := FBook_init.binds (ps := ["self", "letters", "words"]) fun _ _ _ _ _ _ us hl => match us, hl with | [_, _, _], _ => rfl
  have F_law_letters := fun_mk (st := st__law_letters) l_law_letters c_law_letters p_law_letters
  have b_law_letters := F_law_letters.binds (ps := ["draws", "letters", "one", "two"]) fun _ _ _ _ _ _ us hl => match us, hl with | [_, _, _, _], _ => rfl
  have F_law_due := fun_mk (st := st__law_due) l_law_due c_law_due p_law_due
  have b_law_due := F_law_due.binds (ps := ["words", "letters"]) fun _ _ _ _ _ _ us hl => match us, hl with | [_, _], _ => rfl
  have Fsame_no := fun_mk (st := st_same_no) lsame_no csame_no psame_no
  have bsame_no := Fsame_no.binds (ps := ["told", "due"]) fun _ _ _ _ _ _ us hl => match us, hl with | [_, _], _ => rfl
  have Fsame0 := fun_mk (st := st_same0) lsame0 csame0 psame0
  have bsame0 := Fsame0.binds (ps := ["told", "due"]) fun _ _ _ _ _ _ us hl => match us, hl with | [_, _], _ => rfl
  have Fsame1 := fun_mk (st := st_same1) lsame1 csame1 psame1
  have bsame1 := Fsame1.binds (ps := ["told", "due"]) fun _ _ _ _ _ _ us hl => match us, hl with | [_, _], _ => rfl
  have Fsame2 := fun_mk (st := st_same2) lsame2 csame2 psame2
  have bsame2 := Fsame2.binds (ps := ["told", "due"]) fun _ _ _ _ _ _ us hl => match us, hl with | [_, _], _ => rfl
  have F_law_same_as := fun_mk (st := st__law_same_as) l_law_same_as c_law_same_as p_law_same_as
  have b_law_same_as := F_law_same_as.binds (ps := ["told", "due"]) fun _ _ _ _ _ _ us hl => match us, hl with | [_, _], _ => rfl
  have FBook_words := fun_mk (st := st_Book_words) lBook_words cBook_words pBook_words
  have bBook_words := FBook_words.binds (ps := ["self"]) fun _ _ _ _ _ _ us hl => match us, hl with | [_], _ => rfl
  have F_by_first_letter := fun_mk (st := st__by_first_letter) l_by_first_letter c_by_first_letter p_by_first_letter
  have b_by_first_letter := F_by_first_letter.binds (ps := ["words"]) fun _ _ _ _ _ _ us hl => match us, hl with | [_], _ => rfl
  have FReader_init := fun_mk (st := st_Reader_init) lReader_init cReader_init pReader_init
  have bReader_init := FReader_init.binds (ps := ["self", "pair"]) fun _ _ _ _ _ _ us hl => match us, hl with | [_, _], _ => rfl
  have Fis_rest_ahead := fun_mk (st := st_is_rest_ahead) lis_rest_ahead cis_rest_ahead pis_rest_ahead
  have bis_rest_ahead := Fis_rest_ahead.binds (ps := ["value", "letters"]) fun _ _ _ _ _ _ us hl => match us, hl with | [_, _], _ => rfl
  have FReader_follow := fun_mk (st := st_Reader_follow) lReader_follow cReader_follow pReader_follow
  have bReader_follow := FReader_follow.binds (ps := ["self", "state"]) fun _ _ _ _ _ _ us hl => match us, hl with | [_, _], _ => rfl
  have Fis_even := fun_mk (st := st_is_even) lis_even cis_even pis_even
  have bis_even := Fis_even.binds (ps := ["state"]) fun _ _ _ _ _ _ us hl => match us, hl with | [_], _ => rfl
  have Fafter := fun_mk (st := st_after) lafter cafter pafter
  have bafter := Fafter.binds (ps := ["pair", "rest"]) fun _ _ _ _ _ _ us hl => match us, hl with | [_, _], _ => rfl
  have F_law_told := fun_mk (st := st__law_told) l_law_told c_law_told p_law_told
  have b_law_told := F_law_told.binds (ps := ["pair", "rest"]) fun _ _ _ _ _ _ us hl => match us, hl with | [_, _], _ => rfl
  have FPair_swapped := fun_mk (st := st_Pair_swapped) lPair_swapped cPair_swapped pPair_swapped
  have bPair_swapped := FPair_swapped.binds (ps := ["self"]) fun _ _ _ _ _ _ us hl => match us, hl with | [_], _ => rfl
  have Flaw := fun_mk (st := st_law) llaw claw plaw
  refine ⟨PySem.W.fnOf "law" "law" (defArgs st_law) (defBody st_law) (defScope st_law) .none kVlaw dclaw pmlaw anlaw cdlaw ctlaw, fun s u => .of_eq rfl, fun base _ _ => ?_⟩
  have C_law_draws : FnC l.prog w K mg base 1 "_law_draws" (spF (S_law_draws K)) := ⟨⟨_, _, _, ok__law_draws T  F_law_draws, PySem.W.mg_of X G a_law_draws, p_law_draws, b_law_draws⟩⟩
  have C_law_words : FnC l.prog w K mg base 1 "_law_words" (spF (S_law_words)) := ⟨⟨_, _, _, ok__law_words T  F_law_words, PySem.W.mg_of X G a_law_words, p_law_words, b_law_words⟩⟩
  have C_law_pair : FnC l.prog w K mg base 2 "_law_pair" (spF (S_law_pair)) := ⟨⟨_, _, _, ok__law_pair T C_law_words F_law_pair, PySem.W.mg_of X G a_law_pair, p_law_pair, b_law_pair⟩⟩
  have CPair_init : MkC l.prog w K mg base 1 cPr "Pair" (spN cPr (S_Pair cBk cBB)) := ⟨⟨_, _, _, ok_Pair_init T  FPair_init, ⟨mk_cPr, aPair_init, iPair_init, kc_cPr⟩, PySem.W.mg_of X G a_cPr, bPair_init⟩⟩
  have Cis_count : FnC l.prog w K mg base 1 "is_count" (spF (S_is_count)) := ⟨⟨_, _, _, ok_is_count T  Fis_count, PySem.W.mg_of X G ais_count, pis_count, bis_count⟩⟩
  have Cis_below : FnC l.prog w K mg base 2 "is_below" (spF (S_is_below)) := ⟨⟨_, _, _, ok_is_below T Cis_count Fis_below, PySem.W.mg_of X G ais_below, pis_below, bis_below⟩⟩
  have Care_below : FnC l.prog w K mg base 1 "are_below" (spF (S_are_below)) := ⟨⟨_, _, _, ok_are_below T  Fare_below, PySem.W.mg_of X G aare_below, pare_below, bare_below⟩⟩
  have C_is_word : FnC l.prog w K mg base 2 "_is_word" (spF (S_is_word)) := ⟨⟨_, _, _, ok__is_word T Care_below F_is_word, PySem.W.mg_of X G a_is_word, p_is_word, b_is_word⟩⟩
  have C_are_words : FnC l.prog w K mg base 3 "_are_words" (spF (S_are_words)) := ⟨⟨_, _, _, ok__are_words T C_is_word F_are_words, PySem.W.mg_of X G a_are_words, p_are_words, b_are_words⟩⟩
  have CBook_init : MkC l.prog w K mg base 4 cBk "Book" (spN cBk (S_Book cBB)) := ⟨⟨_, _, _, ok_Book_init T Cis_below C_are_words FBook_init, ⟨mk_cBk, aBook_init, iBook_init, kc_cBk⟩, PySem.W.mg_of X G a_cBk, bBook_init⟩⟩
  have C_law_letters : FnC l.prog w K mg base 1 "_law_letters" (spF (S_law_letters)) := ⟨⟨_, _, _, ok__law_letters T  F_law_letters, PySem.W.mg_of X G a_law_letters, p_law_letters, b_law_letters⟩⟩
  have C_law_due : FnC l.prog w K mg base 1 "_law_due" (spF (S_law_due)) := ⟨⟨_, _, _, ok__law_due T  F_law_due, PySem.W.mg_of X G a_law_due, p_law_due, b_law_due⟩⟩
  have Csame_no : FnC l.prog w K mg base 1 "_law_same_as" (spF (S_sameP K Q_no)) := ⟨⟨_, _, _, ok_same_no T  Fsame_no, PySem.W.mg_of X G asame_no, psame_no, bsame_no⟩⟩
  have Csame0 : FnC l.prog w K mg base 2 "_law_same_as" (spF (S_sameP K (Q_up Q_no))) := ⟨⟨_, _, _, ok_same0 T Csame_no Fsame0, PySem.W.mg_of X G asame0, psame0, bsame0⟩⟩
  have Csame1 : FnC l.prog w K mg base 3 "_law_same_as" (spF (S_sameP K (Q_up (Q_up Q_no)))) := ⟨⟨_, _, _, ok_same1 T Csame0 Fsame1, PySem.W.mg_of X G asame1, psame1, bsame1⟩⟩
  have Csame2 : FnC l.prog w K mg base 4 "_law_same_as" (spF (S_sameP K (Q_up (Q_up (Q_up Q_no))))) := ⟨⟨_, _, _, ok_same2 T Csame1 Fsame2, PySem.W.mg_of X G asame2, psame2, bsame2⟩⟩
  have C_law_same_as : FnC l.prog w K mg base 5 "_law_same_as" (spF (S_sameP K (Q_up (Q_up (Q_up (Q_up Q_no)))))) := ⟨⟨_, _, _, ok__law_same_as T Csame2 F_law_same_as, PySem.W.mg_of X G a_law_same_as, p_law_same_as, b_law_same_as⟩⟩
  have CBook_words : MtC l.prog w K mg base 1 cBk "words" (spF (S_words cBk)) := ⟨⟨_, _, _, ok_Book_words T  FBook_words, T.cl_cBk, ⟨aBook_words, iBook_words, pBook_words⟩, bBook_words⟩⟩
  have C_by_first_letter : FnC l.prog w K mg base 1 "_by_first_letter" (spF (S_by_first)) := ⟨⟨_, _, _, ok__by_first_letter T  F_by_first_letter, PySem.W.mg_of X G a_by_first_letter, p_by_first_letter, b_by_first_letter⟩⟩
  have CReader_init : MkC l.prog w K mg base 2 cRd "Reader" (spN cRd (S_Reader cBk cPr cNA)) := ⟨⟨_, _, _, ok_Reader_init T CBook_words C_by_first_letter FReader_init, ⟨mk_cRd, aReader_init, iReader_init, kc_cRd⟩, PySem.W.mg_of X G a_cRd, bReader_init⟩⟩
  have Cis_rest_ahead : FnC l.prog w K mg base 2 "is_rest_ahead" (spF (S_is_rest)) := ⟨⟨_, _, _, ok_is_rest_ahead T Care_below Fis_rest_ahead, PySem.W.mg_of X G ais_rest_ahead, pis_rest_ahead, bis_rest_ahead⟩⟩
  have CReader_follow : MtC l.prog w K mg base 1 cRd "follow" (spF (S_follow cRd)) := ⟨⟨_, _, _, ok_Reader_follow T  FReader_follow, T.cl_cRd, ⟨aReader_follow, iReader_follow, pReader_follow⟩, bReader_follow⟩⟩
  have Cis_even : FnC l.prog w K mg base 1 "is_even" (spF (S_is_even')) := ⟨⟨_, _, _, ok_is_even T  Fis_even, PySem.W.mg_of X G ais_even, pis_even, bis_even⟩⟩
  have Cafter : FnC l.prog w K mg base 4 "after" (spF (S_after K cBk cPr cBT cNA)) := ⟨⟨_, _, _, ok_after T CReader_init Cis_rest_ahead CReader_follow Cis_even Fafter, PySem.W.mg_of X G aafter, pafter, bafter⟩⟩
  have C_law_told : FnC l.prog w K mg base 5 "_law_told" (spF (S_law_told K cBk cPr)) := ⟨⟨_, _, _, ok__law_told T Cafter F_law_told, PySem.W.mg_of X G a_law_told, p_law_told, b_law_told⟩⟩
  have CPair_swapped : MtC l.prog w K mg base 3 cPr "swapped" (spF (S_swapped cBk cPr)) := ⟨⟨_, _, _, ok_Pair_swapped T CPair_init FPair_swapped, T.cl_cPr, ⟨aPair_swapped, iPair_swapped, pPair_swapped⟩, bPair_swapped⟩⟩
  exact ok_law T C_law_draws C_law_pair CPair_init CBook_init C_law_letters C_law_due C_law_same_as C_law_told CPair_swapped Flaw
theorem walk {l : PySem.W.OpenLaw} {q : Program} {loose : List Str} {XP : (Str → Option Value) → Heap → Prop} {YP : World → Heap → Prop} {d : DefRec} {K : Params → PySem.W.Frag} (hn : l.most = some 63) (hdf : d.params.defaults = [])
    (hY : ∀ (w : World) (h : Heap), YP w h → (K w.params).In h)
    (F : ∀ (w : World) (mg : Str → Option Value) (fa : Addr) (h : Heap), (K w.params).In h → h.Ns mainGlobals mg → mg d.name = some (.ref fa) →
      ∃ fd : FuncData, (∀ (s : Shared) (u : Value), BindsTo s fd ⟨[u], []⟩ [("script", u)]) ∧ ∀ base : Heap, (K w.params).In base → base.Ns mainGlobals mg → FnOk l.prog w (K w.params) mg base (L2.CX l.prog w) 6 fa fd ["script"] (spF (S_law (K w.params)))) :
    PySem.W.WalkO q loose XP YP l.row.toRowW d [] (fun f vs => PySem.call f vs) := by
  refine L2.walk_of (n := 63) (k := 6) (x := "script") (CX := fun w => L2.CX l.prog w) (sp := fun w => spF (S_law (K w.params))) hn (by decide) hdf ⟨rfl, by decide, by decide⟩ hY F (fun w H a ns hl _ hS => ?_) fun w H s e s' z => ?_
  · exact ⟨⟨ns, hl⟩, H, fun _ => none, rfl, fun _ _ _ => rfl, .cons ⟨a, rfl, hS⟩ .nil, fun v B' _ _ hv => dp_bool hv⟩
  · obtain ⟨a, B, H', cls, d, _, _, _, _, _, _, _, q⟩ := z
    exact q
end K10

open PySem PySem.W PyProof.Rows in
set_option maxRecDepth 100000 in
set_option maxHeartbeats 0 in
theorem PySem.Challenge.cw_alikeread_k10_what_must_come_holds : PySem.Challenge.rw_alikeread_k10_what_must_come.Holds := by
  w_on; o_law; k_head; (case hw => w_witness2)
  k_fill
  refine K10.walk (l := PySem.Challenge.rw_alikeread_k10_what_must_come) rfl rfl (fun w h Y => PySem.W.kIn_of Y) ?F
  case F =>
    intro w mg fa h KX G hmg
    refine' K10.all_mk KX G hmg ?l_aE0 ?g_aEV ?l_aEV ?g_aSI ?l_aSI ?a_cAE ?a_cBB ?a_cBT ?a_cNA ?a_cBk ?a_cPr ?a_cRd ?k_c_MOST_LETTERS ?k_c_MOST_WORDS ?k_c_LONGEST_WORD ?z_isinstance ?z_int ?z_bool ?z_tuple ?z_list ?z_all ?z_len ?z_abs ?z_range ?z_max ?z_min ?z_set ?z_str ?z_enumerate ?x_cAE ?p_cAE ?b_cAE ?t_cAE ?x_cBB ?p_cBB ?b_cBB ?t_cBB ?x_cBT ?p_cBT ?b_cBT ?t_cBT ?x_cNA ?p_cNA ?b_cNA ?t_cNA ?e6 ?e7 ?e1_cBT ?e2_cBT ?e4_cBT ?e5_cBT ?e8_cBT ?e1_cNA ?e2_cNA ?e4_cNA ?e5_cNA ?e8_cNA ?e4_cAE ?s_m_cBT ?s_m_cNA ?s_k_cBT_cBT ?s_k_cBT_cNA ?s_k_cNA_cBT ?s_k_cNA_cNA ?pg_cBk ?hd_cBk ?po_cBk ?sa_cBk ?mk_cBk ?kc_cBk ?pg_cPr ?hd_cPr ?po_cPr ?sa_cPr ?mk_cPr ?kc_cPr ?pg_cRd ?hd_cRd ?po_cRd ?sa_cRd ?mk_cRd ?kc_cRd ?n_n_cBk_letters ?n_n_cBk_size ?n_n_cBk__words ?n_n_cPr_first ?n_n_cPr_second ?n_n_cPr_letters ?n_n_cRd__words ?n_n_cRd__numbers ?a_law_draws ?l_law_draws ?c_law_draws ?p_law_draws ?a_law_words ?l_law_words ?c_law_words ?p_law_words ?a_law_pair ?l_law_pair ?c_law_pair ?p_law_pair ?aPair_init ?iPair_init ?lPair_init ?cPair_init ?pPair_init ?ais_count ?lis_count ?cis_count ?pis_count ?ais_below ?lis_below ?cis_below ?pis_below ?aare_below ?lare_below ?care_below ?pare_below ?a_is_word ?l_is_word ?c_is_word ?p_is_word ?a_are_words ?l_are_words ?c_are_words ?p_are_words ?aBook_init ?iBook_init ?lBook_init ?cBook_init ?pBook_init ?a_law_letters ?l_law_letters ?c_law_letters ?p_law_letters ?a_law_due ?l_law_due ?c_law_due ?p_law_due ?asame_no ?lsame_no ?csame_no ?psame_no ?asame0 ?lsame0 ?csame0 ?psame0 ?asame1 ?lsame1 ?csame1 ?psame1 ?asame2 ?lsame2 ?csame2 ?psame2 ?a_law_same_as ?l_law_same_as ?c_law_same_as ?p_law_same_as ?aBook_words ?iBook_words ?lBook_words ?cBook_words ?pBook_words ?a_by_first_letter ?l_by_first_letter ?c_by_first_letter ?p_by_first_letter ?aReader_init ?iReader_init ?lReader_init ?cReader_init ?pReader_init ?ais_rest_ahead ?lis_rest_ahead ?cis_rest_ahead ?pis_rest_ahead ?aReader_follow ?iReader_follow ?lReader_follow ?cReader_follow ?pReader_follow ?ais_even ?lis_even ?cis_even ?pis_even ?aafter ?lafter ?cafter ?pafter ?a_law_told ?l_law_told ?c_law_told ?p_law_told ?aPair_swapped ?iPair_swapped ?lPair_swapped ?cPair_swapped ?pPair_swapped ?alaw ?llaw ?claw ?plaw
    (case g_aEV => k_is)
    (case l_aEV => k_is)
    (case g_aSI => k_is)
    (case l_aSI => k_is)
    (case l_aE0 => k_is)
    (case a_cAE => k_is)
    (case a_cBB => k_is)
    (case a_cBT => k_is)
    (case a_cNA => k_is)
    (case a_cBk => k_is)
    (case a_cPr => k_is)
    (case a_cRd => k_is)
    (case k_c_MOST_LETTERS => k_is)
    (case k_c_MOST_WORDS => k_is)
    (case k_c_LONGEST_WORD => k_is)
    (case z_isinstance => k_is)
    (case z_int => k_is)
    (case z_bool => k_is)
    (case z_tuple => k_is)
    (case z_list => k_is)
    (case z_all => k_is)
    (case z_len => k_is)
    (case z_abs => k_is)
    (case z_range => k_is)
    (case z_max => k_is)
    (case z_min => k_is)
    (case z_set => k_is)
    (case z_str => k_is)
    (case z_enumerate => k_is)
    (case x_cAE => k_exc)
    (case p_cAE => k_is)
    (case b_cAE => k_is)
    (case t_cAE => k_is)
    (case x_cBB => k_exc)
    (case p_cBB => k_is)
    (case b_cBB => k_is)
    (case t_cBB => k_is)
    (case x_cBT => k_exc)
    (case p_cBT => k_is)
    (case b_cBT => k_is)
    (case t_cBT => k_is)
    (case x_cNA => k_exc)
    (case p_cNA => k_is)
    (case b_cNA => k_is)
    (case t_cNA => k_is)
    (case e6 => k_is)
    (case e7 => k_is)
    (case e1_cBT => k_is)
    (case e2_cBT => k_is)
    (case e4_cBT => k_is)
    (case e5_cBT => k_is)
    (case e8_cBT => k_is)
    (case e1_cNA => k_is)
    (case e2_cNA => k_is)
    (case e4_cNA => k_is)
    (case e5_cNA => k_is)
    (case e8_cNA => k_is)
    (case e4_cAE => k_is)
    (case s_m_cBT => (first | rfl | k_is))
    (case s_m_cNA => (first | rfl | k_is))
    (case s_k_cBT_cBT => (first | rfl | k_is))
    (case s_k_cBT_cNA => (first | rfl | k_is))
    (case s_k_cNA_cBT => (first | rfl | k_is))
    (case s_k_cNA_cNA => (first | rfl | k_is))
    (case pg_cBk => k_is)
    (case hd_cBk => k_is)
    (case po_cBk => k_is)
    (case sa_cBk => k_is)
    (case mk_cBk => k_is)
    (case kc_cBk => k_is)
    (case pg_cPr => k_is)
    (case hd_cPr => k_is)
    (case po_cPr => k_is)
    (case sa_cPr => k_is)
    (case mk_cPr => k_is)
    (case kc_cPr => k_is)
    (case pg_cRd => k_is)
    (case hd_cRd => k_is)
    (case po_cRd => k_is)
    (case sa_cRd => k_is)
    (case mk_cRd => k_is)
    (case kc_cRd => k_is)
    (case n_n_cBk_letters => k_is)
    (case n_n_cBk_size => k_is)
    (case n_n_cBk__words => k_is)
    (case n_n_cPr_first => k_is)
    (case n_n_cPr_second => k_is)
    (case n_n_cPr_letters => k_is)
    (case n_n_cRd__words => k_is)
    (case n_n_cRd__numbers => k_is)
    (case a_law_draws => k_is)
    (case l_law_draws => k_is)
    (case c_law_draws => k_is)
    (case p_law_draws => k_is)
    (case a_law_words => k_is)
    (case l_law_words => k_is)
    (case c_law_words => k_is)
    (case p_law_words => k_is)
    (case a_law_pair => k_is)
    (case l_law_pair => k_is)
    (case c_law_pair => k_is)
    (case p_law_pair => k_is)
    (case aPair_init => k_is)
    (case iPair_init => k_is)
    (case lPair_init => k_is)
    (case cPair_init => k_is)
    (case pPair_init => k_is)
    (case ais_count => k_is)
    (case lis_count => k_is)
    (case cis_count => k_is)
    (case pis_count => k_is)
    (case ais_below => k_is)
    (case lis_below => k_is)
    (case cis_below => k_is)
    (case pis_below => k_is)
    (case aare_below => k_is)
    (case lare_below => k_is)
    (case care_below => k_is)
    (case pare_below => k_is)
    (case a_is_word => k_is)
    (case l_is_word => k_is)
    (case c_is_word => k_is)
    (case p_is_word => k_is)
    (case a_are_words => k_is)
    (case l_are_words => k_is)
    (case c_are_words => k_is)
    (case p_are_words => k_is)
    (case aBook_init => k_is)
    (case iBook_init => k_is)
    (case lBook_init => k_is)
    (case cBook_init => k_is)
    (case pBook_init => k_is)
    (case a_law_letters => k_is)
    (case l_law_letters => k_is)
    (case c_law_letters => k_is)
    (case p_law_letters => k_is)
    (case a_law_due => k_is)
    (case l_law_due => k_is)
    (case c_law_due => k_is)
    (case p_law_due => k_is)
    (case asame_no => k_is)
    (case lsame_no => k_is)
    (case csame_no => k_is)
    (case psame_no => k_is)
    (case asame0 => k_is)
    (case lsame0 => k_is)
    (case csame0 => k_is)
    (case psame0 => k_is)
    (case asame1 => k_is)
    (case lsame1 => k_is)
    (case csame1 => k_is)
    (case psame1 => k_is)
    (case asame2 => k_is)
    (case lsame2 => k_is)
    (case csame2 => k_is)
    (case psame2 => k_is)
    (case a_law_same_as => k_is)
    (case l_law_same_as => k_is)
    (case c_law_same_as => k_is)
    (case p_law_same_as => k_is)
    (case aBook_words => k_is)
    (case iBook_words => k_is)
    (case lBook_words => k_is)
    (case cBook_words => k_is)
    (case pBook_words => k_is)
    (case a_by_first_letter => k_is)
    (case l_by_first_letter => k_is)
    (case c_by_first_letter => k_is)
    (case p_by_first_letter => k_is)
    (case aReader_init => k_is)
    (case iReader_init => k_is)
    (case lReader_init => k_is)
    (case cReader_init => k_is)
    (case pReader_init => k_is)
    (case ais_rest_ahead => k_is)
    (case lis_rest_ahead => k_is)
    (case cis_rest_ahead => k_is)
    (case pis_rest_ahead => k_is)
    (case aReader_follow => k_is)
    (case iReader_follow => k_is)
    (case lReader_follow => k_is)
    (case cReader_follow => k_is)
    (case pReader_follow => k_is)
    (case ais_even => k_is)
    (case lis_even => k_is)
    (case cis_even => k_is)
    (case pis_even => k_is)
    (case aafter => k_is)
    (case lafter => k_is)
    (case cafter => k_is)
    (case pafter => k_is)
    (case a_law_told => k_is)
    (case l_law_told => k_is)
    (case c_law_told => k_is)
    (case p_law_told => k_is)
    (case aPair_swapped => k_is)
    (case iPair_swapped => k_is)
    (case lPair_swapped => k_is)
    (case cPair_swapped => k_is)
    (case pPair_swapped => k_is)
    (case alaw => k_is)
    (case llaw => k_is)
    (case claw => k_is)
    (case plaw => k_is)

