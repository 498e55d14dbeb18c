import PyProof.Rows.All
import Wide.All
import OpenK.AllK
import Wide.FinOn
import HandS.ForMost
import HandS.ForExc
import HandS.Evl
import HandS.IsInst
import HandS.ExcIs
import HandS.Conv
import HandS.TupMul
import HandS.TupAny
import HandS.CallSlots
import HandS.SetBool
import HandS.Strs
import HandS.Zip
import HandS.Style
import HandS.Comp
import HandS.DictComp
import HandS.Iter
import HandS.TupLe
import HandS.Text
import HandS.Walk
import HandS.Dict
import HandS.SetFor
import PyProof.EnumMake
import PyProof.Draws
import PySem.Challenge.RW_alikeread_k60_steps_and_rests
set_option Elab.async false
set_option linter.all false
set_option maxRecDepth 100000
set_option maxHeartbeats 4000000
namespace Mini
open PySem L2 Evl

/-! ### the heap in two parts: B what stays, M what is owned and may change -/
def jn (B M : Hp) : Hp := fun a => match M a with
  | some o => some o
  | none => B a
def Dj (B M : Hp) : Prop := ∀ a o, B a = some o → M a = none
theorem jn_M {B M : Hp} {a : Addr} {o : HO} (h : M a = some o) : jn B M a = some o := by unfold jn; rw [h]
theorem jn_N {B M : Hp} {a : Addr} (h : M a = none) : jn B M a = B a := by unfold jn; rw [h]
theorem jn_B {B M : Hp} {a : Addr} {o : HO} (d : Dj B M) (h : B a = some o) : jn B M a = some o := by rw [jn_N (d a o h), h]
theorem jn_free {B M : Hp} {a : Addr} (h : jn B M a = none) : B a = none ∧ M a = none := by
  unfold jn at h
  cases e : M a with
  | some o => rw [e] at h; cases h
  | none => rw [e] at h; exact ⟨h, rfl⟩
theorem jn_ex {B M : Hp} (d : Dj B M) : Ex B (jn B M) := fun a o h => jn_B d h
theorem jn_mono {B B' M : Hp} (e : Ex B B') (d : Dj B' M) : Ex (jn B M) (jn B' M) := fun a o h => by
  unfold jn at h ⊢
  cases q : M a with
  | some u => rw [q] at h; exact h
  | none => rw [q] at h; exact e a o h
theorem upd_new {B M : Hp} {p : Addr} {o : HO} (h : jn B M p = none) : upd (jn B M) p o = jn (upd B p o) M := by
  obtain ⟨_, hM⟩ := jn_free h
  funext a
  unfold upd jn
  dsimp only
  by_cases e : a = p
  · rw [if_pos e, e, hM]; simp
  · rw [if_neg e, if_neg e]
theorem dj_new {B M : Hp} {p : Addr} {o : HO} (d : Dj B M) (h : jn B M p = none) : Dj (upd B p o) M := fun a u e => by
  by_cases q : a = p
  · rw [q]; exact (jn_free h).2
  · rw [upd_ne q] at e; exact d a u e
theorem ex_new {B M : Hp} {p : Addr} {o : HO} (h : jn B M p = none) : Ex B (upd B p o) := Ex.new (jn_free h).1
theorem upd_own {B M : Hp} {p : Addr} {o : HO} : upd (jn B M) p o = jn B (upd M p o) := by
  funext a
  unfold upd jn
  dsimp only
  by_cases e : a = p
  · rw [if_pos e, if_pos e]
  · rw [if_neg e, if_neg e]
theorem dj_own {B M : Hp} {p : Addr} {o : HO} (d : Dj B M) (h : B p = none) : Dj B (upd M p o) := fun a u e => by
  by_cases q : a = p
  · rw [q, h] at e; cases e
  · rw [upd_ne q]; exact d a u e
theorem dj_free {B M : Hp} {p : Addr} {o : HO} (d : Dj B M) (h : M p = some o) : B p = none := by
  cases e : B p with
  | none => rfl
  | some u => rw [d p u e] at h; cases h

/-! ### data: what a value is, read out of the heap -/
mutual
inductive Dq (H : Hp) : V → PyData → Prop
  | non : Dq H .non .none
  | bl (b : Bool) : Dq H (.bl b) (.bool b)
  | int (i : Int) : Dq H (.int i) (.int i)
  | str (x : Str) : Dq H (.str x) (.str x)
  | lst {a : Addr} {xs : List V} {ds : List PyData} : H a = some (.lst xs) → DqAll H xs ds → Dq H (.ref a) (.list ds)
  | tup {a : Addr} {xs : List V} {ds : List PyData} : H a = some (.tup xs) → DqAll H xs ds → Dq H (.ref a) (.tuple ds)
inductive DqAll (H : Hp) : List V → List PyData → Prop
  | nil : DqAll H [] []
  | cons {v : V} {vs : List V} {d : PyData} {ds : List PyData} : Dq H v d → DqAll H vs ds → DqAll H (v :: vs) (d :: ds)
end
theorem Dq_ex {H H' : Hp} (e : Ex H H') : ∀ (d : PyData) (v : V), Dq H v d → Dq H' v d
  | .none, _, h => by cases h; exact .non
  | .bool b, _, h => by cases h; exact .bl b
  | .int i, _, h => by cases h; exact .int i
  | .str x, _, h => by cases h; exact .str x
  | .list ds, _, h => by
    cases h with
    | lst hs ha => exact .lst (e _ _ hs) (go e ds _ ha)
  | .tuple ds, _, h => by
    cases h with
    | tup hs ha => exact .tup (e _ _ hs) (go e ds _ ha)
  | .dict _, _, h => by cases h
where
  go {H H' : Hp} (e : Ex H H') : ∀ (ds : List PyData) (vs : List V), DqAll H vs ds → DqAll H' vs ds
  | [], _, h => by cases h; exact .nil
  | d :: ds, _, h => by
    cases h with
    | cons a b => exact .cons (Dq_ex e d _ a) (go e ds _ b)
theorem Dq_dp {K : PySem.W.Frag} {H : Hp} : ∀ (d : PyData) (v : V), Dq H v d → Dp K H v d
  | .none, _, h => by cases h; exact .non
  | .bool b, _, h => by cases h; exact .bl b
  | .int i, _, h => by cases h; exact .int i
  | .str x, _, h => by cases h; exact .str x
  | .list ds, _, h => by
    cases h with
    | lst hs ha => exact .lst (sq_of hs) (go ds _ ha)
  | .tuple ds, _, h => by
    cases h with
    | tup hs ha => exact .tup (st_of hs) (go ds _ ha)
  | .dict _, _, h => by cases h
where
  go {K : PySem.W.Frag} {H : Hp} : ∀ (ds : List PyData) (vs : List V), DqAll H vs ds → DpAll K H vs ds
  | [], _, h => by cases h; exact .nil
  | d :: ds, _, h => by
    cases h with
    | cons a b => exact .cons (Dq_dp d _ a) (go ds _ b)
theorem DqAll_ex {H H' : Hp} (e : Ex H H') {ds : List PyData} {vs : List V} (h : DqAll H vs ds) : DqAll H' vs ds := Dq_ex.go e ds vs h
theorem DqAll_len {H : Hp} : ∀ {ds : List PyData} {vs : List V}, DqAll H vs ds → vs.length = ds.length
  | [], _, h => by cases h; rfl
  | d :: ds, _, h => by cases h with | cons a b => simp [DqAll_len b]
theorem DqAll_get {H : Hp} : ∀ {ds : List PyData} {vs : List V} {i : Nat} {d : PyData}, DqAll H vs ds → ds[i]? = some d → ∃ v, vs[i]? = some v ∧ Dq H v d
  | [], _, i, d, h, e => by simp at e
  | x :: ds, _, 0, d, h, e => by
    cases h with | cons a b => simp at e; subst e; exact ⟨_, rfl, a⟩
  | x :: ds, _, i + 1, d, h, e => by
    cases h with | cons a b => simpa using DqAll_get (i := i) b (by simpa using e)
theorem DqAll_getV {H : Hp} : ∀ {ds : List PyData} {vs : List V} {i : Nat} {v : V}, DqAll H vs ds → vs[i]? = some v → ∃ d, ds[i]? = some d ∧ Dq H v d
  | [], _, i, d, h, e => by cases h; simp at e
  | x :: ds, _, 0, d, h, e => by
    cases h with | cons a b => simp at e; subst e; exact ⟨_, rfl, a⟩
  | x :: ds, _, i + 1, d, h, e => by
    cases h with | cons a b => simpa using DqAll_getV (i := i) b (by simpa using e)
theorem DqAll_append {H : Hp} : ∀ {ds es : List PyData} {vs us : List V}, DqAll H vs ds → DqAll H us es → DqAll H (vs ++ us) (ds ++ es)
  | [], _, _, _, h, g => by cases h; exact g
  | x :: ds, _, _, _, h, g => by cases h with | cons a b => exact .cons a (DqAll_append b g)
theorem DqAll_take {H : Hp} : ∀ {ds : List PyData} {vs : List V} (n : Nat), DqAll H vs ds → DqAll H (vs.take n) (ds.take n)
  | _, _, 0, _ => by simpa using DqAll.nil
  | [], _, n + 1, h => by cases h; simpa using DqAll.nil
  | x :: ds, _, n + 1, h => by cases h with | cons a b => simpa using DqAll.cons a (DqAll_take n b)
theorem DqAll_drop {H : Hp} : ∀ {ds : List PyData} {vs : List V} (n : Nat), DqAll H vs ds → DqAll H (vs.drop n) (ds.drop n)
  | _, _, 0, h => by simpa using h
  | [], _, n + 1, h => by cases h; simpa using DqAll.nil
  | x :: ds, _, n + 1, h => by cases h with | cons a b => simpa using DqAll_drop n b
theorem DqAll_set {H : Hp} {v : V} {d : PyData} (hv : Dq H v d) : ∀ {ds : List PyData} {vs : List V} (n : Nat), DqAll H vs ds → DqAll H (vs.set n v) (ds.set n d)
  | [], _, n, h => by cases h; simpa using DqAll.nil
  | x :: ds, _, 0, h => by cases h with | cons a b => simpa using DqAll.cons hv b
  | x :: ds, _, n + 1, h => by cases h with | cons a b => simpa using DqAll.cons a (DqAll_set hv n b)
theorem DqAll_eraseIdx {H : Hp} : ∀ {ds : List PyData} {vs : List V} (n : Nat), DqAll H vs ds → DqAll H (vs.eraseIdx n) (ds.eraseIdx n)
  | [], _, n, h => by cases h; simpa using DqAll.nil
  | x :: ds, _, 0, h => by cases h with | cons a b => simpa using b
  | x :: ds, _, n + 1, h => by cases h with | cons a b => simpa using DqAll.cons a (DqAll_eraseIdx n b)
theorem DqAll_dropLast {H : Hp} {ds : List PyData} {vs : List V} (h : DqAll H vs ds) : DqAll H vs.dropLast ds.dropLast := by
  rw [List.dropLast_eq_take, List.dropLast_eq_take, DqAll_len h]
  exact DqAll_take _ h
theorem DqAll_rep {H : Hp} {ds : List PyData} {vs : List V} (h : DqAll H vs ds) : ∀ n, DqAll H (List.replicate n vs).flatten (List.replicate n ds).flatten
  | 0 => by simpa using DqAll.nil
  | n + 1 => by simpa [List.replicate_succ] using DqAll_append h (DqAll_rep h n)
theorem DqAll_reverse {H : Hp} : ∀ {ds : List PyData} {vs : List V}, DqAll H vs ds → DqAll H vs.reverse ds.reverse
  | [], _, h => by cases h; exact .nil
  | x :: ds, _, h => by cases h with | cons a b => simpa using DqAll_append (DqAll_reverse b) (.cons a .nil)
theorem DqAll_ints {H : Hp} : ∀ {ns : List Int} {vs : List V}, DqAll H vs (ns.map PyData.int) → vs = ns.map V.int
  | [], _, h => by cases h; rfl
  | n :: ns, _, h => by
    cases h with
    | cons a b => cases a; rw [DqAll_ints b]; rfl
theorem DqAll_ofInts {H : Hp} : ∀ (ns : List Int), DqAll H (ns.map V.int) (ns.map PyData.int)
  | [] => .nil
  | n :: ns => .cons (.int n) (DqAll_ofInts ns)
theorem DqAll_bools {H : Hp} : ∀ {ns : List Bool} {vs : List V}, DqAll H vs (ns.map PyData.bool) → vs = ns.map V.bl
  | [], _, h => by cases h; rfl
  | n :: ns, _, h => by
    cases h with
    | cons a b => cases a; rw [DqAll_bools b]; rfl

/-! ### types of slots -/
structure Ty where
  p : V → Hp → Prop
  mono : ∀ {v : V} {B B' : Hp}, Ex B B' → p v B → p v B'
structure Ow where
  r : Addr → HO → Hp → Prop
  mono : ∀ {a : Addr} {o : HO} {B B' : Hp}, Ex B B' → r a o B → r a o B'
def isD (d : PyData) : Ty := ⟨fun v B => Dq B v d, fun e h => Dq_ex e d _ h⟩
/-- an owned list -/
def isL (ds : List PyData) : Ow := ⟨fun _ o B => ∃ vs, o = .lst vs ∧ DqAll B vs ds, fun e ⟨vs, h, q⟩ => ⟨vs, h, DqAll_ex e q⟩⟩
/-- an instance of the class at C, its attributes as R says -/
def isO (C : Addr) (R : List (Str × V) → Hp → Prop) (mono : ∀ {fs : List (Str × V)} {B B' : Hp}, Ex B B' → R fs B → R fs B') : Ty :=
  ⟨fun v B => ∃ p dx fs, v = .ref p ∧ B p = some (.ins C dx fs) ∧ R fs B, fun e ⟨p, dx, fs, h1, h2, h3⟩ => ⟨p, dx, fs, h1, e _ _ h2, mono e h3⟩⟩
/-- a value of the built-in class or of a class of one's own, as a value -/
def isV (v : V) : Ty := ⟨fun u _ => u = v, fun _ h => h⟩
inductive Sl where
  | no
  | im (P : Ty)
  | ow (R : Ow)
  | bw (R : Ow)
abbrev Gm := List Sl
structure Holds (M0 : Hp) (G : Gm) (σ : L2.St) (B M : Hp) : Prop where
  len : σ.length = G.length
  dj : Dj B M
  cal : Ex M0 M
  im : ∀ (i : Nat) P, G[i]? = some (.im P) → ∃ v, σ[i]? = some (some v) ∧ P.p v B
  ow : ∀ (i : Nat) R, G[i]? = some (.ow R) → ∃ l o, σ[i]? = some (some (.ref l)) ∧ M l = some o ∧ R.r l o B ∧ M0 l = none
  bw : ∀ (i : Nat) R, G[i]? = some (.bw R) → ∃ l o, σ[i]? = some (some (.ref l)) ∧ M0 l = some o ∧ R.r l o B
  ne : ∀ (i j : Nat) R R' l, G[i]? = some (.ow R) → G[j]? = some (.ow R') → σ[i]? = some (some (.ref l)) → σ[j]? = some (some (.ref l)) → i = j
theorem Holds.ext {M0 : Hp} {G : Gm} {σ : L2.St} {B B' M : Hp} (h : Holds M0 G σ B M) (e : Ex B B') (d : Dj B' M) : Holds M0 G σ B' M where
  len := h.len
  dj := d
  cal := h.cal
  im := fun i P q => by obtain ⟨v, a, b⟩ := h.im i P q; exact ⟨v, a, P.mono e b⟩
  ow := fun i R q => by obtain ⟨l, o, a, b, c, f⟩ := h.ow i R q; exact ⟨l, o, a, b, R.mono e c, f⟩
  bw := fun i R q => by obtain ⟨l, o, a, b, c⟩ := h.bw i R q; exact ⟨l, o, a, b, R.mono e c⟩
  ne := h.ne

/-! ### what an expression is worth -/
def Sv (te : TE) (G : Gm) (P : Ty) : Prop := ∀ (M0 : Hp) (σ : L2.St) (B M : Hp), Holds M0 G σ B M → ∀ Q : VK, (∀ v B', Ex B B' → Dj B' M → P.p v B' → Q v (jn B' M)) → te σ (jn B M) Q
/-- a new list -/
def Svl (te : TE) (G : Gm) (ds : List PyData) : Prop := ∀ (M0 : Hp) (σ : L2.St) (B M : Hp), Holds M0 G σ B M → ∀ Q : VK,
  (∀ p vs B', Ex B B' → Dj B' M → jn B' M p = none → DqAll B' vs ds → Q (.ref p) (upd (jn B' M) p (.lst vs))) → te σ (jn B M) Q
/-- a list that can be read -/
def Rl (te : TE) (G : Gm) (ds : List PyData) : Prop := ∀ (M0 : Hp) (σ : L2.St) (B M : Hp), Holds M0 G σ B M → ∀ Q : VK,
  (∀ a vs B', Ex B B' → Dj B' M → jn B' M a = some (.lst vs) → DqAll B' vs ds → Q (.ref a) (jn B' M)) → te σ (jn B M) Q
/-- a test -/
def St' (tt : TT) (G : Gm) (b : Bool) : Prop := ∀ (M0 : Hp) (σ : L2.St) (B M : Hp), Holds M0 G σ B M → ∀ Q : Bool → Hp → Prop, (∀ B', Ex B B' → Dj B' M → Q b (jn B' M)) → tt σ (jn B M) Q
/-- arguments -/
inductive Ar where
  | im (P : Ty)
  | ow (R : Ow)
def ArOk (a : Ar) (v : V) (B M : Hp) : Prop := match a with
  | .im P => P.p v B
  | .ow R => ∃ l o, v = .ref l ∧ M l = some o ∧ R.r l o B
inductive ArsOk : List Ar → List V → Hp → Hp → Prop where
  | nil {B M} : ArsOk [] [] B M
  | cons {a as v vs B M} : ArOk a v B M → ArsOk as vs B M → ArsOk (a :: as) (v :: vs) B M
theorem ArOk.ext {a : Ar} {v : V} {B B' M : Hp} (e : Ex B B') (h : ArOk a v B M) : ArOk a v B' M := by
  cases a with
  | im P => exact P.mono e h
  | ow R => obtain ⟨l, o, h1, h2, h3⟩ := h; exact ⟨l, o, h1, h2, R.mono e h3⟩
theorem ArsOk.ext {as : List Ar} {vs : List V} {B B' M : Hp} (e : Ex B B') (h : ArsOk as vs B M) : ArsOk as vs B' M := by
  induction h with
  | nil => exact .nil
  | cons a _ ih => exact .cons (a.ext e) (ih e)
theorem ArsOk.len {as : List Ar} {vs : List V} {B M : Hp} (h : ArsOk as vs B M) : vs.length = as.length := by
  induction h with
  | nil => rfl
  | cons a _ ih => simp [ih]
def Sa (ta : TA) (G : Gm) (as : List Ar) : Prop := ∀ (M0 : Hp) (σ : L2.St) (B M : Hp), Holds M0 G σ B M → ∀ Q : List V → Hp → Prop, (∀ vs B', Ex B B' → Dj B' M → ArsOk as vs B' M → Q vs (jn B' M)) → ta σ (jn B M) Q
/-- an optional part of a slice -/
def So (to : TO) (G : Gm) (o : Option Int) : Prop := ∀ (M0 : Hp) (σ : L2.St) (B M : Hp), Holds M0 G σ B M → ∀ Q : Option Int → Hp → Prop, (∀ B', Ex B B' → Dj B' M → Q o (jn B' M)) → to σ (jn B M) Q

section
variable {G : Gm} {te ta tb tl : TE} {tt tu : TT} {tas : TA} {P Pa Pb : Ty} {R : Ow} {d e : PyData} {ds es : List PyData} {b c : Bool} {i j : Int} {r : R2}

theorem sv_is (h : Sv te G (isD d)) (q : d = e) : Sv te G (isD e) := q ▸ h
theorem st_is (h : St' tt G b) (q : b = c) : St' tt G c := q ▸ h
theorem svl_is (h : Svl te G ds) (q : ds = es) : Svl te G es := q ▸ h
theorem rl_is (h : Rl te G ds) (q : ds = es) : Rl te G es := q ▸ h
theorem sv_svl (h : Svl te G ds) : Sv te G (isD (.list ds)) := fun M0 σ B M H Q q => h M0 σ B M H Q fun p vs B' e dj hn ha => by
  rw [upd_new hn]
  exact q _ _ (e.trans (ex_new hn)) (dj_new dj hn) (.lst upd_same (DqAll_ex (ex_new hn) ha))
theorem rl_sv (h : Sv te G (isD (.list ds))) : Rl te G ds := fun M0 σ B M H Q q => h M0 σ B M H Q fun v B' e dj hv => by
  cases (show Dq B' v (.list ds) from hv) with
  | lst hs ha => exact q _ _ _ e dj (jn_B dj hs) ha
theorem rl_svl (h : Svl te G ds) : Rl te G ds := rl_sv (sv_svl h)
theorem sv_var {n : Nat} (h : G[n]? = some (.im P)) : Sv (tVar n) G P := fun M0 σ B M H Q q => by
  obtain ⟨v, a, b⟩ := H.im n P h
  exact ⟨v, a, q v B (Ex.refl B) H.dj b⟩
theorem rl_ow {n : Nat} (h : G[n]? = some (.ow (isL ds))) : Rl (tVar n) G ds := fun M0 σ B M H Q q => by
  obtain ⟨l, o, a, b, ⟨vs, rfl, c⟩, _⟩ := H.ow n _ h
  exact ⟨_, a, q l vs B (Ex.refl B) H.dj (jn_M b) c⟩
theorem rl_bw {n : Nat} (h : G[n]? = some (.bw (isL ds))) : Rl (tVar n) G ds := fun M0 σ B M H Q q => by
  obtain ⟨l, o, a, b, ⟨vs, rfl, c⟩⟩ := H.bw n _ h
  exact ⟨_, a, q l vs B (Ex.refl B) H.dj (jn_M (H.cal _ _ b)) c⟩
theorem sv_cV {v : V} (h : ∀ B, P.p v B) : Sv (tC v) G P := fun M0 σ B M H Q q => q v B (Ex.refl B) H.dj (h B)
theorem sv_int : Sv (tC (.int i)) G (isD (.int i)) := sv_cV fun _ => .int i
theorem sv_bl : Sv (tC (.bl b)) G (isD (.bool b)) := sv_cV fun _ => .bl b
theorem sv_non : Sv (tC .non) G (isD .none) := sv_cV fun _ => .non
theorem sv_str {x : Str} : Sv (tC (.str x)) G (isD (.str x)) := sv_cV fun _ => .str x
theorem sv_val {v : V} : Sv (tC v) G (isV v) := sv_cV fun _ => rfl

/-! arguments -/
theorem sa_nil : Sa tNil G [] := fun M0 σ B M H Q q => q [] B (Ex.refl B) H.dj .nil
theorem sa_im {tr : TA} {as : List Ar} (h : Sv te G P) (hr : Sa tr G as) : Sa (tCons te tr) G (.im P :: as) := fun M0 σ B M H Q q =>
  h M0 σ B M H _ fun v B1 e1 d1 p1 => hr M0 σ B1 M (H.ext e1 d1) _ fun vs B2 e2 d2 p2 => q _ B2 (e1.trans e2) d2 (.cons (P.mono e2 p1) p2)
theorem sa_ow {tr : TA} {as : List Ar} {n : Nat} (h : G[n]? = some (.ow R)) (hr : Sa tr G as) : Sa (tCons (tVar n) tr) G (.ow R :: as) := fun M0 σ B M H Q q => by
  obtain ⟨l, o, a, b, c, _⟩ := H.ow n _ h
  exact ⟨_, a, hr M0 σ B M H _ fun vs B2 e2 d2 p2 => q _ B2 e2 d2 (.cons ⟨l, o, rfl, b, R.mono e2 c⟩ p2)⟩
theorem sa_bw {tr : TA} {as : List Ar} {n : Nat} (h : G[n]? = some (.bw R)) (hr : Sa tr G as) : Sa (tCons (tVar n) tr) G (.ow R :: as) := fun M0 σ B M H Q q => by
  obtain ⟨l, o, a, b, c⟩ := H.bw n _ h
  exact ⟨_, a, hr M0 σ B M H _ fun vs B2 e2 d2 p2 => q _ B2 e2 d2 (.cons ⟨l, o, rfl, H.cal _ _ b, R.mono e2 c⟩ p2)⟩

/-! operators by values: x and y as they stand -/
/-- r, from x and y of these types, gives a value of type P -/
def Rv (r : R2) (Pa Pb P : Ty) : Prop := ∀ (B M : Hp) (x y : V), Dj B M → Pa.p x B → Pb.p y B → ∀ Q : VK, (∀ v B', Ex B B' → Dj B' M → P.p v B' → Q v (jn B' M)) → r x y (jn B M) Q
theorem sv_op (ha : Sv ta G Pa) (hb : Sv tb G Pb) (hr : Rv r Pa Pb P) : Sv (tOp r ta tb) G P := fun M0 σ B M H Q q =>
  ha M0 σ B M H _ fun x B1 e1 d1 p1 => hb M0 σ B1 M (H.ext e1 d1) _ fun y B2 e2 d2 p2 => hr B2 M x y d2 (Pa.mono e2 p1) p2 Q fun v B3 e3 d3 p3 => q v B3 ((e1.trans e2).trans e3) d3 p3
theorem rv_or1 {r' : R2} (h : Rv r Pa Pb P) : Rv (fun x y H Q => r x y H Q ∨ r' x y H Q) Pa Pb P := fun B M x y dj p1 p2 Q q => .inl (h B M x y dj p1 p2 Q q)
theorem rv_or2 {r' : R2} (h : Rv r' Pa Pb P) : Rv (fun x y H Q => r x y H Q ∨ r' x y H Q) Pa Pb P := fun B M x y dj p1 p2 Q q => .inr (h B M x y dj p1 p2 Q q)
/-- where the answer is at hand, the heap as it is -/
theorem rv_at {C : V → V → Hp → Prop} {f : V → V → V} (h : ∀ x y (H : Hp) (Q : VK), C x y H → Q (f x y) H → r x y H Q) (hc : ∀ B M x y, Dj B M → Pa.p x B → Pb.p y B → C x y (jn B M) ∧ P.p (f x y) B) : Rv r Pa Pb P := fun B M x y dj p1 p2 Q q =>
  h x y _ Q (hc B M x y dj p1 p2).1 (q _ B (Ex.refl B) dj (hc B M x y dj p1 p2).2)
theorem dp_int {B : Hp} {v : V} (h : (isD (.int i)).p v B) : v = .int i := by cases (show Dq B v (.int i) from h); rfl
theorem dp_bool {B : Hp} {v : V} (h : (isD (.bool b)).p v B) : v = .bl b := by cases (show Dq B v (.bool b) from h); rfl
theorem dp_str {B : Hp} {x : Str} {v : V} (h : (isD (.str x)).p v B) : v = .str x := by cases (show Dq B v (.str x) from h); rfl
theorem dp_none {B : Hp} {v : V} (h : (isD .none).p v B) : v = .non := by cases (show Dq B v .none from h); rfl
theorem rv_I {C : Int → Int → Prop} {g : Int → Int → Int} (hc : C i j) : Rv (rI C fun i j => .int (g i j)) (isD (.int i)) (isD (.int j)) (isD (.int (g i j))) := fun B M x y dj p1 p2 Q q => by
  rw [dp_int p1, dp_int p2]
  exact ⟨i, j, rfl, rfl, hc, q _ B (Ex.refl B) dj (.int _)⟩
theorem rv_I0 {g : Int → Int → Int} : Rv (rI0 fun i j => .int (g i j)) (isD (.int i)) (isD (.int j)) (isD (.int (g i j))) := fun B M x y dj p1 p2 Q q => by
  rw [dp_int p1, dp_int p2]
  exact ⟨i, j, rfl, rfl, q _ B (Ex.refl B) dj (.int _)⟩
theorem rv_B0 {g : Int → Int → Bool} : Rv (rI0 fun i j => .bl (g i j)) (isD (.int i)) (isD (.int j)) (isD (.bool (g i j))) := fun B M x y dj p1 p2 Q q => by
  rw [dp_int p1, dp_int p2]
  exact ⟨i, j, rfl, rfl, q _ B (Ex.refl B) dj (.bl _)⟩
end
end Mini

namespace Mini
open PySem L2 Evl

/-! ### callees in one piece, what they raise told at the caller's slots -/
structure FnC (P : Program) (w : World) (K : PySem.W.Frag) (mg : Str → Option Value) (base : Heap) (k : Nat) (x : Str) (sp : Sp) : Prop where
  ex : ∃ (f : Addr) (fd : FuncData) (ps : List Str), FnOk P w K mg base (L2.CX P w) k f fd ps sp ∧ mg x = some (.ref f) ∧ PySem.W.keepIn K (.ref f) = true ∧ Binds K fd ps []
structure MtC (P : Program) (w : World) (K : PySem.W.Frag) (mg : Str → Option Value) (base : Heap) (k : Nat) (C : Addr) (m : Str) (sp : Sp) : Prop where
  ex : ∃ (f : Addr) (fd : FuncData) (ps : List Str), FnOk P w K mg base (L2.CX P w) k f fd ps sp ∧ Cls K C ∧ Meth K C m f ∧ Binds K fd ps []
structure MkC (P : Program) (w : World) (K : PySem.W.Frag) (mg : Str → Option Value) (base : Heap) (k : Nat) (C : Addr) (x : Str) (sp : Sp) : Prop where
  ex : ∃ (f : Addr) (fd : FuncData) (ps : List Str), FnOk P w K mg base (L2.CX P w) k f fd ps sp ∧ Mk K C f ∧ mg x = some (.ref C) ∧ Binds K fd ps []
def tMt (C : Addr) (m : Str) (sp : Sp) (E : L2.St → XK) (ta : TE) (t : TA) : TE := fun σ H Q => ta σ H fun x H1 => ∃ a dx fs, x = .ref a ∧ H1 a = some (.ins C dx fs) ∧ fs.lookup m = none ∧ t σ H1 fun vs H2 => sp (x :: vs) H2 Q (E σ)
def tMk (C : Addr) (sp : Sp) (E : L2.St → XK) (t : TA) : TE := fun σ H Q => t σ H fun vs H1 => ∀ x dx, H1 x = none → H1 dx = none → dx ≠ x → sp (.ref x :: vs) (upd (upd H1 dx (.own x)) x (.ins C dx [])) (fun v H2 => v = .non ∧ Q (.ref x) H2) (E σ)
section
open PyProof.Rows
variable {X : Cx} {k : Nat} {x m : Str} {C : Addr} {sp : Sp} {E : L2.St → XK} {p pos apos : Pos} {e o : Expr} {es : List Expr} {ta : TE} {t : TA}
theorem pe_fn (c : FnC X.prog X.w X.K X.mg X.base k x sp) {j : Nat} (hr : Room j X.A) (hx : ∀ σ, PassesAt (L2.CX X.prog X.w) X σ (E σ)) (ha : PA X (e :: es) t) (hk : k ≤ j := by decide) (hg : Gl X x := by rfl)
    (hdb : (x == ("__debug__" : Str)) = false := by decide) (he : starEach (e :: es) X.env = (false, eval e X.env) :: starEach es X.env := by rfl) (hpl : (backTo pos (starEach es X.env)).any (·.1) = false := by rfl) :
    PE X (.Call (.Name x p) (e :: es) [] pos) (tCallS sp E t) := by
  obtain ⟨f, fd, ps, F, hm, kp, hb⟩ := c.ex
  exact pe_callS F (hr.mono hk) hg hm kp hb hx ha hdb he hpl
theorem pe_mt {pl : Sem Bool} (he : PE X o ta) (c : MtC X.prog X.w X.K X.mg X.base k C m sp) {j : Nat} (hr : Room j X.A) (hx : ∀ σ, PassesAt (L2.CX X.prog X.w) X σ (E σ)) (ha : PA X (e :: es) t) (hk : k ≤ j := by decide)
    (hst : starEach (e :: es) X.env = (false, eval e X.env) :: starEach es X.env := by rfl) (hpl : (backTo pos (starEach es X.env)).any (·.1) = false := by rfl)
    (ht : eval (.Call (.Attribute o m apos) (e :: es) [] pos) X.env = (do
      let ov ← eval o X.env
      standAt apos.atName
      let (f, first) ← holding [ov] (getMethod ov m pl)
      callWith pos f first (backTo pos (starEach (e :: es) X.env)) (backToKw pos (keywordEach [] X.env))) := by rfl) :
    PE X (.Call (.Attribute o m apos) (e :: es) [] pos) (tMt C m sp E ta t) := by
  obtain ⟨f, fd, ps, F, cl, hm, hb⟩ := c.ex
  refine ⟨fun pins s σ H Q I h => ?_⟩
  refine PySem.W.methodCall_KW (pl := pl) (thn (he.run pins s σ H _ I h) fun u s1 hh => ?_) ht
  obtain ⟨x, H1, I1, rx, a, dx, fs, ex, ea, l, q⟩ := hh
  subst ex
  obtain rfl : u = Value.ref a := rx
  refine getmeth_ok I1 ea cl hm l ?_
  refine PySem.W.callWith_K (first := [.ref a]) (h₀ := X.base) I.ok.mod.kin hm.kp (thn (ha.run pos pins s1 σ H1 _ I1 q) fun us s2 hh => ?_) hst hpl
  obtain ⟨vs, H2, I2, r, q2⟩ := hh
  exact ⟨I2.kIn, run_fnS (us := .ref a :: us) (vs := .ref a :: vs) F (hr.mono hk) hb (hx σ) I2 (.cons rfl r) q2⟩
theorem pe_mt0 {pl : Sem Bool} (he : PE X o ta) (c : MtC X.prog X.w X.K X.mg X.base k C m sp) {j : Nat} (hr : Room j X.A) (hx : ∀ σ, PassesAt (L2.CX X.prog X.w) X σ (E σ)) (hk : k ≤ j := by decide)
    (ht : eval (.Call (.Attribute o m apos) [] [] pos) X.env = (do
      let ov ← eval o X.env
      standAt apos.atName
      let (f, first) ← holding [ov] (getMethod ov m pl)
      callWith pos f first (backTo pos (starEach [] X.env)) (backToKw pos (keywordEach [] X.env))) := by rfl) :
    PE X (.Call (.Attribute o m apos) [] [] pos) (tMt C m sp E ta tNil) := by
  obtain ⟨f, fd, ps, F, cl, hm, hb⟩ := c.ex
  refine ⟨fun pins s σ H Q I h => ?_⟩
  refine PySem.W.methodCall_KW (pl := pl) (thn (he.run pins s σ H _ I h) fun u s1 hh => ?_) ht
  obtain ⟨x, H1, I1, rx, a, dx, fs, ex, ea, l, q⟩ := hh
  subst ex
  obtain rfl : u = Value.ref a := rx
  refine getmeth_ok I1 ea cl hm l ?_
  exact PySem.W.callWith_K0 (first := [.ref a]) I1.kIn hm.kp (run_fnS (us := [.ref a]) (vs := [.ref a]) F (hr.mono hk) hb (hx σ) I1 (.cons rfl .nil) q)
theorem run_mkS {pins : List (Addr × Obj)} {f : Addr} {fd : FuncData} {ps : List Str} {σ : L2.St} {H : Hp} {s : Shared} {Q : VK} {us : List Value} {vs : List V} (M : Mk X.K C f) (F : FnOk X.prog X.w X.K X.mg X.base (L2.CX X.prog X.w) k f fd ps sp) (hr : Room (k + 1) X.A)
    (hb : Binds X.K fd ps []) (hx : PassesAt (L2.CX X.prog X.w) X σ (E σ)) (I : Inv X pins σ H s) (r : Vals vs us)
    (h : ∀ x dx, H x = none → H dx = none → dx ≠ x → sp (.ref x :: vs) (upd (upd H dx (.own x)) x (.ins C dx [])) (fun v H2 => v = .non ∧ Q (.ref x) H2) (E σ)) :
    wpAny (model X.prog X.w) X.A (call (.ref C) us) (EP X pins σ Q) X.xe s := by
  have hq := h (s.heap.objs.size + 1) s.heap.objs.size (I.hok.fresh (Nat.le_succ _)) (I.hok.fresh (Nat.le_refl _)) (Nat.ne_of_lt (Nat.lt_succ_self _))
  have I2 := Inv.made (C := C) I
  have r2 : Vals (V.ref (s.heap.objs.size + 1) :: vs) (Value.ref (s.heap.objs.size + 1) :: us) := .cons rfl r
  have hl : (Value.ref (s.heap.objs.size + 1) :: us ++ []).length = ps.length := by
    have e := r2.length
    rw [F.len _ _ _ _ hq] at e
    rw [List.append_nil]
    exact e.symm
  have b := hb _ (Value.ref (s.heap.objs.size + 1) :: us) I2.kIn hl
  rw [List.append_nil] at b
  refine wpAny_call (make_map (f := f) I.kIn M.makes M.init (beq_iff_eq.mp M.fn) (codeAny_mono (F.run _ X.stack _ _ ⟨Value.ref (s.heap.objs.size + 1) :: us, []⟩ (Value.ref (s.heap.objs.size + 1) :: us) _ _ (E σ) (hr.make C us []) (I2.env0.make C us []) b r2 hq) fun res s' hq' => ?_))
  cases res with
  | error e => exact hx pins _ _ e s' I2 hq'
  | ok fl =>
    cases fl with
    | ret u =>
      obtain ⟨v, H', I3, rv, ev, q3⟩ := I2.after hq'
      subst ev
      exact ⟨rv, ⟨V.ref (s.heap.objs.size + 1), H', I3, rfl, q3⟩⟩
    | next => exact False.elim hq'
    | brk => exact False.elim hq'
    | cont => exact False.elim hq'
theorem pe_mk (c : MkC X.prog X.w X.K X.mg X.base k C x sp) {j : Nat} (hr : Room j X.A) (hx : ∀ σ, PassesAt (L2.CX X.prog X.w) X σ (E σ)) (ha : PA X (e :: es) t) (hk : k + 1 ≤ j := by decide) (hg : Gl X x := by rfl)
    (hdb : (x == ("__debug__" : Str)) = false := by decide) (he : starEach (e :: es) X.env = (false, eval e X.env) :: starEach es X.env := by rfl) (hpl : (backTo pos (starEach es X.env)).any (·.1) = false := by rfl) :
    PE X (.Call (.Name x p) (e :: es) [] pos) (tMk C sp E t) := by
  obtain ⟨f, fd, ps, F, M, hm, hb⟩ := c.ex
  refine ⟨fun pins s σ H Q I h => ?_⟩
  refine wpAny_Call_Name_kw (ld_glob I hg hm ?_ hdb)
  refine PySem.W.callWith_K (h₀ := X.base) I.ok.mod.kin M.kp (thn (ha.run pos pins s σ H _ I h) fun us s1 hh => ?_) he hpl
  obtain ⟨vs, H1, I1, r, q⟩ := hh
  exact ⟨I1.kIn, run_mkS M F (hr.mono hk) hb (hx σ) I1 r q⟩
end
/-- where nothing is raised -/
theorem px0 {X : Cx} : ∀ σ : L2.St, PassesAt (L2.CX X.prog X.w) X σ ((fun _ => E0 : L2.St → XK) σ) := fun σ pins H s e s' I c => passL pins σ H s e s' I c
/-- in a def's own body -/
theorem pxM {X : Cx} {E : XK} (tk : Takes X (fun cls d _ H => E cls d H)) : ∀ σ : L2.St, PassesAt (L2.CX X.prog X.w) X σ ((fun _ => E : L2.St → XK) σ) := fun σ pins H s e s' I c => passes_call tk (fun _ _ _ _ h => h) pins σ H s e s' I c

/-! ### what a def promises -/
inductive Rs where
  | ok (P : Ty)
  | ol (ds : List PyData)
  | bad (C : Addr)
def Rs.wp (r : Rs) (B M : Hp) (Q : VK) (E : XK) : Prop := match r with
  | .ok P => ∀ v B', Ex B B' → Dj B' M → P.p v B' → Q v (jn B' M)
  | .ol ds => ∀ p vs B', Ex B B' → Dj B' M → jn B' M p = none → DqAll B' vs ds → Q (.ref p) (upd (jn B' M) p (.lst vs))
  | .bad C => ∀ B', Ex B B' → Dj B' M → E (.ref C) none (jn B' M)
structure Fs where
  α : Type
  n : Nat
  ars : α → List Ar
  len : ∀ x, (ars x).length = n
  res : α → Rs
def spF (S : Fs) : Sp := fun vs H Q E => ∃ (x : S.α) (B M : Hp), H = jn B M ∧ Dj B M ∧ ArsOk (S.ars x) vs B M ∧ (S.res x).wp B M Q E
theorem spF_len {S : Fs} {vs H Q E} (h : spF S vs H Q E) : vs.length = S.n := by
  obtain ⟨x, B, M, _, _, a, _⟩ := h
  rw [a.len, S.len]
/-- an __init__ -/
structure Is where
  α : Type
  n : Nat
  ars : α → List Ar
  len : ∀ x, (ars x).length = n
  res : α → (List (Str × V) → Hp → Prop) ⊕ Addr
def spI (C : Addr) (S : Is) : Sp := fun vs H Q E => ∃ (x : S.α) (B M : Hp) (p dx : Addr) (us : List V), vs = .ref p :: us ∧ H = jn B M ∧ Dj B M ∧ M p = some (.ins C dx []) ∧ ArsOk (S.ars x) us B M ∧
  match S.res x with
  | .inl R => ∀ B' fs, Ex B B' → Dj B' M → R fs B' → Q .non (jn B' (upd M p (.ins C dx fs)))
  | .inr X => ∀ B', Ex B B' → Dj B' M → E (.ref X) none (jn B' M)

/-! ### what follows a statement -/
inductive Out where
  | nx (G : Gm)
  | rt (P : Ty)
  | rl (ds : List PyData)
  | bk (G : Gm)
  | ct (G : Gm)
  | bad (C : Addr) (G : Gm)
def Out.ok (o : Out) (E : L2.St → XK) (D : Ends) (M0 B : Hp) : Prop := match o with
  | .nx G => ∀ σ' B' M', Ex B B' → Holds M0 G σ' B' M' → D.nx σ' (jn B' M')
  | .rt P => ∀ v B' M', Ex B B' → Dj B' M' → Ex M0 M' → P.p v B' → D.rt v (jn B' M')
  | .rl ds => ∀ p vs B' M', Ex B B' → Dj B' M' → Ex M0 M' → M0 p = none → M' p = some (.lst vs) → DqAll B' vs ds → D.rt (.ref p) (jn B' M')
  | .bk G => ∀ σ' B' M', Ex B B' → Holds M0 G σ' B' M' → D.bk σ' (jn B' M')
  | .ct G => ∀ σ' B' M', Ex B B' → Holds M0 G σ' B' M' → D.ct σ' (jn B' M')
  | .bad C G => ∀ σ' B' M', Ex B B' → Holds M0 G σ' B' M' → E σ' (.ref C) none (jn B' M')
theorem Out.ok.ext {o : Out} {E : L2.St → XK} {D : Ends} {M0 B B1 : Hp} (h : o.ok E D M0 B) (e : Ex B B1) : o.ok E D M0 B1 := by
  cases o with
  | nx G => exact fun σ' B' M' e' H => h σ' B' M' (e.trans e') H
  | rt P => exact fun v B' M' e' => h v B' M' (e.trans e')
  | rl ds => exact fun p vs B' M' e' => h p vs B' M' (e.trans e')
  | bk G => exact fun σ' B' M' e' H => h σ' B' M' (e.trans e') H
  | ct G => exact fun σ' B' M' e' H => h σ' B' M' (e.trans e') H
  | bad C G => exact fun σ' B' M' e' H => h σ' B' M' (e.trans e') H
def Ss (E : L2.St → XK) (ts : TS) (G : Gm) (o : Out) : Prop := ∀ (M0 : Hp) (D : Ends) (σ : L2.St) (B M : Hp), Holds M0 G σ B M → o.ok E D M0 B → ts D σ (jn B M)

section
variable {E : L2.St → XK} {ts tu : TS} {te ta tb : TE} {tt : TT} {G G1 G2 : Gm} {o : Out} {P : Ty} {R : Ow} {d e : PyData} {ds es : List PyData} {b : Bool}
theorem ss_seq (h : Ss E ts G (.nx G1)) (k : Ss E tu G1 o) : Ss E (tSeq ts tu) G o := fun M0 D σ B M H q => h M0 { D with nx := tu D } σ B M H fun σ' B' M' e H' => k M0 D σ' B' M' H' (q.ext e)
theorem ss_seqRt (h : Ss E ts G (.rt P)) : Ss E (tSeq ts tu) G (.rt P) := fun M0 D σ B M H q => h M0 { D with nx := tu D } σ B M H q
theorem ss_seqRl (h : Ss E ts G (.rl ds)) : Ss E (tSeq ts tu) G (.rl ds) := fun M0 D σ B M H q => h M0 { D with nx := tu D } σ B M H q
theorem ss_seqBk (h : Ss E ts G (.bk G1)) : Ss E (tSeq ts tu) G (.bk G1) := fun M0 D σ B M H q => h M0 { D with nx := tu D } σ B M H q
theorem ss_seqCt (h : Ss E ts G (.ct G1)) : Ss E (tSeq ts tu) G (.ct G1) := fun M0 D σ B M H q => h M0 { D with nx := tu D } σ B M H q
theorem ss_seqBad {C : Addr} (h : Ss E ts G (.bad C G1)) : Ss E (tSeq ts tu) G (.bad C G1) := fun M0 D σ B M H q => h M0 { D with nx := tu D } σ B M H q
theorem ss_next : Ss E tNext G (.nx G) := fun M0 D σ B M H q => q σ B M (Ex.refl B) H
theorem ss_break : Ss E tBreak G (.bk G) := fun M0 D σ B M H q => q σ B M (Ex.refl B) H
theorem ss_cont : Ss E tCont G (.ct G) := fun M0 D σ B M H q => q σ B M (Ex.refl B) H
theorem ss_ret (h : Sv te G P) : Ss E (tRet te) G (.rt P) := fun M0 D σ B M H q => h M0 σ B M H _ fun v B' e d p => q v B' M e d H.cal p
theorem ss_retN : Ss E tRetN G (.rt (isD .none)) := fun M0 D σ B M H q => q .non B M (Ex.refl B) H.dj H.cal .non
theorem ss_retL (h : Svl te G ds) : Ss E (tRet te) G (.rl ds) := fun M0 D σ B M H q => h M0 σ B M H _ fun p vs B' e d hn ha => by
  rw [upd_own]
  refine q p vs B' (upd M p (.lst vs)) e (dj_own d (jn_free hn).1) (fun a o h => ?_) ?_ upd_same ha
  · have q1 := H.cal a o h
    rw [upd_ne (ne_of_none q1 (jn_free hn).2)]
    exact q1
  · cases h0 : M0 p with
    | none => rfl
    | some o => have q1 := H.cal p o h0; rw [(jn_free hn).2] at q1; cases q1
theorem ss_retOw {n : Nat} (h : G[n]? = some (.ow (isL ds))) : Ss E (tRet (tVar n)) G (.rl ds) := fun M0 D σ B M H q => by
  obtain ⟨l, o, a, c, ⟨vs, rfl, r⟩, f⟩ := H.ow n _ h
  exact ⟨_, a, q l vs B M (Ex.refl B) H.dj H.cal f c r⟩
theorem ss_drop (h : Sv te G P) : Ss E (tDrop te) G (.nx G) := fun M0 D σ B M H q => h M0 σ B M H _ fun v B' e d _ => q σ B' M e (H.ext e d)
theorem ss_if (h : St' tt G b) (h1 : b = true → Ss E ts G o) (h2 : b = false → Ss E tu G o) : Ss E (tIfS tt ts tu) G o := fun M0 D σ B M H q => h M0 σ B M H _ fun B' e d => by
  cases b with
  | true => exact h1 rfl M0 D σ B' M (H.ext e d) (q.ext e)
  | false => exact h2 rfl M0 D σ B' M (H.ext e d) (q.ext e)
theorem ss_if1 (h : St' tt G true) (h1 : Ss E ts G o) : Ss E (tIfS tt ts tu) G o := ss_if h (fun _ => h1) (fun q => by cases q)
theorem ss_if0 (h : St' tt G false) (h1 : Ss E tu G o) : Ss E (tIfS tt ts tu) G o := ss_if h (fun q => by cases q) (fun _ => h1)
end
end Mini

namespace Mini
open PySem L2 Evl

/-! ### slots that are stored -/
theorem get_set_cases {α : Type} {l : List α} {n i : Nat} {x y : α} (h : (l.set n x)[i]? = some y) : (i = n ∧ y = x) ∨ (i ≠ n ∧ l[i]? = some y) := by
  by_cases e : n = i
  · subst e
    by_cases hl : n < l.length
    · rw [List.getElem?_set_self hl] at h; exact .inl ⟨rfl, (Option.some.inj h).symm⟩
    · rw [List.getElem?_eq_none (by simpa using hl)] at h; cases h
  · rw [List.getElem?_set_ne e] at h; exact .inr ⟨fun q => e q.symm, h⟩
section
variable {M0 B M : Hp} {G : Gm} {σ : L2.St} {n : Nat} {v : V} {P : Ty} {R R' : Ow}
theorem Holds.lt (H : Holds M0 G σ B M) {S : Sl} (h : G[n]? = some S) : n < σ.length := by rw [H.len]; exact (List.getElem?_eq_some_iff.mp h).1
theorem Holds.setIm (H : Holds M0 G σ B M) (hn : n < G.length) (hp : P.p v B) : Holds M0 (G.set n (.im P)) (σ.set n (some v)) B M where
  len := by rw [List.length_set, List.length_set]; exact H.len
  dj := H.dj
  cal := H.cal
  im := fun i P' q => by
    rcases get_set_cases q with ⟨rfl, e⟩ | ⟨e, q⟩
    · cases e; exact ⟨v, List.getElem?_set_self (by rw [H.len]; exact hn), hp⟩
    · rw [List.getElem?_set_ne (Ne.symm e)]; exact H.im i P' q
  ow := fun i R q => by
    rcases get_set_cases q with ⟨rfl, e⟩ | ⟨e, q⟩
    · cases e
    · rw [List.getElem?_set_ne (Ne.symm e)]; exact H.ow i R q
  bw := fun i R q => by
    rcases get_set_cases q with ⟨rfl, e⟩ | ⟨e, q⟩
    · cases e
    · rw [List.getElem?_set_ne (Ne.symm e)]; exact H.bw i R q
  ne := fun i j R R' l q q' a b => by
    rcases get_set_cases q with ⟨rfl, e⟩ | ⟨e, q⟩
    · cases e
    rcases get_set_cases q' with ⟨rfl, e'⟩ | ⟨e', q'⟩
    · cases e'
    rw [List.getElem?_set_ne (Ne.symm e)] at a
    rw [List.getElem?_set_ne (Ne.symm e')] at b
    exact H.ne i j R R' l q q' a b
/-- a new object of one's own at slot n -/
theorem Holds.setOw (H : Holds M0 G σ B M) (hn : n < G.length) {p : Addr} {o : HO} (hf : jn B M p = none) (hr : R.r p o B) : Holds M0 (G.set n (.ow R)) (σ.set n (some (.ref p))) B (upd M p o) where
  len := by rw [List.length_set, List.length_set]; exact H.len
  dj := dj_own H.dj (jn_free hf).1
  cal := fun a o h => by
    have q := H.cal a o h
    rw [upd_ne (ne_of_none q (jn_free hf).2)]; exact q
  im := fun i P' q => by
    rcases get_set_cases q with ⟨rfl, e⟩ | ⟨e, q⟩
    · cases e
    · rw [List.getElem?_set_ne (Ne.symm e)]; exact H.im i P' q
  ow := fun i R q => by
    rcases get_set_cases q with ⟨rfl, e⟩ | ⟨e, q⟩
    · cases e
      refine ⟨p, o, List.getElem?_set_self (by rw [H.len]; exact hn), upd_same, hr, ?_⟩
      cases h0 : M0 p with
      | none => rfl
      | some u => have q1 := H.cal p u h0; rw [(jn_free hf).2] at q1; cases q1
    · rw [List.getElem?_set_ne (Ne.symm e)]
      obtain ⟨l, o', a, b, c, d⟩ := H.ow i R q
      refine ⟨l, o', a, ?_, c, d⟩
      rw [upd_ne (ne_of_none b (jn_free hf).2)]; exact b
  bw := fun i R q => by
    rcases get_set_cases q with ⟨rfl, e⟩ | ⟨e, q⟩
    · cases e
    · rw [List.getElem?_set_ne (Ne.symm e)]; exact H.bw i R q
  ne := fun i j R R' l q q' a b => by
    have old : ∀ (i : Nat) (S : Ow), G[i]? = some (.ow S) → σ[i]? ≠ some (some (.ref p)) := fun i S hi z => by
      obtain ⟨l, o', a, b, _⟩ := H.ow i S hi
      rw [z] at a; cases a
      rw [(jn_free hf).2] at b; cases b
    rcases get_set_cases q with ⟨rfl, e⟩ | ⟨e, q⟩
    · rcases get_set_cases q' with ⟨rfl, e'⟩ | ⟨e', q'⟩
      · rfl
      · rw [List.getElem?_set_self (by rw [H.len]; exact hn)] at a; cases a
        rw [List.getElem?_set_ne (Ne.symm e')] at b
        exact absurd b (old j R' q')
    · rw [List.getElem?_set_ne (Ne.symm e)] at a
      have q0 := q
      rcases get_set_cases q' with ⟨rfl, e'⟩ | ⟨e', q'⟩
      · rw [List.getElem?_set_self (by rw [H.len]; exact hn)] at b; cases b
        exact absurd a (old i R q0)
      · rw [List.getElem?_set_ne (Ne.symm e')] at b
        exact H.ne i j R R' l q0 q' a b
/-- one's own object changes -/
theorem Holds.change (H : Holds M0 G σ B M) (h : G[n]? = some (.ow R)) {l : Addr} {o o' : HO} (hl : σ[n]? = some (some (.ref l))) (ho : M l = some o) (hr : R'.r l o' B) : Holds M0 (G.set n (.ow R')) σ B (upd M l o') where
  len := by rw [List.length_set]; exact H.len
  dj := fun a u e => by
    by_cases q : a = l
    · rw [q, dj_free H.dj ho] at e; cases e
    · rw [upd_ne q]; exact H.dj a u e
  cal := fun a u q => by
    have e : a ≠ l := fun z => by
      obtain ⟨l', o2, a1, b1, c1, d1⟩ := H.ow n R h
      rw [hl] at a1; cases a1
      rw [z, d1] at q; cases q
    rw [upd_ne e]; exact H.cal a u q
  im := fun i P' q => by
    rcases get_set_cases q with ⟨rfl, e⟩ | ⟨e, q⟩
    · cases e
    · exact H.im i P' q
  ow := fun i S q => by
    obtain ⟨l', o2, a1, b1, c1, d1⟩ := H.ow n R h
    rw [hl] at a1; cases a1
    rcases get_set_cases q with ⟨rfl, e⟩ | ⟨e, q⟩
    · cases e
      exact ⟨l, o', hl, upd_same, hr, d1⟩
    · obtain ⟨l2, o3, a, b, c, d⟩ := H.ow i S q
      have hne : l2 ≠ l := fun z => by subst z; exact e (H.ne i n S R l2 q h a hl)
      exact ⟨l2, o3, a, by rw [upd_ne hne]; exact b, c, d⟩
  bw := fun i S q => by
    rcases get_set_cases q with ⟨rfl, e⟩ | ⟨e, q⟩
    · cases e
    · exact H.bw i S q
  ne := fun i j S S' l2 q q' a b => by
    rcases get_set_cases q with ⟨rfl, e⟩ | ⟨e, q⟩
    · rcases get_set_cases q' with ⟨rfl, e'⟩ | ⟨e', q'⟩
      · rfl
      · exact H.ne i j R S' l2 h q' a b
    · have q0 := q
      rcases get_set_cases q' with ⟨rfl, e'⟩ | ⟨e', q'⟩
      · exact H.ne i j S R l2 q0 h a b
      · exact H.ne i j S S' l2 q0 q' a b
/-- a slot is forgotten -/
def Le (G1 G2 : Gm) : Prop := G1.length = G2.length ∧ ∀ (i : Nat) S, G2[i]? = some S → S = .no ∨ G1[i]? = some S
theorem Le.refl (G : Gm) : Le G G := ⟨rfl, fun _ _ h => .inr h⟩
theorem Holds.le {G' : Gm} (H : Holds M0 G σ B M) (h : Le G G') : Holds M0 G' σ B M where
  len := H.len.trans h.1
  dj := H.dj
  cal := H.cal
  im := fun i P q => by rcases h.2 i _ q with e | e; cases e; exact H.im i P e
  ow := fun i P q => by rcases h.2 i _ q with e | e; cases e; exact H.ow i P e
  bw := fun i P q => by rcases h.2 i _ q with e | e; cases e; exact H.bw i P e
  ne := fun i j R R' l q q' a b => by
    rcases h.2 i _ q with e | e
    · cases e
    rcases h.2 j _ q' with e' | e'
    · cases e'
    exact H.ne i j R R' l e e' a b
/-- the slot n is none's: whatever it holds, it is not told -/
theorem Holds.wipe (H : Holds M0 G σ B M) (n : Nat) (x : Option V) : Holds M0 (G.set n .no) (σ.set n x) B M where
  len := by rw [List.length_set, List.length_set]; exact H.len
  dj := H.dj
  cal := H.cal
  im := fun i P' q => by
    rcases get_set_cases q with ⟨rfl, e⟩ | ⟨e, q⟩
    · cases e
    · rw [List.getElem?_set_ne (Ne.symm e)]; exact H.im i P' q
  ow := fun i R q => by
    rcases get_set_cases q with ⟨rfl, e⟩ | ⟨e, q⟩
    · cases e
    · rw [List.getElem?_set_ne (Ne.symm e)]; exact H.ow i R q
  bw := fun i R q => by
    rcases get_set_cases q with ⟨rfl, e⟩ | ⟨e, q⟩
    · cases e
    · rw [List.getElem?_set_ne (Ne.symm e)]; exact H.bw i R q
  ne := fun i j R R' l q q' a b => by
    rcases get_set_cases q with ⟨rfl, e⟩ | ⟨e, q⟩
    · cases e
    rcases get_set_cases q' with ⟨rfl, e'⟩ | ⟨e', q'⟩
    · cases e'
    rw [List.getElem?_set_ne (Ne.symm e)] at a
    rw [List.getElem?_set_ne (Ne.symm e')] at b
    exact H.ne i j R R' l q q' a b
def wipeG (G : Gm) : List Nat → Gm
  | [] => G
  | v :: vs => (wipeG G vs).set v .no
theorem Holds.wipes (H : Holds M0 G σ B M) : ∀ vs, Holds M0 (wipeG G vs) (L2.wipe σ vs) B M
  | [] => H
  | v :: vs => (H.wipes vs).wipe v none
/-- the caller's own objects grow by one that is not told -/
theorem Holds.more (H : Holds M0 G σ B M) {p : Addr} {o : HO} (hf : jn B M p = none) : Holds M0 G σ B (upd M p o) where
  len := H.len
  dj := dj_own H.dj (jn_free hf).1
  cal := fun a o h => by
    have q := H.cal a o h
    rw [upd_ne (ne_of_none q (jn_free hf).2)]; exact q
  im := H.im
  ow := fun i R q => by
    obtain ⟨l, o', a, b, c, d⟩ := H.ow i R q
    exact ⟨l, o', a, by rw [upd_ne (ne_of_none b (jn_free hf).2)]; exact b, c, d⟩
  bw := H.bw
  ne := H.ne
/-- one's own object is let stand -/
def del (M : Hp) (l : Addr) : Hp := fun a => if a = l then none else M a
theorem del_ne {l a : Addr} (h : a ≠ l) : del M l a = M a := if_neg h
theorem jn_del {l : Addr} {o : HO} (h : M l = some o) : jn (upd B l o) (del M l) = jn B M := by
  funext a
  by_cases e : a = l
  · subst e
    rw [jn_N (show del M a a = none from if_pos rfl), upd_same, jn_M h]
  · unfold jn
    rw [del_ne e, upd_ne e]
theorem Holds.freeze (H : Holds M0 G σ B M) (h : G[n]? = some (.ow R)) {l : Addr} {o : HO} (hl : σ[n]? = some (some (.ref l))) (ho : M l = some o) (hp : P.p (.ref l) (upd B l o)) :
    Holds M0 (G.set n (.im P)) σ (upd B l o) (del M l) ∧ Ex B (upd B l o) := by
  have hB := dj_free H.dj ho
  have ex : Ex B (upd B l o) := Ex.new hB
  refine ⟨?_, ex⟩
  exact {
    len := by rw [List.length_set]; exact H.len
    dj := fun a u e => by
      by_cases q : a = l
      · exact if_pos q
      · rw [upd_ne q] at e; rw [del_ne q]; exact H.dj a u e
    cal := fun a u q => by
      have e : a ≠ l := fun z => by
        obtain ⟨l', o2, a1, b1, c1, d1⟩ := H.ow n R h
        rw [hl] at a1; cases a1
        rw [z, d1] at q; cases q
      rw [del_ne e]; exact H.cal a u q
    im := fun i P' q => by
      rcases get_set_cases q with ⟨rfl, e⟩ | ⟨e, q⟩
      · cases e; exact ⟨_, hl, hp⟩
      · obtain ⟨v, a, b⟩ := H.im i P' q; exact ⟨v, a, P'.mono ex b⟩
    ow := fun i S q => by
      rcases get_set_cases q with ⟨rfl, e⟩ | ⟨e, q⟩
      · cases e
      · obtain ⟨l2, o3, a, b, c, d⟩ := H.ow i S q
        have hne : l2 ≠ l := fun z => by subst z; exact e (H.ne i n S R l2 q h a hl)
        exact ⟨l2, o3, a, by rw [del_ne hne]; exact b, S.mono ex c, d⟩
    bw := fun i S q => by
      rcases get_set_cases q with ⟨rfl, e⟩ | ⟨e, q⟩
      · cases e
      · obtain ⟨l2, o3, a, b, c⟩ := H.bw i S q; exact ⟨l2, o3, a, b, S.mono ex c⟩
    ne := fun i j S S' l2 q q' a b => by
      rcases get_set_cases q with ⟨rfl, e⟩ | ⟨e, q⟩
      · cases e
      rcases get_set_cases q' with ⟨rfl, e'⟩ | ⟨e', q'⟩
      · cases e'
      exact H.ne i j S S' l2 q q' a b }
end

section
variable {E : L2.St → XK} {ts tu : TS} {te ta tb : TE} {tt : TT} {G G1 G2 : Gm} {o : Out} {P : Ty} {R : Ow} {d e : PyData} {ds es : List PyData} {b : Bool} {n : Nat}
theorem ss_set (h : Sv te G P) (hn : n < G.length := by exact Nat.le_of_ble_eq_true rfl) : Ss E (tAsg te (gName n)) G (.nx (G.set n (.im P))) := fun M0 D σ B M H q => h M0 σ B M H _ fun v B' e d p => q _ B' M e ((H.ext e d).setIm hn p)
theorem ss_setL (h : Svl te G ds) (hn : n < G.length := by exact Nat.le_of_ble_eq_true rfl) : Ss E (tAsg te (gName n)) G (.nx (G.set n (.ow (isL ds)))) := fun M0 D σ B M H q => h M0 σ B M H _ fun p vs B' e d hf ha => by
  rw [upd_own]
  exact q _ B' _ e ((H.ext e d).setOw hn hf ⟨vs, rfl, ha⟩)
theorem ss_le (hl : Le G G1) (h : Ss E ts G1 o) : Ss E ts G o := fun M0 D σ B M H q => h M0 D σ B M (H.le hl) q
theorem ss_nxLe (h : Ss E ts G (.nx G1)) (hl : Le G1 G2) : Ss E ts G (.nx G2) := fun M0 D σ B M H q => h M0 D σ B M H fun σ' B' M' e H' => q σ' B' M' e (H'.le hl)
theorem ss_ctLe (h : Ss E ts G (.ct G1)) (hl : Le G1 G2) : Ss E ts G (.ct G2) := fun M0 D σ B M H q => h M0 D σ B M H fun σ' B' M' e H' => q σ' B' M' e (H'.le hl)
theorem ss_bkLe (h : Ss E ts G (.bk G1)) (hl : Le G1 G2) : Ss E ts G (.bk G2) := fun M0 D σ B M H q => h M0 D σ B M H fun σ' B' M' e H' => q σ' B' M' e (H'.le hl)
theorem ss_nxIs (h : Ss E ts G (.nx G1)) (e : G1 = G2) : Ss E ts G (.nx G2) := e ▸ h
theorem ss_gIs (e : G = G1) (h : Ss E ts G1 o) : Ss E ts G o := e ▸ h
/-- an owned list is let stand from here on -/
theorem ss_freeze (h : G[n]? = some (.ow (isL ds))) (k : Ss E ts (G.set n (.im (isD (.list ds)))) o) : Ss E ts G o := fun M0 D σ B M H q => by
  obtain ⟨l, ob, a, c, ⟨vs, rfl, r⟩, f⟩ := H.ow n _ h
  obtain ⟨H', ex⟩ := H.freeze h a c (P := isD (.list ds)) (.lst upd_same (DqAll_ex (Ex.new (dj_free H.dj c)) r))
  have k' := k M0 D σ _ _ H' (q.ext ex)
  rw [jn_del c] at k'
  exact k'
/-- xs.append(e), xs one's own -/
theorem ss_append {K : PySem.W.Frag} (h : G[n]? = some (.ow (isL ds))) (he : Sv te G (isD d)) (hz : ds.length < sizeLine) : Ss E (tDrop (tBM K "list" rAppend (tVar n) (tCons te tNil))) G (.nx (G.set n (.ow (isL (ds ++ [d]))))) := fun M0 D σ B M H q => by
  obtain ⟨l, ob, a, c, ⟨vs, rfl, r⟩, f⟩ := H.ow n _ h
  refine ⟨.ref l, a, Or.inl ⟨rfl, vs, sq_of (jn_M c)⟩, ?_⟩
  refine he M0 σ B M H _ fun v B' e dj p => ?_
  refine ⟨l, vs, v, rfl, rfl, jn_M c, by rw [DqAll_len r]; exact hz, ?_⟩
  rw [upd_own]
  exact q σ B' _ e ((H.ext e dj).change h a c ⟨_, rfl, DqAll_append (DqAll_ex e r) (.cons p .nil)⟩)
/-- the same, the thing appended a new list: it is let stand -/
theorem ss_appendL {K : PySem.W.Frag} (h : G[n]? = some (.ow (isL ds))) (he : Svl te G es) (hz : ds.length < sizeLine) : Ss E (tDrop (tBM K "list" rAppend (tVar n) (tCons te tNil))) G (.nx (G.set n (.ow (isL (ds ++ [.list es]))))) := ss_append h (sv_svl he) hz
/-- xs[i] = e, xs one's own -/
theorem ss_setItem {i : Int} {j : Nat} (h : G[n]? = some (.ow (isL ds))) (he : Sv te G (isD d)) (hi : Sv tb G (isD (.int i))) (hj : ixN ds.length i = some j) : Ss E (tAsg te (gSub (tVar n) tb rSetL)) G (.nx (G.set n (.ow (isL (ds.set j d))))) := fun M0 D σ B M H q => by
  obtain ⟨l, ob, a, c, ⟨vs, rfl, r⟩, f⟩ := H.ow n _ h
  refine he M0 σ B M H _ fun v B1 e1 d1 p1 => ?_
  refine ⟨.ref l, a, ?_⟩
  refine hi M0 σ B1 M (H.ext e1 d1) _ fun iv B2 e2 d2 p2 => ?_
  rw [dp_int p2]
  refine ⟨l, vs, i, j, rfl, rfl, jn_M c, by rw [DqAll_len r]; exact hj, ?_⟩
  rw [upd_own]
  exact q σ B2 _ (e1.trans e2) (((H.ext e1 d1).ext e2 d2).change h a c ⟨_, rfl, DqAll_set (Dq_ex e2 d v p1) j (DqAll_ex (e1.trans e2) r)⟩)
/-- x = xs.pop(i), xs one's own -/
theorem ss_setPopAt {K : PySem.W.Frag} {m : Nat} {i : Int} (h : G[n]? = some (.ow (isL ds))) (hi : Sv te G (isD (.int i))) (hb : 0 ≤ i ∧ i < ds.length) (hz : ds.length ≤ sizeLine) (hk : ds[i.toNat]? = some d) (hm : m < G.length := by exact Nat.le_of_ble_eq_true rfl) (hne : m ≠ n := by decide) :
    Ss E (tAsg (tBM K "list" rPopAt (tVar n) (tCons te tNil)) (gName m)) G (.nx ((G.set n (.ow (isL (ds.eraseIdx i.toNat)))).set m (.im (isD d)))) := fun M0 D σ B M H q => by
  obtain ⟨l, ob, a, c, ⟨vs, rfl, r⟩, f⟩ := H.ow n _ h
  refine ⟨.ref l, a, Or.inl ⟨rfl, vs, sq_of (jn_M c)⟩, ?_⟩
  refine hi M0 σ B M H _ fun iv B1 e1 d1 p1 => ?_
  rw [dp_int p1]
  obtain ⟨y, hy, py⟩ := DqAll_get (DqAll_ex e1 r) hk
  have hlen := DqAll_len r
  have hzz : (sizeLine : Nat) = 16777216 := sizeLine_eq
  refine ⟨l, vs, i, i.toNat, y, rfl, rfl, jn_M c, by omega, by omega, ?_, hy, ?_⟩
  · unfold seqIndex?
    rw [hlen]
    have h1 : ¬ i < 0 := by omega
    have h2 : i < (ds.length : Int) := hb.2
    simp [h1, h2]
    try omega
  rw [upd_own]
  refine q _ B1 _ e1 ?_
  exact ((H.ext e1 d1).change h a c (R' := isL (ds.eraseIdx i.toNat)) ⟨_, rfl, DqAll_eraseIdx _ (DqAll_ex e1 r)⟩).setIm (by rw [List.length_set]; exact hm) py
end
end Mini

namespace Mini
open PySem L2 Evl

/-! ### operators that take whatever stands -/
section
open PyProof.Rows
variable {X : Cx}
/-- tuple * int, the answer below a million items -/
def rRepM (K : PySem.W.Frag) : R2 := fun x y H Q => ∃ l k xs, x = .ref l ∧ y = .int k ∧ SqT K H l xs ∧ xs ≠ [] ∧ 2 ≤ k ∧ (xs.length : Int) * k ≤ 1000000 ∧ ∀ p, H p = none → Q (.ref p) (upd H p (.tup (List.replicate k.toNat xs).flatten))
theorem op_repM : OpR X (binaryOp .Mult) (rRepM X.K) := by
  intro pins s σ H x y v u Q I rx ry h
  obtain ⟨l, k, xs, e1, e2, hT, hne, h1, hm', q⟩ := h
  subst e1 e2
  cases rx
  obtain ⟨t, rfl⟩ := ry
  obtain ⟨its, r, ⟨⟨cls, dd, data, sl⟩, ho, hc, n, hd⟩, hs⟩ := I.tuple hT
  simp only at hc hd
  subst hc hd
  have hle : its.length = xs.length := r.length.symm
  have hpos : 1 ≤ its.length := by
    cases its with
    | nil => exact absurd (List.length_eq_zero_iff.mp hle.symm) hne
    | cons a b => exact Nat.succ_le_succ (Nat.zero_le _)
  have hi : its.toArray.isEmpty = false := by
    cases its with
    | nil => exact absurd hpos (by decide)
    | cons a b => rfl
  have hk : k ≤ 1000000 := by
    have z : (1 : Int) * k ≤ (xs.length : Int) * k := Int.mul_le_mul_of_nonneg_right (by omega) (by omega)
    omega
  have hm : ((its.toArray.size : Nat) : Int) * k ≤ 1000000 := by rw [List.size_toArray, hle]; exact hm'
  have hmN : k.toNat * xs.length ≤ 1000000 := by
    have z : ((k.toNat * xs.length : Nat) : Int) ≤ 1000000 := by
      rw [Int.natCast_mul, Int.toNat_of_nonneg (by omega), Int.mul_comm]; exact hm'
    omega
  have flen : (List.replicate k.toNat its).flatten.length ≤ sizeLine := by
    rw [PyProof.Rows.lm_len_rep_flat, hle, sizeLine_eq]
    omega
  have a0 : (decide (k < -(2 ^ 63)) || decide (k ≥ 2 ^ 63)) = false := by
    rw [decide_eq_false (by omega), decide_eq_false (by omega)]; rfl
  have a1 : (its.toArray.isEmpty || k == 1) = false := by rw [hi, Bool.false_or]; exact beq_eq_false_iff_ne.mpr (by omega)
  have a2 : (decide (k ≤ 0) || its.toArray.isEmpty) = false := by rw [hi, Bool.or_false]; exact decide_eq_false (by omega)
  have a4 : Builtin.Tuple.tupleTooMany (((its.toArray.size : Nat) : Int) * k) = false := by unfold Builtin.Tuple.tupleTooMany; rw [sizeLine_eq]; exact decide_eq_false (by omega)
  refine wpAny_binaryOp_repeat_ref (T := "tuple") (U := "int") (by decide) ⟨_, ho, rfl⟩ (fun s' => typeIs_int s' k t) noFill_tuple_mul F.fills_int_mul F.slot_int_rmul repeat_tuple F.slot_int_index.lookup ?_
  refine call_meets F.slot_int_rmul (typeIs_int s k t) F.entry_int_rmul (F.args_int_rmul_2 _ _) (int_rmul_tuple k t l its.toArray n dd sl) ⟨ho, rfl, ⟨_, ho, rfl⟩, ?_⟩
  refine call_meets F.slot_tuple_mul ⟨_, ho, rfl⟩ F.entry_tuple_mul (F.args_tuple_mul_2 _ _) (tuple_mulW l its.toArray n dd sl k t a0 a1 a2 (by omega) a4 (by rw [size_rep, List.size_toArray]; exact flen)) ⟨ho, ?_⟩
  rw [size_rep]
  refine ⟨.ref s.heap.objs.size, _, I.laid (t' := s.toks) (o := .tup (List.replicate k.toNat xs).flatten) (fun b ob q => Heap.get?_push_of_some _ q) (Nat.le_refl _) ?_, rfl, q _ (I.hok.fresh (Nat.le_refl _))⟩
  exact ⟨by rw [PyProof.Rows.lm_len_rep_flat, sizeLine_eq]; omega, _, r.rep k.toNat, IsTup.new _ _⟩
def rAddS2 : R2 := fun x y H Q => ∃ i j, x = .str i ∧ y = .str j ∧ i.length + j.length ≤ sizeLine ∧ Q (.str (i ++ j)) H
def uAdd (K : PySem.W.Frag) : R2 := fun x y H Q => rI0 (fun i j => .int (i + j)) x y H Q ∨ (rCat x y H Q ∨ (rCatA K x y H Q ∨ rAddS2 x y H Q))
theorem op_uAdd : OpR X (binaryOp .Add) (uAdd X.K) := OpR.or op_add (OpR.or op_cat (OpR.or op_catA op_add_str))
def uMul (K : PySem.W.Frag) : R2 := fun x y H Q => rI CMul (fun i j => .int (i * j)) x y H Q ∨ (rRep x y H Q ∨ rRepM K x y H Q)
theorem op_uMul : OpR X (binaryOp .Mult) (uMul X.K) := OpR.or op_mul (OpR.or op_rep op_repM)
def uSl (K : PySem.W.Frag) : V → Option Int → Option Int → Hp → VK → Prop := fun x lo hi H Q => rSlL K x lo hi H Q ∨ rSlA K x lo hi H Q
theorem sl_uSl : SlR X (uSl X.K) := SlR.or sl_list sl_tupA
end
end Mini

namespace Mini
open PySem L2 Evl

/-- the items of ds[lo:hi] -/
def cutD {α : Type} (ds : List α) (lo hi : Option Int) : List α := (ds.drop (HT.sIx ds.length 0 lo)).take (HT.sIx ds.length ds.length hi - HT.sIx ds.length 0 lo)
theorem DqAll_cut {B : Hp} {ds : List PyData} {vs : List V} (h : DqAll B vs ds) (lo hi : Option Int) : DqAll B (cutV vs lo hi) (cutD ds lo hi) := by
  unfold cutV cutD
  rw [DqAll_len h]
  exact DqAll_take _ (DqAll_drop _ h)
theorem DqAll_atI {B : Hp} {ds : List PyData} {vs : List V} (h : DqAll B vs ds) {i : Int} {d : PyData} (e : atI ds i = some d) : ∃ v, atI vs i = some v ∧ Dq B v d := by
  unfold atI at e ⊢
  rw [DqAll_len h]
  cases q : ixN ds.length i with
  | none => rw [q] at e; cases e
  | some j => rw [q] at e; exact DqAll_get h e
theorem ars_data {B M : Hp} : ∀ {ds : List PyData} {vs : List V}, ArsOk (ds.map fun d => .im (isD d)) vs B M → DqAll B vs ds
  | [], _, h => by cases h; exact .nil
  | d :: ds, _, h => by cases h with | cons a b => exact .cons a (ars_data b)
def tyName : PyData → String
  | .none => "NoneType"
  | .bool _ => "bool"
  | .int _ => "int"
  | .str _ => "str"
  | .list _ => "list"
  | .tuple _ => "tuple"
  | .dict _ => "dict"
theorem Dq_ty {K : PySem.W.Frag} {H : Hp} {v : V} {d : PyData} (h : Dq H v d) : TyX K H v (.type (tyName d)) := by
  cases h with
  | non => exact .base .non
  | bl b => exact .base (.bl b)
  | int i => exact .base (.int i)
  | str x => exact .base (.str x)
  | lst e _ => exact .base (.lst e)
  | tup e _ => exact .base (.tup e)
/-- the script: a list of ints that is read alone -/
def isS (K : PySem.W.Frag) (ns : List Int) : Ty := ⟨fun v B => ∃ a, v = .ref a ∧ SqL K B a (ns.map V.int), fun e h => by obtain ⟨a, h1, h2⟩ := h; exact ⟨a, h1, ex_l e h2⟩⟩

section
variable {K : PySem.W.Frag} {G : Gm} {te ta tb tc tl : TE} {tt tu : TT} {tas : TA} {P Pa Pb Pc : Ty} {R : Ow} {d e : PyData} {ds es : List PyData} {b c : Bool} {i j : Int} {E : L2.St → XK}

/-! ints -/
theorem sv_op2 {r : R2} (ha : Sv ta G Pa) (hb : Sv tb G Pb) (hr : Rv r Pa Pb P) : Sv (tOp r ta tb) G P := sv_op ha hb hr
theorem sv_add (ha : Sv ta G (isD (.int i))) (hb : Sv tb G (isD (.int j))) : Sv (tOp (uAdd K) ta tb) G (isD (.int (i + j))) := sv_op ha hb (rv_or1 rv_I0)
theorem sv_sub (ha : Sv ta G (isD (.int i))) (hb : Sv tb G (isD (.int j))) : Sv (tOp (rI0 fun i j => .int (i - j)) ta tb) G (isD (.int (i - j))) := sv_op ha hb rv_I0
theorem sv_mul (ha : Sv ta G (isD (.int i))) (hb : Sv tb G (isD (.int j))) (hc : CMul i j) : Sv (tOp (uMul K) ta tb) G (isD (.int (i * j))) := sv_op ha hb (rv_or1 (rv_I hc))
theorem sv_mod (ha : Sv ta G (isD (.int i))) (hb : Sv tb G (isD (.int j))) (hc : 0 < j) : Sv (tOp (rI (fun _ j => 0 < j) fun i j => .int (i % j)) ta tb) G (isD (.int (i % j))) := sv_op ha hb (rv_I (C := fun _ j => 0 < j) hc)
theorem sv_div (ha : Sv ta G (isD (.int i))) (hb : Sv tb G (isD (.int j))) (hc : CDiv i j) : Sv (tOp (rI CDiv fun i j => .int (i / j)) ta tb) G (isD (.int (i / j))) := sv_op ha hb (rv_I hc)
theorem sv_pow (ha : Sv ta G (isD (.int i))) (hb : Sv tb G (isD (.int j))) (hc : CPow i j) : Sv (tOp (rI CPow fun i j => .int (i ^ j.toNat)) ta tb) G (isD (.int (i ^ j.toNat))) := sv_op ha hb (rv_I hc)
theorem sv_cmp {g : Int → Int → Bool} (ha : Sv ta G (isD (.int i))) (hb : Sv tb G (isD (.int j))) : Sv (tOp (rI0 fun i j => .bl (g i j)) ta tb) G (isD (.bool (g i j))) := sv_op ha hb rv_B0
theorem sv_neg (ha : Sv ta G (isD (.int i))) : Sv (tUn (rU fun i => .int (-i)) ta) G (isD (.int (-i))) := fun M0 σ B M H Q q => ha M0 σ B M H _ fun v B' e d p => ⟨i, dp_int p, q _ B' e d (.int _)⟩
/-- a op b op' c -/
theorem sv_chain {g g' : Int → Int → Bool} {i j k : Int} (ha : Sv ta G (isD (.int i))) (hb : Sv tb G (isD (.int j))) (hc : g i j = true → Sv tc G (isD (.int k))) : Sv (tChain (rI0 fun i j => .bl (g i j)) (rI0 fun i j => .bl (g' i j)) ta tb tc) G (isD (.bool (g i j && g' j k))) := fun M0 σ B M H Q q =>
  ha M0 σ B M H _ fun x B1 e1 d1 p1 => hb M0 σ B1 M (H.ext e1 d1) _ fun y B2 e2 d2 p2 => by
    rw [dp_int p1, dp_int p2]
    refine ⟨i, j, rfl, rfl, g i j, rfl, ?_⟩
    cases h : g i j with
    | true =>
      rw [if_pos rfl]
      refine hc h M0 σ B2 M ((H.ext e1 d1).ext e2 d2) _ fun z B3 e3 d3 p3 => ?_
      rw [dp_int p3]
      refine ⟨j, k, rfl, rfl, q _ B3 ((e1.trans e2).trans e3) d3 ?_⟩
      rw [h]
      exact .bl _
    | false =>
      rw [if_neg Bool.false_ne_true]
      refine q _ B2 (e1.trans e2) d2 ?_
      rw [h]
      exact .bl _

/-! == of data -/
theorem rv_eqD (h1 : SeqAt.shaped d = true) (h2 : SeqAt.shaped e = true) : Rv (rEqD K) (isD d) (isD e) (isD (.bool (PyData.eqv d e))) := fun B M x y dj p1 p2 Q q => ⟨d, e, Dq_dp d x (Dq_ex (jn_ex dj) d x p1), Dq_dp e y (Dq_ex (jn_ex dj) e y p2), h1, h2, q _ B (Ex.refl B) dj (.bl _)⟩
theorem rv_neD (h1 : SeqAt.shaped d = true) (h2 : SeqAt.shaped e = true) : Rv (rNeD K) (isD d) (isD e) (isD (.bool (!PyData.eqv d e))) := fun B M x y dj p1 p2 Q q => ⟨d, e, Dq_dp d x (Dq_ex (jn_ex dj) d x p1), Dq_dp e y (Dq_ex (jn_ex dj) e y p2), h1, h2, q _ B (Ex.refl B) dj (.bl _)⟩
theorem sv_eq (ha : Sv ta G (isD d)) (hb : Sv tb G (isD e)) (h1 : SeqAt.shaped d = true) (h2 : SeqAt.shaped e = true) : Sv (tOp (rEqD K) ta tb) G (isD (.bool (PyData.eqv d e))) := sv_op ha hb (rv_eqD h1 h2)
theorem sv_ne (ha : Sv ta G (isD d)) (hb : Sv tb G (isD e)) (h1 : SeqAt.shaped d = true) (h2 : SeqAt.shaped e = true) : Sv (tOp (rNeD K) ta tb) G (isD (.bool (!PyData.eqv d e))) := sv_op ha hb (rv_neD h1 h2)
theorem sv_eqI (ha : Sv ta G (isD (.int i))) (hb : Sv tb G (isD (.int j))) : Sv (tOp (rEqD K) ta tb) G (isD (.bool (decide (i = j)))) := by
  refine sv_is (sv_eq ha hb rfl rfl) ?_
  show PyData.bool (PyData.eqv (.int i) (.int j)) = _
  rw [PyData.eqv]
  congr 1
theorem sv_neI (ha : Sv ta G (isD (.int i))) (hb : Sv tb G (isD (.int j))) : Sv (tOp (rNeD K) ta tb) G (isD (.bool (!decide (i = j)))) := by
  refine sv_is (sv_ne ha hb rfl rfl) ?_
  show PyData.bool (!PyData.eqv (.int i) (.int j)) = _
  rw [PyData.eqv]
  congr 2
theorem sv_isN (ha : Sv ta G (isD d)) : Sv (tOp (fun x y H Q => y = .non ∧ Q (.bl (decide (x = .non))) H) ta (tC .non)) G (isD (.bool (match d with | .none => true | _ => false))) := fun M0 σ B M H Q q => ha M0 σ B M H _ fun v B' e dj p => ⟨rfl, by
  refine q _ B' e dj ?_
  cases p with
  | non => exact .bl _
  | _ => exact .bl false⟩

/-! sequences -/
theorem svl_cat (ha : Rl ta G ds) (hb : Rl tb G es) (hz : ds.length + es.length ≤ sizeLine) : Svl (tOp (uAdd K) ta tb) G (ds ++ es) := fun M0 σ B M H Q q =>
  ha M0 σ B M H _ fun a vs B1 e1 d1 h1 q1 => hb M0 σ B1 M (H.ext e1 d1) _ fun a2 us B2 e2 d2 h2 q2 => .inr (.inl
    ⟨a, a2, vs, us, rfl, rfl, jn_mono e2 d2 _ _ h1, h2, by rw [DqAll_len q1, DqAll_len q2]; exact hz, fun p hp => q p _ B2 (e1.trans e2) d2 hp (DqAll_append (DqAll_ex e2 q1) q2)⟩)
theorem svl_rep (ha : Rl ta G ds) (hb : Sv tb G (isD (.int i))) (h0 : -(2 ^ 63) ≤ i) (h1 : i < 2 ^ 63) (hz : ds.length * i.toNat ≤ sizeLine) : Svl (tOp (uMul K) ta tb) G (List.replicate i.toNat ds).flatten := fun M0 σ B M H Q q =>
  ha M0 σ B M H _ fun a vs B1 e1 d1 hh q1 => hb M0 σ B1 M (H.ext e1 d1) _ fun y B2 e2 d2 p2 => by
    rw [dp_int p2]
    exact .inr (.inl ⟨a, i, vs, rfl, rfl, jn_mono e2 d2 _ _ hh, h0, h1, by rw [DqAll_len q1]; exact hz, fun p hp => q p _ B2 (e1.trans e2) d2 hp (DqAll_rep (DqAll_ex e2 q1) _)⟩)
theorem dq_tup {B : Hp} {v : V} (h : (isD (.tuple ds)).p v B) : ∃ a vs, v = .ref a ∧ B a = some (.tup vs) ∧ DqAll B vs ds := by cases (show Dq B v (.tuple ds) from h) with | tup h1 h2 => exact ⟨_, _, rfl, h1, h2⟩
theorem dq_lst {B : Hp} {v : V} (h : (isD (.list ds)).p v B) : ∃ a vs, v = .ref a ∧ B a = some (.lst vs) ∧ DqAll B vs ds := by cases (show Dq B v (.list ds) from h) with | lst h1 h2 => exact ⟨_, _, rfl, h1, h2⟩
theorem sv_catT (ha : Sv ta G (isD (.tuple ds))) (hb : Sv tb G (isD (.tuple es))) (hz : ds.length + es.length ≤ sizeLine) : Sv (tOp (uAdd K) ta tb) G (isD (.tuple (ds ++ es))) := fun M0 σ B M H Q q =>
  ha M0 σ B M H _ fun x B1 e1 d1 p1 => hb M0 σ B1 M (H.ext e1 d1) _ fun y B2 e2 d2 p2 => by
    obtain ⟨a, vs, rfl, h1, q1⟩ := dq_tup ((isD (.tuple ds)).mono e2 p1)
    obtain ⟨a2, us, rfl, h2, q2⟩ := dq_tup p2
    refine .inr (.inr (.inl ⟨a, a2, vs, us, rfl, rfl, st_of (jn_B d2 h1), st_of (jn_B d2 h2), by rw [DqAll_len q1, DqAll_len q2]; exact hz, fun z => ?_, fun _ z => ?_, fun _ _ p hp => ?_⟩))
    · refine q _ B2 (e1.trans e2) d2 (.tup h2 ?_)
      have z' : ds = [] := by have := DqAll_len q1; rw [z] at this; exact List.length_eq_zero_iff.mp this.symm
      rw [z', List.nil_append]; exact q2
    · refine q _ B2 (e1.trans e2) d2 (.tup h1 ?_)
      have z' : es = [] := by have := DqAll_len q2; rw [z] at this; exact List.length_eq_zero_iff.mp this.symm
      rw [z', List.append_nil]; exact q1
    · rw [upd_new hp]
      exact q _ _ ((e1.trans e2).trans (ex_new hp)) (dj_new d2 hp) (.tup upd_same (DqAll_ex (ex_new hp) (DqAll_append q1 q2)))
theorem sv_repT (ha : Sv ta G (isD (.tuple ds))) (hb : Sv tb G (isD (.int i))) (hn : ds ≠ []) (h0 : 2 ≤ i) (hz : (ds.length : Int) * i ≤ 1000000) : Sv (tOp (uMul K) ta tb) G (isD (.tuple (List.replicate i.toNat ds).flatten)) := fun M0 σ B M H Q q =>
  ha M0 σ B M H _ fun x B1 e1 d1 p1 => hb M0 σ B1 M (H.ext e1 d1) _ fun y B2 e2 d2 p2 => by
    obtain ⟨a, vs, rfl, h1, q1⟩ := dq_tup ((isD (.tuple ds)).mono e2 p1)
    rw [dp_int p2]
    refine .inr (.inr ⟨a, i, vs, rfl, rfl, st_of (jn_B d2 h1), fun z => hn ?_, h0, by rw [DqAll_len q1]; exact hz, fun p hp => ?_⟩)
    · have := DqAll_len q1; rw [z] at this; exact List.length_eq_zero_iff.mp this.symm
    · rw [upd_new hp]
      exact q _ _ ((e1.trans e2).trans (ex_new hp)) (dj_new d2 hp) (.tup upd_same (DqAll_ex (ex_new hp) (DqAll_rep q1 _)))
theorem sv_ixL (ha : Rl ta G ds) (hb : Sv tb G (isD (.int i))) (hi : atI ds i = some d) : Sv (tOp (rIx K) ta tb) G (isD d) := fun M0 σ B M H Q q =>
  ha M0 σ B M H _ fun a vs B1 e1 d1 hh q1 => hb M0 σ B1 M (H.ext e1 d1) _ fun y B2 e2 d2 p2 => by
    rw [dp_int p2]
    obtain ⟨v, h1, h2⟩ := DqAll_atI q1 hi
    exact .inl ⟨a, vs, i, v, rfl, rfl, sq_of (jn_mono e2 d2 _ _ hh), h1, q v B2 (e1.trans e2) d2 (Dq_ex e2 d v h2)⟩
theorem sv_ixT (ha : Sv ta G (isD (.tuple ds))) (hb : Sv tb G (isD (.int i))) (hi : atI ds i = some d) : Sv (tOp (rIx K) ta tb) G (isD d) := fun M0 σ B M H Q q =>
  ha M0 σ B M H _ fun x B1 e1 d1 p1 => hb M0 σ B1 M (H.ext e1 d1) _ fun y B2 e2 d2 p2 => by
    obtain ⟨a, vs, rfl, hh, q1⟩ := dq_tup ((isD (.tuple ds)).mono e2 p1)
    rw [dp_int p2]
    obtain ⟨v, h1, h2⟩ := DqAll_atI q1 hi
    exact .inr (.inl ⟨a, vs, i, v, rfl, rfl, st_of (jn_B d2 hh), h1, q v B2 (e1.trans e2) d2 h2⟩)
theorem so_none : So tNoPart G none := fun M0 σ B M H Q q => q B (Ex.refl B) H.dj
theorem so_some (h : Sv te G (isD (.int i))) : So (tPart te) G (some i) := fun M0 σ B M H Q q => h M0 σ B M H _ fun v B' e d p => ⟨i, dp_int p, q B' e d⟩
theorem svl_slice {to th : TO} {lo hi : Option Int} (ha : Rl ta G ds) (hl : So to G lo) (hu : So th G hi) : Svl (tSl (uSl K) ta to th) G (cutD ds lo hi) := fun M0 σ B M H Q q =>
  ha M0 σ B M H _ fun a vs B1 e1 d1 hh q1 => hl M0 σ B1 M (H.ext e1 d1) _ fun B2 e2 d2 => hu M0 σ B2 M ((H.ext e1 d1).ext e2 d2) _ fun B3 e3 d3 =>
    .inl ⟨a, vs, rfl, sq_of (jn_mono (e2.trans e3) d3 _ _ hh), fun p hp => q p _ B3 ((e1.trans e2).trans e3) d3 hp (DqAll_cut (DqAll_ex (e2.trans e3) q1) lo hi)⟩
theorem svl_sliceS {to th : TO} {lo hi : Option Int} {ns : List Int} (ha : Sv ta G (isS K ns)) (hl : So to G lo) (hu : So th G hi) : Svl (tSl (uSl K) ta to th) G ((cutD ns lo hi).map PyData.int) := fun M0 σ B M H Q q =>
  ha M0 σ B M H _ fun x B1 e1 d1 p1 => hl M0 σ B1 M (H.ext e1 d1) _ fun B2 e2 d2 => hu M0 σ B2 M ((H.ext e1 d1).ext e2 d2) _ fun B3 e3 d3 => by
    obtain ⟨a, rfl, hh⟩ := p1
    refine .inl ⟨a, _, rfl, ex_l (jn_ex d3) (ex_l (e2.trans e3) hh), fun p hp => ?_⟩
    refine q p _ B3 ((e1.trans e2).trans e3) d3 hp ?_
    have hc : cutV (ns.map V.int) lo hi = (cutD ns lo hi).map V.int := by unfold cutV cutD; rw [List.length_map, List.map_take, List.map_drop]
    rw [hc]
    exact DqAll_ofInts _
theorem sv_sliceT {to th : TO} {lo hi : Option Int} (ha : Sv ta G (isD (.tuple ds))) (hl : So to G lo) (hu : So th G hi) : Sv (tSl (uSl K) ta to th) G (isD (.tuple (cutD ds lo hi))) := fun M0 σ B M H Q q =>
  ha M0 σ B M H _ fun x B1 e1 d1 p1 => hl M0 σ B1 M (H.ext e1 d1) _ fun B2 e2 d2 => hu M0 σ B2 M ((H.ext e1 d1).ext e2 d2) _ fun B3 e3 d3 => by
    obtain ⟨a, vs, rfl, hh, q1⟩ := dq_tup ((isD (.tuple ds)).mono (e2.trans e3) p1)
    refine .inr ⟨a, vs, rfl, st_of (jn_B d3 hh), fun z => ?_, fun _ p hp => ?_⟩
    · refine q _ B3 ((e1.trans e2).trans e3) d3 (.tup hh ?_)
      have w := DqAll_cut q1 lo hi
      unfold cutV at w
      rw [z.1, z.2, List.drop_zero, Nat.sub_zero, List.take_length] at w
      exact w
    · rw [upd_new hp]
      exact q _ _ (((e1.trans e2).trans e3).trans (ex_new hp)) (dj_new d3 hp) (.tup upd_same (DqAll_ex (ex_new hp) (DqAll_cut q1 lo hi)))
theorem sa_ims {tr : TA} (h : Sv te G (isD d)) (hr : Sa tr G (ds.map fun d => .im (isD d))) : Sa (tCons te tr) G ((d :: ds).map fun d => .im (isD d)) := sa_im h hr
theorem sv_tup (h : Sa tas G (ds.map fun d => .im (isD d))) (hz : ds.length ≤ sizeLine) : Sv (tTup tas) G (isD (.tuple ds)) := fun M0 σ B M H Q q => h M0 σ B M H _ fun vs B' e dj p => by
  refine ⟨by rw [DqAll_len (ars_data p)]; exact hz, fun a ha => ?_⟩
  rw [upd_new ha]
  exact q _ _ (e.trans (ex_new ha)) (dj_new dj ha) (.tup upd_same (DqAll_ex (ex_new ha) (ars_data p)))
theorem svl_lst (h : Sa tas G (ds.map fun d => .im (isD d))) (hz : ds.length ≤ sizeLine) : Svl (tLst tas) G ds := fun M0 σ B M H Q q => h M0 σ B M H _ fun vs B' e dj p => by
  refine ⟨by rw [DqAll_len (ars_data p)]; exact hz, fun a ha => ?_⟩
  exact q _ _ _ e dj ha (ars_data p)

/-! built-in calls -/
theorem sv_lenL (ha : Rl ta G ds) : Sv (tCB (fun xs H Q => ∃ x n, xs = [x] ∧ LenV K x H n ∧ Q (.int n) H) (tCons ta tNil)) G (isD (.int ds.length)) := fun M0 σ B M H Q q => ha M0 σ B M H _ fun a vs B1 e1 d1 hh q1 =>
  ⟨.ref a, ds.length, rfl, .inl ⟨vs, sq_of hh, (DqAll_len q1).symm⟩, q _ B1 e1 d1 (.int _)⟩
theorem sv_lenT (ha : Sv ta G (isD (.tuple ds))) : Sv (tCB (fun xs H Q => ∃ x n, xs = [x] ∧ LenV K x H n ∧ Q (.int n) H) (tCons ta tNil)) G (isD (.int ds.length)) := fun M0 σ B M H Q q => ha M0 σ B M H _ fun x B1 e1 d1 p1 => by
  obtain ⟨a, vs, rfl, hh, q1⟩ := dq_tup p1
  exact ⟨.ref a, ds.length, rfl, .inr ⟨vs, st_of (jn_B d1 hh), (DqAll_len q1).symm⟩, q _ B1 e1 d1 (.int _)⟩
theorem svl_list (ha : Rl ta G ds) : Svl (tCB (fun xs H Q => ∃ p ys, xs = [.ref p] ∧ (SqL K H p ys ∨ SqT K H p ys) ∧ ∀ l, H l = none → Q (.ref l) (upd H l (.lst ys))) (tCons ta tNil)) G ds := fun M0 σ B M H Q q => ha M0 σ B M H _ fun a vs B1 e1 d1 hh q1 =>
  ⟨a, vs, rfl, .inl (sq_of hh), fun l hl => q l vs B1 e1 d1 hl q1⟩
theorem svl_listT (ha : Sv ta G (isD (.tuple ds))) : Svl (tCB (fun xs H Q => ∃ p ys, xs = [.ref p] ∧ (SqL K H p ys ∨ SqT K H p ys) ∧ ∀ l, H l = none → Q (.ref l) (upd H l (.lst ys))) (tCons ta tNil)) G ds := fun M0 σ B M H Q q => ha M0 σ B M H _ fun x B1 e1 d1 p1 => by
  obtain ⟨a, vs, rfl, hh, q1⟩ := dq_tup p1
  exact ⟨a, vs, rfl, .inr (st_of (jn_B d1 hh)), fun l hl => q l vs B1 e1 d1 hl q1⟩
theorem sv_tupleL (ha : Rl ta G ds) : Sv (tThen ta (kTup K)) G (isD (.tuple ds)) := fun M0 σ B M H Q q => ha M0 σ B M H _ fun a vs B1 e1 d1 hh q1 =>
  .inl ⟨a, vs, rfl, sq_of hh, fun l hl => by
    rw [upd_new hl]
    exact q _ _ (e1.trans (ex_new hl)) (dj_new d1 hl) (.tup upd_same (DqAll_ex (ex_new hl) q1))⟩
theorem sv_tupleT (ha : Sv ta G (isD (.tuple ds))) : Sv (tThen ta (kTup K)) G (isD (.tuple ds)) := fun M0 σ B M H Q q => ha M0 σ B M H _ fun x B1 e1 d1 p1 => by
  obtain ⟨a, vs, rfl, hh, q1⟩ := dq_tup p1
  exact .inr ⟨a, vs, rfl, st_of (jn_B d1 hh), q _ B1 e1 d1 (.tup hh q1)⟩
abbrev cInt : List V → Hp → VK → Prop := fun xs H Q => (∃ i, xs = [.int i] ∧ Q (.int i) H) ∨ ∃ k, xs = [.bl k] ∧ Q (.int (if k then 1 else 0)) H
theorem sv_int1 (ha : Sv ta G (isD (.int i))) : Sv (tCB cInt (tCons ta tNil)) G (isD (.int i)) := fun M0 σ B M H Q q => ha M0 σ B M H _ fun x B1 e1 d1 p1 => .inl ⟨i, by rw [dp_int p1], q _ B1 e1 d1 (.int _)⟩
theorem sv_intB (ha : Sv ta G (isD (.bool b))) : Sv (tCB cInt (tCons ta tNil)) G (isD (.int (if b then 1 else 0))) := fun M0 σ B M H Q q => ha M0 σ B M H _ fun x B1 e1 d1 p1 => .inr ⟨b, by rw [dp_bool p1], q _ B1 e1 d1 (.int _)⟩
theorem sv_abs (ha : Sv ta G (isD (.int i))) : Sv (tCB (fun xs H Q => ∃ i, xs = [.int i] ∧ Q (.int (if i < 0 then -i else i)) H) (tCons ta tNil)) G (isD (.int (if i < 0 then -i else i))) := fun M0 σ B M H Q q => ha M0 σ B M H _ fun x B1 e1 d1 p1 => ⟨i, by rw [dp_int p1], q _ B1 e1 d1 (.int _)⟩
theorem sv_max2 (ha : Sv ta G (isD (.int i))) (hb : Sv tb G (isD (.int j))) : Sv (tCB (fun xs H Q => ∃ i j, xs = [.int i, .int j] ∧ Q (.int (if j > i then j else i)) H) (tCons ta (tCons tb tNil))) G (isD (.int (if j > i then j else i))) := fun M0 σ B M H Q q =>
  ha M0 σ B M H _ fun x B1 e1 d1 p1 => hb M0 σ B1 M (H.ext e1 d1) _ fun y B2 e2 d2 p2 => ⟨i, j, by rw [dp_int p1, dp_int p2], q _ B2 (e1.trans e2) d2 (.int _)⟩
theorem sv_all {bs : List Bool} (ha : Rl ta G (bs.map PyData.bool)) : Sv (tCB (rAll K) (tCons ta tNil)) G (isD (.bool (bs.all id))) := fun M0 σ B M H Q q => ha M0 σ B M H _ fun a vs B1 e1 d1 hh q1 => ⟨a, bs, rfl, by rw [← DqAll_bools q1]; exact sq_of hh, q _ B1 e1 d1 (.bl _)⟩
theorem sv_any {bs : List Bool} (ha : Rl ta G (bs.map PyData.bool)) : Sv (tCB (rAny K) (tCons ta tNil)) G (isD (.bool (bs.any id))) := fun M0 σ B M H Q q => ha M0 σ B M H _ fun a vs B1 e1 d1 hh q1 => ⟨a, bs, rfl, by rw [← DqAll_bools q1]; exact sq_of hh, q _ B1 e1 d1 (.bl _)⟩
theorem sv_sum {ns : List Int} (ha : Rl ta G (ns.map PyData.int)) : Sv (tCB (rSum K) (tCons ta tNil)) G (isD (.int ns.sum)) := fun M0 σ B M H Q q => ha M0 σ B M H _ fun a vs B1 e1 d1 hh q1 => ⟨a, ns, rfl, by rw [← DqAll_ints q1]; exact sq_of hh, q _ B1 e1 d1 (.int _)⟩
theorem sv_isi {n : String} (ha : Sv ta G (isD d)) (hb : Sv tb G (isV (.ty n))) (h : kitB (tyName d) n = some b) : Sv (tCB (rIsi K) (tCons ta (tCons tb tNil))) G (isD (.bool b)) := fun M0 σ B M H Q q =>
  ha M0 σ B M H _ fun x B1 e1 d1 p1 => hb M0 σ B1 M (H.ext e1 d1) _ fun y B2 e2 d2 p2 => ⟨x, y, _, _, b, rfl, by rw [show y = .ty n from p2]; exact .ty n, Dq_ty (Dq_ex (e2.trans (jn_ex d2)) d x p1), kit_ty h, q _ B2 (e1.trans e2) d2 (.bl _)⟩
theorem sv_isiL {n : String} (ha : Rl ta G ds) (hb : Sv tb G (isV (.ty n))) (h : kitB "list" n = some b) : Sv (tCB (rIsi K) (tCons ta (tCons tb tNil))) G (isD (.bool b)) := fun M0 σ B M H Q q =>
  ha M0 σ B M H _ fun a vs B1 e1 d1 hh q1 => hb M0 σ B1 M (H.ext e1 d1) _ fun y B2 e2 d2 p2 => ⟨.ref a, y, _, _, b, rfl, by rw [show y = .ty n from p2]; exact .ty n, .base (.lst (jn_mono e2 d2 _ _ hh)), kit_ty h, q _ B2 (e1.trans e2) d2 (.bl _)⟩
theorem svl_range1 (ha : Sv ta G (isD (.int i))) (h0 : 0 ≤ i) (h1 : i ≤ 16777216) : Svl (tLstRg (tRg1 ta)) G ((List.range i.toNat).map fun k : Nat => PyData.int (k : Int)) := fun M0 σ B M H Q q => ha M0 σ B M H _ fun x B1 e1 d1 p1 =>
  ⟨i, dp_int p1, RgOk.of_le (by omega) (by omega) (by omega) h0, fun l hl => q l _ B1 e1 d1 hl (by
    have e : rgV 0 i = ((List.range i.toNat).map fun k : Nat => (k : Int)).map V.int := by
      unfold rgV
      rw [Int.sub_zero, List.map_map]
      apply List.map_congr_left
      intro k _
      show V.int (0 + (k : Int)) = V.int (k : Int)
      rw [Int.zero_add]
    rw [e]
    have e2 : ((List.range i.toNat).map fun k : Nat => PyData.int (k : Int)) = ((List.range i.toNat).map fun k : Nat => (k : Int)).map PyData.int := by rw [List.map_map]; rfl
    rw [e2]
    exact DqAll_ofInts _)⟩

/-! tests, and, or, not -/
theorem st_test (h : Sv te G (isD (.bool b))) : St' (tTest te) G b := fun M0 σ B M H Q q => h M0 σ B M H _ fun v B' e d p => ⟨b, dp_bool p, q B' e d⟩
theorem st_B (h : Sv te G (isD (.bool b))) : St' (tB te) G b := fun M0 σ B M H Q q => h M0 σ B M H _ fun v B' e d p => ⟨b, dp_bool p, q B' e d⟩
theorem st_not (h : St' tt G b) : St' (tNot tt) G (!b) := fun M0 σ B M H Q q => h M0 σ B M H _ fun B' e d => q B' e d
theorem st_and (h : St' tt G b) (h2 : b = true → St' tu G c) : St' (tAnd tt tu) G (b && c) := fun M0 σ B M H Q q => h M0 σ B M H _ fun B' e d => by
  cases b with
  | true => exact h2 rfl M0 σ B' M (H.ext e d) Q fun B2 e2 d2 => q B2 (e.trans e2) d2
  | false => exact q B' e d
theorem st_or (h : St' tt G b) (h2 : b = false → St' tu G c) : St' (tOr tt tu) G (b || c) := fun M0 σ B M H Q q => h M0 σ B M H _ fun B' e d => by
  cases b with
  | true => exact q B' e d
  | false => exact h2 rfl M0 σ B' M (H.ext e d) Q fun B2 e2 d2 => q B2 (e.trans e2) d2
theorem sv_and (h : Sv ta G (isD (.bool b))) (h2 : b = true → Sv tb G (isD (.bool c))) : Sv (tAndV ta tb) G (isD (.bool (b && c))) := fun M0 σ B M H Q q => h M0 σ B M H _ fun v B' e d p => ⟨b, dp_bool p, by
  cases b with
  | true => exact h2 rfl M0 σ B' M (H.ext e d) Q fun v2 B2 e2 d2 p2 => q v2 B2 (e.trans e2) d2 p2
  | false => exact q _ B' e d (.bl _)⟩
theorem sv_or (h : Sv ta G (isD (.bool b))) (h2 : b = false → Sv tb G (isD (.bool c))) : Sv (tOrV ta tb) G (isD (.bool (b || c))) := fun M0 σ B M H Q q => h M0 σ B M H _ fun v B' e d p => ⟨b, dp_bool p, by
  cases b with
  | true => exact q _ B' e d (.bl _)
  | false => exact h2 rfl M0 σ B' M (H.ext e d) Q fun v2 B2 e2 d2 p2 => q v2 B2 (e.trans e2) d2 p2⟩
theorem sv_not (h : Sv ta G (isD (.bool b))) : Sv (tNotV ta) G (isD (.bool (!b))) := fun M0 σ B M H Q q => h M0 σ B M H _ fun v B' e d p => ⟨b, dp_bool p, q _ B' e d (.bl _)⟩
theorem sv_ite (h : St' tt G b) (h1 : b = true → Sv ta G P) (h2 : b = false → Sv tb G P) : Sv (tIf tt ta tb) G P := fun M0 σ B M H Q q => h M0 σ B M H _ fun B' e d => by
  cases b with
  | true => exact h1 rfl M0 σ B' M (H.ext e d) Q fun v2 B2 e2 d2 p2 => q v2 B2 (e.trans e2) d2 p2
  | false => exact h2 rfl M0 σ B' M (H.ext e d) Q fun v2 B2 e2 d2 p2 => q v2 B2 (e.trans e2) d2 p2
end
end Mini

namespace Mini
open PySem L2 Evl

/-! ### instances -/
structure Fl where
  r : List (Str × V) → Hp → Prop
  mono : ∀ {fs : List (Str × V)} {B B' : Hp}, Ex B B' → r fs B → r fs B'
def isI (C : Addr) (F : Fl) : Ty := isO C F.r F.mono
/-- an instance that is being made -/
def owI (C p dx : Addr) (F : Fl) : Ow := ⟨fun a o B => a = p ∧ ∃ fs, o = .ins C dx fs ∧ F.r fs B ∧ fs.length < 1000, fun e h => by obtain ⟨h0, fs, h1, h2, h3⟩ := h; exact ⟨h0, fs, h1, F.mono e h2, h3⟩⟩
/-- just these fields, each of its type -/
inductive FldsOk : List (Str × Ty) → List (Str × V) → Hp → Prop where
  | nil {B} : FldsOk [] [] B
  | cons {f P v fs vs B} : P.p v B → FldsOk fs vs B → FldsOk ((f, P) :: fs) ((f, v) :: vs) B
theorem FldsOk.ext {fs : List (Str × Ty)} {vs : List (Str × V)} {B B' : Hp} (e : Ex B B') (h : FldsOk fs vs B) : FldsOk fs vs B' := by
  induction h with
  | nil => exact .nil
  | cons a _ ih => exact .cons (Ty.mono _ e a) (ih e)
theorem FldsOk.len {fs : List (Str × Ty)} {vs : List (Str × V)} {B : Hp} (h : FldsOk fs vs B) : vs.length = fs.length := by
  induction h with
  | nil => rfl
  | cons a _ ih => simp [ih]
theorem FldsOk.look {fs : List (Str × Ty)} {vs : List (Str × V)} {B : Hp} (h : FldsOk fs vs B) {f : Str} : (∀ P, fs.lookup f = some P → ∃ v, vs.lookup f = some v ∧ P.p v B) ∧ (fs.lookup f = none → vs.lookup f = none) := by
  induction h with
  | nil => exact ⟨fun P q => (by cases q), fun _ => rfl⟩
  | @cons g P v fs vs B a _ ih =>
    by_cases e : f = g
    · subst e
      refine ⟨fun P' q => ⟨v, ?_, ?_⟩, fun q => ?_⟩
      · simp [List.lookup]
      · simp [List.lookup] at q; subst q; exact a
      · simp [List.lookup] at q
    · have eb : (f == g) = false := beq_eq_false_iff_ne.mpr e
      simp only [List.lookup, eb]
      exact ih
theorem FldsOk.put {fs : List (Str × Ty)} {vs : List (Str × V)} {B : Hp} (h : FldsOk fs vs B) {f : Str} {P : Ty} {v : V} (hv : P.p v B) (hn : fs.lookup f = none) : FldsOk (fs ++ [(f, P)]) (putF f v vs) B := by
  induction h with
  | nil => exact .cons hv .nil
  | @cons g P' v' fs vs B a _ ih =>
    by_cases e : f = g
    · subst e; simp [List.lookup] at hn
    · have eb : (f == g) = false := beq_eq_false_iff_ne.mpr e
      simp only [List.lookup, eb] at hn
      show FldsOk _ (if g = f then (g, v) :: vs else (g, v') :: putF f v vs) _
      rw [if_neg (fun z => e z.symm)]
      exact .cons a (ih hv hn)
def flds (fs : List (Str × Ty)) : Fl := ⟨fun vs B => FldsOk fs vs B, fun e h => h.ext e⟩

section
variable {K : PySem.W.Frag} {G G1 : Gm} {te ta tb tc tl tv : TE} {tt tu : TT} {tas : TA} {ts : TS} {P Pa Pb Pc : Ty} {R : Ow} {d e : PyData} {ds es : List PyData} {b c : Bool} {i j : Int} {E : L2.St → XK} {C D : Addr} {F : Fl} {fs : List (Str × Ty)} {f m : Str} {n : Nat}
theorem sv_fld (ha : Sv ta G (isI C (flds fs))) (hf : fs.lookup f = some P) (c : Cls K C) (hn : NoAttr K C f) : Sv (tFld K ta f) G P := fun M0 σ B M H Q q => ha M0 σ B M H _ fun x B1 e1 d1 p1 => by
  obtain ⟨p, dx, vs, rfl, h1, h2⟩ := p1
  obtain ⟨v, hv, pv⟩ := h2.look.1 P hf
  exact ⟨p, C, dx, vs, v, rfl, jn_B d1 h1, c, hn, hv, q v B1 e1 d1 pv⟩
/-- self.f = e, self being made -/
theorem ss_fld {p dx : Addr} (h : G[n]? = some (.ow (owI C p dx (flds fs)))) (he : Sv tv G P) (hf : fs.lookup f = none) (hl : fs.length < 999) (c : Cls K C) (hn : NoAttr K C f) : Ss E (sFld K (tVar n) tv f) G (.nx (G.set n (.ow (owI C p dx (flds (fs ++ [(f, P)])))))) := fun M0 D σ B M H q => by
  obtain ⟨l, ob, a, c1, ⟨h0, vs, rfl, r, hl2⟩, f1⟩ := H.ow n _ h
  refine he M0 σ B M H _ fun v B' e dj pv => ?_
  refine ⟨.ref l, a, l, C, dx, vs, rfl, jn_M c1, c, hn, hl2, ?_⟩
  rw [upd_own]
  have r' := (FldsOk.ext e r).put pv hf
  exact q σ B' _ e ((H.ext e dj).change h a c1 ⟨h0, _, rfl, r', by rw [r'.len, List.length_append, List.length_singleton]; omega⟩)

/-! ### own calls -/
theorem sv_call {S : Fs} {as : List Ar} (ha : Sa tas G as) (x : S.α) (hx : S.ars x = as) (hr : S.res x = .ok P) : Sv (tCallS (spF S) E tas) G P := fun M0 σ B M H Q q => ha M0 σ B M H _ fun vs B1 e1 d1 p1 =>
  ⟨x, B1, M, rfl, d1, by rw [hx]; exact p1, by rw [hr]; exact fun v B' e d p => q v B' (e1.trans e) d p⟩
theorem svl_call {S : Fs} {as : List Ar} (ha : Sa tas G as) (x : S.α) (hx : S.ars x = as) (hr : S.res x = .ol ds) : Svl (tCallS (spF S) E tas) G ds := fun M0 σ B M H Q q => ha M0 σ B M H _ fun vs B1 e1 d1 p1 =>
  ⟨x, B1, M, rfl, d1, by rw [hx]; exact p1, by rw [hr]; exact fun p us B' e d hn hd => q p us B' (e1.trans e) d hn hd⟩
/-- what raises C -/
def Sb (te : TE) (G : Gm) (E : L2.St → XK) (C : Addr) : Prop := ∀ (M0 : Hp) (σ : L2.St) (B M : Hp), Holds M0 G σ B M → ∀ Q : VK, (∀ B', Ex B B' → Dj B' M → E σ (.ref C) none (jn B' M)) → te σ (jn B M) Q
def Stb (tt : TT) (G : Gm) (E : L2.St → XK) (C : Addr) : Prop := ∀ (M0 : Hp) (σ : L2.St) (B M : Hp), Holds M0 G σ B M → ∀ Q : Bool → Hp → Prop, (∀ B', Ex B B' → Dj B' M → E σ (.ref C) none (jn B' M)) → tt σ (jn B M) Q
theorem sb_call {S : Fs} {as : List Ar} (ha : Sa tas G as) (x : S.α) (hx : S.ars x = as) (hr : S.res x = .bad D) : Sb (tCallS (spF S) E tas) G E D := fun M0 σ B M H Q q => ha M0 σ B M H _ fun vs B1 e1 d1 p1 =>
  ⟨x, B1, M, rfl, d1, by rw [hx]; exact p1, by rw [hr]; exact fun B' e d => q B' (e1.trans e) d⟩
theorem tMt_of {S : Fs} {as : List Ar} (ho : Sv ta G (isI C F)) (hm : ∀ vs B, F.r vs B → vs.lookup m = none) (ha : Sa tas G as) {M0 : Hp} {σ : L2.St} {B M : Hp} (H : Holds M0 G σ B M) {Q : VK}
    (k : ∀ vs B1, Ex B B1 → Dj B1 M → ArsOk (.im (isI C F) :: as) vs B1 M → spF S vs (jn B1 M) Q (E σ)) : tMt C m (spF S) E ta tas σ (jn B M) Q :=
  ho M0 σ B M H _ fun x B1 e1 d1 p1 => by
    obtain ⟨p, dx, vs, rfl, h1, h2⟩ := p1
    refine ⟨p, dx, vs, rfl, jn_B d1 h1, hm vs B1 h2, ?_⟩
    refine ha M0 σ B1 M (H.ext e1 d1) _ fun us B2 e2 d2 p2 => ?_
    exact k _ B2 (e1.trans e2) d2 (.cons (Ty.mono (isI C F) e2 ⟨p, dx, vs, rfl, h1, h2⟩) p2)
theorem sv_mt {S : Fs} {as : List Ar} (ho : Sv ta G (isI C F)) (hm : ∀ vs B, F.r vs B → vs.lookup m = none) (ha : Sa tas G as) (x : S.α) (hx : S.ars x = .im (isI C F) :: as) (hr : S.res x = .ok P) : Sv (tMt C m (spF S) E ta tas) G P := fun M0 σ B M H Q q =>
  tMt_of ho hm ha H fun vs B1 e1 d1 p1 => ⟨x, B1, M, rfl, d1, by rw [hx]; exact p1, by rw [hr]; exact fun v B' e d p => q v B' (e1.trans e) d p⟩
theorem svl_mt {S : Fs} {as : List Ar} (ho : Sv ta G (isI C F)) (hm : ∀ vs B, F.r vs B → vs.lookup m = none) (ha : Sa tas G as) (x : S.α) (hx : S.ars x = .im (isI C F) :: as) (hr : S.res x = .ol ds) : Svl (tMt C m (spF S) E ta tas) G ds := fun M0 σ B M H Q q =>
  tMt_of ho hm ha H fun vs B1 e1 d1 p1 => ⟨x, B1, M, rfl, d1, by rw [hx]; exact p1, by rw [hr]; exact fun p us B' e d hn hd => q p us B' (e1.trans e) d hn hd⟩
theorem sb_mt {S : Fs} {as : List Ar} (ho : Sv ta G (isI C F)) (hm : ∀ vs B, F.r vs B → vs.lookup m = none) (ha : Sa tas G as) (x : S.α) (hx : S.ars x = .im (isI C F) :: as) (hr : S.res x = .bad D) : Sb (tMt C m (spF S) E ta tas) G E D := fun M0 σ B M H Q q =>
  tMt_of ho hm ha H fun vs B1 e1 d1 p1 => ⟨x, B1, M, rfl, d1, by rw [hx]; exact p1, by rw [hr]; exact fun B' e d => q B' (e1.trans e) d⟩
end
/-- an __init__'s promise: what the instance becomes, or what is raised -/
structure Ini where
  α : Type
  n : Nat
  ars : α → List Ar
  len : ∀ x, (ars x).length = n
  res : α → Fl ⊕ Addr
def spN (C : Addr) (S : Ini) : Sp := fun vs H Q E => ∃ (x : S.α) (B M : Hp) (p dx : Addr) (us : List V), vs = .ref p :: us ∧ H = jn B M ∧ Dj B M ∧ M p = some (.ins C dx []) ∧ ArsOk (S.ars x) us B (del M p) ∧
  match S.res x with
  | .inl F => ∀ B' fs, Ex B B' → Dj B' M → F.r fs B' → Q .non (jn B' (upd M p (.ins C dx fs)))
  | .inr X => ∀ B' fs, Ex B B' → Dj B' M → E (.ref X) none (jn B' (upd M p (.ins C dx fs)))
theorem spN_len {C : Addr} {S : Ini} {vs H Q E} (h : spN C S vs H Q E) : vs.length = S.n + 1 := by
  obtain ⟨x, B, M, p, dx, us, rfl, _, _, _, a, _⟩ := h
  rw [List.length_cons, a.len, S.len]
section
variable {K : PySem.W.Frag} {G G1 : Gm} {te ta tb tc tl tv : TE} {tt tu : TT} {tas : TA} {ts : TS} {P Pa Pb Pc : Ty} {R : Ow} {d e : PyData} {ds es : List PyData} {b c : Bool} {i j : Int} {E : L2.St → XK} {C D : Addr} {F : Fl} {fs : List (Str × Ty)} {f m : Str} {n : Nat}
theorem mk_heap {B M : Hp} {x dx C : Addr} (dj : Dj B M) (hx : jn B M x = none) (hd : jn B M dx = none) (ne : dx ≠ x) :
    upd (upd (jn B M) dx (.own x)) x (.ins C dx []) = jn (upd B dx (.own x)) (upd M x (.ins C dx [])) ∧ Dj (upd B dx (.own x)) (upd M x (.ins C dx [])) ∧ Ex B (upd B dx (.own x)) := by
  refine ⟨?_, ?_, ex_new hd⟩
  · rw [upd_new hd, upd_own]
  · refine dj_own (dj_new dj hd) ?_
    rw [upd_ne (Ne.symm ne)]
    exact (jn_free hx).1
theorem ArOk.more {a : Ar} {v : V} {B M : Hp} {p : Addr} {o : HO} (hp : M p = none) (h : ArOk a v B M) : ArOk a v B (upd M p o) := by
  cases a with
  | im P => exact h
  | ow R => obtain ⟨l, o', h1, h2, h3⟩ := h; exact ⟨l, o', h1, by rw [upd_ne (ne_of_none h2 hp)]; exact h2, h3⟩
theorem ArsOk.more {as : List Ar} {vs : List V} {B M : Hp} {p : Addr} {o : HO} (hp : M p = none) (h : ArsOk as vs B M) : ArsOk as vs B (upd M p o) := by
  induction h with
  | nil => exact .nil
  | cons a _ ih => exact .cons (a.more hp) (ih hp)
theorem del_upd {M : Hp} {p : Addr} {o : HO} (h : M p = none) : del (upd M p o) p = M := by
  funext a
  by_cases e : a = p
  · rw [e, h]; exact if_pos rfl
  · rw [del_ne e, upd_ne e]
theorem jn_push {B M : Hp} {x : Addr} {o : HO} (hM : M x = none) : jn B (upd M x o) = jn (upd B x o) M := by
  funext a
  by_cases e : a = x
  · subst e
    rw [jn_M upd_same, jn_N hM, upd_same]
  · unfold jn
    rw [upd_ne e, upd_ne e]
theorem dj_push {B M : Hp} {x : Addr} {o o' : HO} (dj : Dj B (upd M x o)) (hM : M x = none) : Dj (upd B x o') M := fun a u q => by
  by_cases e : a = x
  · rw [e]; exact hM
  · rw [upd_ne e] at q
    have := dj a u q
    rw [upd_ne e] at this
    exact this
theorem sv_mk {S : Ini} {as : List Ar} (ha : Sa tas G as) (x : S.α) (hx : S.ars x = as) (hr : S.res x = .inl F) : Sv (tMk C (spN C S) E tas) G (isI C F) := fun M0 σ B M H Q q => ha M0 σ B M H _ fun vs B1 e1 d1 p1 => fun p dx hp hd ne => by
  obtain ⟨h1, h2, h3⟩ := mk_heap (C := C) d1 hp hd ne
  rw [h1]
  refine ⟨x, _, _, p, dx, vs, rfl, rfl, h2, upd_same, by rw [hx, del_upd (jn_free hp).2]; exact p1.ext h3, ?_⟩
  rw [hr]
  intro B' fs e d r
  refine ⟨rfl, ?_⟩
  have hM := (jn_free hp).2
  have hB' : B' p = none := dj_free d upd_same
  rw [upd_upd, jn_push hM]
  have ex : Ex B' (upd B' p (.ins C dx fs)) := Ex.new hB'
  exact q _ _ (((e1.trans h3).trans e).trans ex) (dj_push d hM) ⟨p, dx, fs, rfl, upd_same, F.mono ex r⟩
theorem sb_mk {S : Ini} {as : List Ar} (ha : Sa tas G as) (x : S.α) (hx : S.ars x = as) (hr : S.res x = .inr D) : Sb (tMk C (spN C S) E tas) G E D := fun M0 σ B M H Q q => ha M0 σ B M H _ fun vs B1 e1 d1 p1 => fun p dx hp hd ne => by
  obtain ⟨h1, h2, h3⟩ := mk_heap (C := C) d1 hp hd ne
  rw [h1]
  refine ⟨x, _, _, p, dx, vs, rfl, rfl, h2, upd_same, by rw [hx, del_upd (jn_free hp).2]; exact p1.ext h3, ?_⟩
  rw [hr]
  intro B' fs e d
  have hM := (jn_free hp).2
  have hB' : B' p = none := dj_free d upd_same
  rw [upd_upd, jn_push hM]
  exact q _ (((e1.trans h3).trans e).trans (Ex.new hB')) (dj_push d hM)

/-! raising within -/
theorem ss_retBad (h : Sb te G E C) : Ss E (tRet te) G (.bad C G) := fun M0 D σ B M H q => h M0 σ B M H _ fun B' e d => q σ B' M e (H.ext e d)
theorem ss_dropBad (h : Sb te G E C) : Ss E (tDrop te) G (.bad C G) := fun M0 D σ B M H q => h M0 σ B M H _ fun B' e d => q σ B' M e (H.ext e d)
theorem ss_setBad (h : Sb te G E C) : Ss E (tAsg te (gName n)) G (.bad C G) := fun M0 D σ B M H q => h M0 σ B M H _ fun B' e d => q σ B' M e (H.ext e d)
theorem ss_ifBad {tu' : TS} (h : Stb tt G E C) : Ss E (tIfS tt ts tu') G (.bad C G) := fun M0 D σ B M H q => h M0 σ B M H _ fun B' e d => q σ B' M e (H.ext e d)
theorem stb_test (h : Sb te G E C) : Stb (tTest te) G E C := fun M0 σ B M H Q q => h M0 σ B M H _ q
theorem sb_op1 {r : R2} (h : Sb ta G E C) : Sb (tOp r ta tb) G E C := fun M0 σ B M H Q q => h M0 σ B M H _ q
/-- raise C(..) -/
theorem ss_raise {W : L2.St → XK} (hW : ∀ σ cls d H, W σ cls d H → E σ cls d H → True) : Ss E (fun _ σ H => (fun (_ : L2.St) (H : Hp) (Q : XK) => Q (.ref C) none H) σ H fun cls d H' => E σ cls d H') G (.bad C G) := fun M0 D σ B M H q => q σ B M (Ex.refl B) H
end
end Mini

namespace Mini
open PySem L2 Evl

/-! ### loops -/
def Turn (E : L2.St → XK) (tu : TS) (Ga Gb : Gm) : Prop := Ss E tu Ga (.nx Gb) ∨ Ss E tu Ga (.ct Gb)
/-- how a turn that ends the loop leaves it -/
inductive Lv : Out → Out → Prop where
  | rt {P} : Lv (.rt P) (.rt P)
  | rl {ds} : Lv (.rl ds) (.rl ds)
  | bk {G} : Lv (.bk G) (.nx G)
  | bad {C G} : Lv (.bad C G) (.bad C G)
def Pvl (M0 B : Hp) (Gi : Nat → Gm) (N : Nat) (i : Nat) (σ : L2.St) (H : Hp) : Prop := i ≤ N ∧ ∃ B' M', H = jn B' M' ∧ Ex B B' ∧ Holds M0 (Gi i) σ B' M'
theorem turn_ok {E : L2.St → XK} {tu : TS} {G : Gm} {Gi : Nat → Gm} {N i : Nat} {o : Out} {D : Ends} {M0 B B1 M1 : Hp} {σ : L2.St} (hi : i ≤ N) (H : Holds M0 G σ B1 M1) (e : Ex B B1) (hs : i < N → Turn E tu G (Gi (i + 1)))
    (hd : i = N → ∃ o', Ss E tu G o' ∧ Lv o' o) (q : o.ok E D M0 B) : tu { D with nx := Pvl M0 B Gi N (i + 1), ct := Pvl M0 B Gi N (i + 1), bk := D.nx } σ (jn B1 M1) := by
  by_cases hN : i < N
  · have k : ∀ σ' B' M', Ex B1 B' → Holds M0 (Gi (i + 1)) σ' B' M' → Pvl M0 B Gi N (i + 1) σ' (jn B' M') := fun σ' B' M' e' H' => ⟨hN, B', M', rfl, e.trans e', H'⟩
    rcases hs hN with h | h
    · exact h M0 _ σ B1 M1 H k
    · exact h M0 _ σ B1 M1 H k
  · obtain ⟨o', h, l⟩ := hd (by omega)
    refine h M0 _ σ B1 M1 H ?_
    cases l with
    | rt => exact fun v B' M' e' => q v B' M' (e.trans e')
    | rl => exact fun p vs B' M' e' => q p vs B' M' (e.trans e')
    | bk => exact fun σ' B' M' e' H' => q σ' B' M' (e.trans e') H'
    | bad => exact fun σ' B' M' e' H' => q σ' B' M' (e.trans e') H'
section
variable {K : PySem.W.Frag} {E : L2.St → XK} {tu ts : TS} {te tl ta : TE} {tt : TT} {G : Gm} {o : Out} {ds es : List PyData} {n lo hi : Int} {j : Nat}
/-- how the loop ends: behind all turns, or in the turn N -/
def EndsAs (E : L2.St → XK) (tu : TS) (Gi Gt : Nat → Gm) (N all : Nat) (o : Out) : Prop := (N = all ∧ o = .nx (Gi N)) ∨ (N < all ∧ ∃ o', Ss E tu (Gt N) o' ∧ Lv o' o)
theorem ss_forR (h : Sv te G (isD (.int n))) (hn : n ≤ 2 ^ 60) (Gi : Nat → Gm) (N : Nat) (hN : N ≤ n.toNat) (h0 : Le G (Gi 0)) (hj : ∀ i, i ≤ N → j < (Gi i).length)
    (hs : ∀ i : Nat, i < N → Turn E tu ((Gi i).set j (.im (isD (.int (i : Int))))) (Gi (i + 1))) (hd : EndsAs E tu Gi (fun i => (Gi i).set j (.im (isD (.int (i : Int))))) N n.toNat o) (hlo : -(2 ^ 60) ≤ n := by first | omega | decide) :
    Ss E (tFor (iRng1 (tCons te tNil)) (gName j) tu) G o := fun M0 D σ B M H q =>
  h M0 σ B M H _ fun v B1 e1 d1 p1 => ⟨n, by rw [dp_int p1], by omega, by omega, by
    refine for_range (lo := 0) (n := n.toNat) (Pvl M0 B Gi N) ⟨Nat.zero_le _, B1, M, rfl, e1, (H.ext e1 d1).le h0⟩ (fun i σ' H' hi p => ?_) (fun σ' H' p => ?_)
    · obtain ⟨hiN, B', M', rfl, e, H'⟩ := p
      have e0 : (0 : Int) + (i : Int) = (i : Int) := Int.zero_add _
      show tu _ (σ'.set j (some (.int ((0 : Int) + (i : Int))))) _
      rw [e0]
      refine turn_ok (o := o) hiN (H'.setIm (hj i hiN) (P := isD (.int _)) (Dq.int _)) e (fun l => hs i l) (fun l => ?_) q
      rcases hd with ⟨a, _⟩ | ⟨_, b⟩
      · omega
      · rw [l]; exact b
    · obtain ⟨hiN, B', M', rfl, e, H'⟩ := p
      rcases hd with ⟨a, b⟩ | ⟨a, _⟩
      · rw [b] at q
        rw [← a] at H'
        exact q σ' B' M' e H'
      · omega⟩
theorem ss_forR2 (h : Sv ta G (isD (.int lo))) (h2 : Sv te G (isD (.int hi))) (hb : -(2 ^ 60) ≤ lo ∧ lo ≤ 2 ^ 60 ∧ -(2 ^ 60) ≤ hi ∧ hi ≤ 2 ^ 60) (Gi : Nat → Gm) (N : Nat) (hN : N ≤ (hi - lo).toNat) (h0 : Le G (Gi 0)) (hj : ∀ i, i ≤ N → j < (Gi i).length)
    (hs : ∀ i : Nat, i < N → Turn E tu ((Gi i).set j (.im (isD (.int (lo + (i : Int)))))) (Gi (i + 1))) (hd : EndsAs E tu Gi (fun i => (Gi i).set j (.im (isD (.int (lo + (i : Int)))))) N (hi - lo).toNat o) :
    Ss E (tFor (iRng2 (tCons ta (tCons te tNil))) (gName j) tu) G o := fun M0 D σ B M H q =>
  h M0 σ B M H _ fun v B0 e0 d0 p0 => h2 M0 σ B0 M (H.ext e0 d0) _ fun v2 B1 e1' d1 p1 => ⟨lo, hi, by rw [dp_int p0, dp_int p1], ⟨by omega, by omega, by omega, by omega⟩, by
    have e1 := e0.trans e1'
    refine for_range (lo := lo) (n := (hi - lo).toNat) (Pvl M0 B Gi N) ⟨Nat.zero_le _, B1, M, rfl, e1, (H.ext e1 d1).le h0⟩ (fun i σ' H' hi p => ?_) (fun σ' H' p => ?_)
    · obtain ⟨hiN, B', M', rfl, e, H'⟩ := p
      refine turn_ok (o := o) hiN (H'.setIm (hj i hiN) (P := isD (.int _)) (Dq.int _)) e (fun l => hs i l) (fun l => ?_) q
      rcases hd with ⟨a, _⟩ | ⟨_, b⟩
      · omega
      · rw [l]; exact b
    · obtain ⟨hiN, B', M', rfl, e, H'⟩ := p
      rcases hd with ⟨a, b⟩ | ⟨a, _⟩
      · rw [b] at q
        rw [← a] at H'
        exact q σ' B' M' e H'
      · omega⟩
/-- over a list that stays -/
theorem ss_forL (h : Sv tl G (isD (.list ds))) (Gi : Nat → Gm) (N : Nat) (hN : N ≤ ds.length) (h0 : Le G (Gi 0)) (hj : ∀ i, i ≤ N → j < (Gi i).length)
    (hs : ∀ i d, ds[i]? = some d → i < N → Turn E tu ((Gi i).set j (.im (isD d))) (Gi (i + 1))) (hd : EndsAs E tu Gi (fun i => (Gi i).set j (.im (isD (ds.getD i .none)))) N ds.length o) :
    Ss E (tFor (iList K tl) (gName j) tu) G o := fun M0 D σ B M H q =>
  h M0 σ B M H _ fun v B1 e1 d1 p1 => by
    obtain ⟨a, vs, rfl, ha, hv⟩ := dq_lst p1
    have hlen := DqAll_len hv
    refine ⟨a, rfl, ⟨vs, sq_of (jn_B d1 ha)⟩, ?_⟩
    have wide : ∀ i σ' H', Pvl M0 B1 Gi N i σ' H' → SqL K H' a vs := fun i σ' H' p => by
      obtain ⟨_, B', M', rfl, e, H'⟩ := p
      exact sq_of (jn_B H'.dj (e _ _ ha))
    refine for_list (xs := vs) (Pvl M0 B1 Gi N) ⟨Nat.zero_le _, B1, M, rfl, Ex.refl B1, (H.ext e1 d1).le h0⟩ (fun i σ' H' _ p => wide i σ' H' p) (fun i x σ' H' hx p => ?_) (fun σ' H' p => ?_)
    · obtain ⟨hiN, B', M', rfl, e, H'⟩ := p
      obtain ⟨d, hd1, px⟩ := DqAll_getV hv hx
      refine turn_ok (o := o) hiN (H'.setIm (hj i hiN) (P := isD d) (Dq_ex e d x px)) e (fun l => hs i d hd1 l) (fun l => ?_) (q.ext e1)
      rcases hd with ⟨b, _⟩ | ⟨_, b⟩
      · have := (List.getElem?_eq_some_iff.mp hx).1; omega
      · have z : ds.getD N .none = d := by rw [← l, List.getD_eq_getElem?_getD, hd1]; rfl
        dsimp only at b
        rw [z, ← l] at b
        exact b
    · obtain ⟨hiN, B', M', rfl, e, H'⟩ := p
      rcases hd with ⟨b, c⟩ | ⟨b, _⟩
      · rw [c] at q
        rw [hlen, ← b] at H'
        exact q σ' B' M' (e1.trans e) H'
      · omega
/-- over a tuple -/
theorem ss_forT (h : Sv tl G (isD (.tuple ds))) (Gi : Nat → Gm) (N : Nat) (hN : N ≤ ds.length) (h0 : Le G (Gi 0)) (hj : ∀ i, i ≤ N → j < (Gi i).length)
    (hs : ∀ i d, ds[i]? = some d → i < N → Turn E tu ((Gi i).set j (.im (isD d))) (Gi (i + 1))) (hd : EndsAs E tu Gi (fun i => (Gi i).set j (.im (isD (ds.getD i .none)))) N ds.length o) :
    Ss E (tFor (iTup K tl) (gName j) tu) G o := fun M0 D σ B M H q =>
  h M0 σ B M H _ fun v B1 e1 d1 p1 => by
    obtain ⟨a, vs, rfl, ha, hv⟩ := dq_tup p1
    have hlen := DqAll_len hv
    refine ⟨a, rfl, ⟨vs, st_of (jn_B d1 ha)⟩, ?_⟩
    have wide : ∀ i σ' H', Pvl M0 B1 Gi N i σ' H' → SqT K H' a vs := fun i σ' H' p => by
      obtain ⟨_, B', M', rfl, e, H'⟩ := p
      exact st_of (jn_B H'.dj (e _ _ ha))
    refine for_tup (xs := vs) (Pvl M0 B1 Gi N) ⟨Nat.zero_le _, B1, M, rfl, Ex.refl B1, (H.ext e1 d1).le h0⟩ (fun i σ' H' _ p => wide i σ' H' p) (fun i x σ' H' hx p => ?_) (fun σ' H' p => ?_)
    · obtain ⟨hiN, B', M', rfl, e, H'⟩ := p
      obtain ⟨d, hd1, px⟩ := DqAll_getV hv hx
      refine turn_ok (o := o) hiN (H'.setIm (hj i hiN) (P := isD d) (Dq_ex e d x px)) e (fun l => hs i d hd1 l) (fun l => ?_) (q.ext e1)
      rcases hd with ⟨b, _⟩ | ⟨_, b⟩
      · have := (List.getElem?_eq_some_iff.mp hx).1; omega
      · have z : ds.getD N .none = d := by rw [← l, List.getD_eq_getElem?_getD, hd1]; rfl
        dsimp only at b
        rw [z, ← l] at b
        exact b
    · obtain ⟨hiN, B', M', rfl, e, H'⟩ := p
      rcases hd with ⟨b, c⟩ | ⟨b, _⟩
      · rw [c] at q
        rw [hlen, ← b] at H'
        exact q σ' B' M' (e1.trans e) H'
      · omega
/-- while: N turns -/
theorem ss_while (Gi : Nat → Gm) (N : Nat) (h0 : Le G (Gi 0)) (ht : ∀ i, i < N → St' tt (Gi i) true) (hs : ∀ i, i < N → Turn E tu (Gi i) (Gi (i + 1)))
    (hd : (St' tt (Gi N) false ∧ o = .nx (Gi N)) ∨ (St' tt (Gi N) true ∧ ∃ o', Ss E tu (Gi N) o' ∧ Lv o' o)) : Ss E (tWhile tt tu) G o := fun M0 D σ B M H q => by
  refine ⟨fun m σ' H' => ∃ i, i + m = N ∧ Pvl M0 B Gi N i σ' H', ⟨N, 0, Nat.zero_add _, Nat.zero_le _, B, M, rfl, Ex.refl B, H.le h0⟩, fun m σ' H' w => ?_⟩
  obtain ⟨i, him, hiN, B1, M1, rfl, e, H1⟩ := w
  by_cases hN : i < N
  · refine ht i hN M0 σ' B1 M1 H1 _ fun B2 e2 d2 => ?_
    refine ⟨fun σ2 H2 => Pvl M0 B Gi N (i + 1) σ2 H2, fun σ2 H2 p => ⟨m - 1, by omega, i + 1, by omega, p⟩, ?_⟩
    exact turn_ok (o := o) hiN (H1.ext e2 d2) (e.trans e2) (fun l => hs i l) (fun l => by omega) q
  · have hiE : i = N := by omega
    subst hiE
    rcases hd with ⟨a, b⟩ | ⟨a, b⟩
    · refine a M0 σ' B1 M1 H1 _ fun B2 e2 d2 => ?_
      rw [b] at q
      exact q σ' B2 M1 (e.trans e2) (H1.ext e2 d2)
    · refine a M0 σ' B1 M1 H1 _ fun B2 e2 d2 => ?_
      refine ⟨fun σ2 H2 => Pvl M0 B Gi i (i + 1) σ2 H2, fun σ2 H2 p => by have := p.1; omega, ?_⟩
      exact turn_ok (o := o) hiN (H1.ext e2 d2) (e.trans e2) (fun l => by omega) (fun l => b) q

/-! ### comprehensions: es i is what i turns have given -/
def Pvc (B M : Hp) (Dl : Addr) (es : Nat → List PyData) (i : Nat) (H : Hp) : Prop := ∃ B' acc, H = jn B' (upd M Dl (.lst acc)) ∧ Ex B B' ∧ Dj B' (upd M Dl (.lst acc)) ∧ DqAll B' acc (es i)
def Gv (G : Gm) (j : Nat) (d : PyData) : Gm := (wipeG G [j]).set j (.im (isD d))
theorem wipe_one (σ : L2.St) (j : Nat) (x : V) : L2.wipe ((L2.wipe σ [j]).set j (some x)) [j] = L2.wipe σ [j] := by
  show (((σ.set j none).set j (some x)).set j none) = σ.set j none
  rw [List.set_set, List.set_set]
theorem lc_turn {M0 B M : Hp} {σ : L2.St} {Dl : Addr} {es : Nat → List PyData} {i : Nat} {d y : PyData} {x : V} {b : Bool} {B' : Hp} {acc : List V} (H : Holds M0 G σ B M) (hj : j < G.length) (hM : M Dl = none) (e : Ex B B') (dj : Dj B' (upd M Dl (.lst acc))) (ha : DqAll B' acc (es i)) (hz : (es i).length < sizeLine)
    (hx : Dq B' x d) (ht : St' tt (Gv G j d) b) (he : b = true → Sv te (Gv G j d) (isD y)) (hs : es (i + 1) = if b then es i ++ [y] else es i) :
    (gName j) x (L2.wipe σ [j]) (jn B' (upd M Dl (.lst acc))) fun σ2 H2 => L2.wipe σ2 [j] = L2.wipe σ [j] ∧ tt σ2 H2 fun b H3 =>
      if b = true then te σ2 H3 fun y H4 => ∃ acc, H4 Dl = some (.lst acc) ∧ acc.length < sizeLine ∧ Pvc B M Dl es (i + 1) (upd H4 Dl (.lst (acc ++ [y]))) else Pvc B M Dl es (i + 1) H3 := by
  refine ⟨wipe_one σ j x, ?_⟩
  have hB' : B' Dl = none := dj_free dj upd_same
  have djM : Dj B' M := fun a u q => by
    have := dj a u q
    by_cases z : a = Dl
    · rw [z]; exact hM
    · rw [upd_ne z] at this; exact this
  have H2 : Holds M0 (Gv G j d) ((L2.wipe σ [j]).set j (some x)) B' (upd M Dl (.lst acc)) := by
    have h1 := ((H.ext e djM).wipes [j]).more (p := Dl) (o := .lst acc) (show jn B' M Dl = none by rw [jn_N hM]; exact hB')
    exact h1.setIm (by show j < (G.set j .no).length; rw [List.length_set]; exact hj) hx
  refine ht M0 _ _ _ H2 _ fun B3 e3 d3 => ?_
  cases b with
  | true =>
    rw [if_pos rfl]
    refine he rfl M0 _ _ _ (H2.ext e3 d3) _ fun v B4 e4 d4 p4 => ?_
    refine ⟨acc, jn_M upd_same, by rw [DqAll_len ha]; exact hz, ?_⟩
    rw [upd_own, upd_upd]
    refine ⟨B4, acc ++ [v], rfl, (e.trans e3).trans e4, ?_, ?_⟩
    · intro a u q
      have := d4 a u q
      by_cases z : a = Dl
      · rw [z, upd_same] at this; cases this
      · rw [upd_ne z] at this ⊢; exact this
    · rw [hs, if_pos rfl]
      exact DqAll_append (DqAll_ex (e3.trans e4) ha) (.cons p4 .nil)
  | false =>
    rw [if_neg Bool.false_ne_true]
    refine ⟨B3, acc, rfl, e.trans e3, d3, ?_⟩
    rw [hs, if_neg Bool.false_ne_true]
    exact DqAll_ex e3 ha
theorem lc_end {B M : Hp} {Dl : Addr} {es : Nat → List PyData} {i : Nat} {Q : VK} (hM : M Dl = none) (hB : Ex B B) (q : ∀ p vs B', Ex B B' → Dj B' M → jn B' M p = none → DqAll B' vs (es i) → Q (.ref p) (upd (jn B' M) p (.lst vs))) (H : Hp) (p : Pvc B M Dl es i H) : Q (.ref Dl) H := by
  obtain ⟨B', acc, rfl, e, dj, ha⟩ := p
  have hB' : B' Dl = none := dj_free dj upd_same
  have djM : Dj B' M := fun a u q => by
    have := dj a u q
    by_cases z : a = Dl
    · rw [z]; exact hM
    · rw [upd_ne z] at this; exact this
  have := q Dl acc B' e djM (by rw [jn_N hM]; exact hB') ha
  rw [upd_own] at this
  exact this
theorem svl_lcL (h : Rl tl G ds) (es : Nat → List PyData) (f : Nat → Bool) (y : Nat → PyData) (hj : j < G.length) (h0 : es 0 = []) (hz : ds.length < 10000000)
    (ht : ∀ i d, ds[i]? = some d → St' tt (Gv G j d) (f i)) (he : ∀ i d, ds[i]? = some d → f i = true → Sv te (Gv G j d) (isD (y i))) (hs : ∀ i, i < ds.length → es (i + 1) = if f i then es i ++ [y i] else es i) :
    Svl (tLc (iList K tl) (gName j) tt te [j]) G (es ds.length) := fun M0 σ B M H Q q => h M0 σ B M H _ fun a vs B1 e1 d1 hh q1 => by
  have hlen := DqAll_len q1
  refine ⟨a, rfl, ⟨vs, sq_of hh⟩, fun Dl hD => ?_⟩
  have hM := (jn_free hD).2
  have hl : ∀ i, i ≤ ds.length → (es i).length ≤ i := fun i => by
    induction i with
    | zero => intro _; rw [h0]; exact Nat.le_refl _
    | succ i ih => intro hi; rw [hs i (by omega)]; have := ih (by omega); split <;> simp <;> omega
  refine lc_list (xs := vs) (Pvc B1 M Dl es) ⟨B1, [], by rw [upd_own], Ex.refl B1, dj_own d1 (jn_free hD).1, by rw [h0]; exact .nil⟩ (fun i H' _ p => ?_) (fun i x H' hx p => ?_) (fun H' p => ?_)
  · obtain ⟨B', acc, rfl, e, dj, _⟩ := p
    refine sq_of ?_
    have hne : a ≠ Dl := fun z => by rw [z, hD] at hh; cases hh
    unfold jn at hh ⊢
    rw [upd_ne hne]
    cases z : M a with
    | some u => rw [z] at hh; exact hh
    | none => rw [z] at hh; exact e _ _ hh
  · obtain ⟨B', acc, rfl, e, dj, ha⟩ := p
    obtain ⟨d, hd, px⟩ := DqAll_getV q1 hx
    have hi := (List.getElem?_eq_some_iff.mp hd).1
    exact lc_turn (H.ext e1 d1) hj hM e dj ha (by have := hl i (by omega); rw [sizeLine_eq]; omega) (Dq_ex e d x px) (ht i d hd) (he i d hd) (hs i hi)
  · rw [hlen] at p
    exact lc_end hM (Ex.refl _) (fun p vs B' e dj hf hv => q p vs B' (e1.trans e) dj hf hv) H' p
theorem svl_lcT (h : Sv tl G (isD (.tuple ds))) (es : Nat → List PyData) (f : Nat → Bool) (y : Nat → PyData) (hj : j < G.length) (h0 : es 0 = []) (hz : ds.length < 10000000)
    (ht : ∀ i d, ds[i]? = some d → St' tt (Gv G j d) (f i)) (he : ∀ i d, ds[i]? = some d → f i = true → Sv te (Gv G j d) (isD (y i))) (hs : ∀ i, i < ds.length → es (i + 1) = if f i then es i ++ [y i] else es i) :
    Svl (tLc (iTup K tl) (gName j) tt te [j]) G (es ds.length) := fun M0 σ B M H Q q => h M0 σ B M H _ fun v B1 e1 d1 p1 => by
  obtain ⟨a, vs, rfl, hh, q1⟩ := dq_tup p1
  have hlen := DqAll_len q1
  refine ⟨a, rfl, ⟨vs, st_of (jn_B d1 hh)⟩, fun Dl hD => ?_⟩
  have hM := (jn_free hD).2
  have hl : ∀ i, i ≤ ds.length → (es i).length ≤ i := fun i => by
    induction i with
    | zero => intro _; rw [h0]; exact Nat.le_refl _
    | succ i ih => intro hi; rw [hs i (by omega)]; have := ih (by omega); split <;> simp <;> omega
  refine lc_tup (xs := vs) (Pvc B1 M Dl es) ⟨B1, [], by rw [upd_own], Ex.refl B1, dj_own d1 (jn_free hD).1, by rw [h0]; exact .nil⟩ (fun i H' _ p => ?_) (fun i x H' hx p => ?_) (fun H' p => ?_)
  · obtain ⟨B', acc, rfl, e, dj, _⟩ := p
    exact st_of (jn_B dj (e _ _ hh))
  · obtain ⟨B', acc, rfl, e, dj, ha⟩ := p
    obtain ⟨d, hd, px⟩ := DqAll_getV q1 hx
    have hi := (List.getElem?_eq_some_iff.mp hd).1
    exact lc_turn (H.ext e1 d1) hj hM e dj ha (by have := hl i (by omega); rw [sizeLine_eq]; omega) (Dq_ex e d x px) (ht i d hd) (he i d hd) (hs i hi)
  · rw [hlen] at p
    exact lc_end hM (Ex.refl _) (fun p vs B' e dj hf hv => q p vs B' (e1.trans e) dj hf hv) H' p
theorem svl_lcR (h : Sv te G (isD (.int n))) {tel : TE} (es : Nat → List PyData) (f : Nat → Bool) (y : Nat → PyData) (hj : j < G.length) (h0 : es 0 = []) (hz : n < 10000000) (hlo : -(2 ^ 60) ≤ n)
    (ht : ∀ i : Nat, i < n.toNat → St' tt (Gv G j (.int (i : Int))) (f i)) (he : ∀ i : Nat, i < n.toNat → f i = true → Sv tel (Gv G j (.int (i : Int))) (isD (y i))) (hs : ∀ i, i < n.toNat → es (i + 1) = if f i then es i ++ [y i] else es i) :
    Svl (tLc (iRng1 (tCons te tNil)) (gName j) tt tel [j]) G (es n.toNat) := fun M0 σ B M H Q q => h M0 σ B M H _ fun v B1 e1 d1 p1 => by
  refine ⟨n, by rw [dp_int p1], by omega, by omega, fun Dl hD => ?_⟩
  have hM := (jn_free hD).2
  have hl : ∀ i, i ≤ n.toNat → (es i).length ≤ i := fun i => by
    induction i with
    | zero => intro _; rw [h0]; exact Nat.le_refl _
    | succ i ih => intro hi; rw [hs i (by omega)]; have := ih (by omega); split <;> simp <;> omega
  refine lc_range (lo := 0) (n := n.toNat) (Pvc B1 M Dl es) ⟨B1, [], by rw [upd_own], Ex.refl B1, dj_own d1 (jn_free hD).1, by rw [h0]; exact .nil⟩ (fun i H' hi p => ?_) (fun H' p => ?_)
  · obtain ⟨B', acc, rfl, e, dj, ha⟩ := p
    have e0 : (0 : Int) + (i : Int) = (i : Int) := Int.zero_add _
    rw [e0]
    exact lc_turn (H.ext e1 d1) hj hM e dj ha (by have := hl i (by omega); rw [sizeLine_eq]; omega) (.int _) (ht i hi) (he i hi) (hs i hi)
  · exact lc_end hM (Ex.refl _) (fun p vs B' e dj hf hv => q p vs B' (e1.trans e) dj hf hv) H' p
theorem st_yes : St' tYes G true := fun M0 σ B M H Q q => q B (Ex.refl B) H.dj
/-- no test: a map -/
theorem svl_lcMap (h : Rl tl G ds) (g : PyData → PyData) (hj : j < G.length) (hz : ds.length < 10000000) (he : ∀ d, d ∈ ds → Sv te (Gv G j d) (isD (g d))) : Svl (tLc (iList K tl) (gName j) tYes te [j]) G (ds.map g) := by
  have z := svl_lcL (K := K) (j := j) (te := te) (tt := tYes) h (fun i => (ds.take i).map g) (fun _ => true) (fun i => g (ds.getD i .none)) hj rfl hz (fun _ _ _ => st_yes) (fun i d hd _ => ?_) (fun i hi => ?_)
  · rw [List.take_length] at z; exact z
  · have e : ds.getD i .none = d := by rw [List.getD_eq_getElem?_getD, hd]; rfl
    rw [e]; exact he d (List.mem_of_getElem? hd)
  · have e : ds.getD i .none = ds[i] := by rw [List.getD_eq_getElem?_getD, List.getElem?_eq_getElem hi]; rfl
    simp only [if_true]
    rw [e, List.take_succ, List.getElem?_eq_getElem hi, List.map_append]; rfl
theorem svl_lcMapT (h : Sv tl G (isD (.tuple ds))) (g : PyData → PyData) (hj : j < G.length) (hz : ds.length < 10000000) (he : ∀ d, d ∈ ds → Sv te (Gv G j d) (isD (g d))) : Svl (tLc (iTup K tl) (gName j) tYes te [j]) G (ds.map g) := by
  have z := svl_lcT (K := K) (j := j) (te := te) (tt := tYes) h (fun i => (ds.take i).map g) (fun _ => true) (fun i => g (ds.getD i .none)) hj rfl hz (fun _ _ _ => st_yes) (fun i d hd _ => ?_) (fun i hi => ?_)
  · rw [List.take_length] at z; exact z
  · have e : ds.getD i .none = d := by rw [List.getD_eq_getElem?_getD, hd]; rfl
    rw [e]; exact he d (List.mem_of_getElem? hd)
  · have e : ds.getD i .none = ds[i] := by rw [List.getD_eq_getElem?_getD, List.getElem?_eq_getElem hi]; rfl
    simp only [if_true]
    rw [e, List.take_succ, List.getElem?_eq_getElem hi, List.map_append]; rfl
theorem svl_lcMapR (h : Sv te G (isD (.int n))) {tel : TE} (g : Nat → PyData) (hj : j < G.length) (hz : n < 10000000) (hlo : -(2 ^ 60) ≤ n) (he : ∀ i : Nat, i < n.toNat → Sv tel (Gv G j (.int (i : Int))) (isD (g i))) :
    Svl (tLc (iRng1 (tCons te tNil)) (gName j) tYes tel [j]) G ((List.range n.toNat).map g) :=
  svl_lcR (j := j) (te := te) (tt := tYes) h (fun i => (List.range i).map g) (fun _ => true) g hj rfl hz hlo (fun _ _ => st_yes) (fun i hi _ => he i hi) (fun i _ => by simp only [if_true]; rw [List.range_succ, List.map_append]; rfl)
end
end Mini

namespace Mini
open PySem L2 Evl PyProof.Rows
abbrev startV (N : List Str) (vs : List V) : L2.St := L2.start N vs

/-! ### two stores at once -/
section
variable {K : PySem.W.Frag} {E : L2.St → XK} {ta tb : TE} {G : Gm} {P P' : Ty} {ds es : List PyData} {i j : Nat}
theorem ss_par (ha : Sv ta G P) (hb : Sv tb G P') (hi : i < G.length := by exact Nat.le_of_ble_eq_true rfl) (hj : j < G.length := by exact Nat.le_of_ble_eq_true rfl) : Ss E (tPar i j (tCons ta (tCons tb tNil))) G (.nx ((G.set i (.im P)).set j (.im P'))) := fun M0 D σ B M H q =>
  ha M0 σ B M H _ fun x B1 e1 d1 p1 => hb M0 σ B1 M (H.ext e1 d1) _ fun y B2 e2 d2 p2 =>
    ⟨x, y, rfl, q _ B2 M (e1.trans e2) ((((H.ext e1 d1).ext e2 d2).setIm hi (P.mono e2 p1)).setIm (by rw [List.length_set]; exact hj) p2)⟩
theorem ss_parLL (ha : Svl ta G ds) (hb : Svl tb G es) (hi : i < G.length := by exact Nat.le_of_ble_eq_true rfl) (hj : j < G.length := by exact Nat.le_of_ble_eq_true rfl) : Ss E (tPar i j (tCons ta (tCons tb tNil))) G (.nx ((G.set i (.ow (isL ds))).set j (.ow (isL es)))) := fun M0 D σ B M H q =>
  ha M0 σ B M H _ fun p vs B1 e1 d1 hf ha1 => by
    rw [upd_own]
    have H1 := (H.ext e1 d1).more (p := p) (o := .lst vs) hf
    refine hb M0 σ B1 (upd M p (.lst vs)) H1 _ fun p2 us B2 e2 d2 hf2 ha2 => ?_
    rw [upd_own]
    refine ⟨.ref p, .ref p2, rfl, q _ B2 _ (e1.trans e2) ?_⟩
    have djM : Dj B2 M := fun a u q => by
      have := d2 a u q
      by_cases z : a = p
      · rw [z]; exact (jn_free hf).2
      · rw [upd_ne z] at this; exact this
    have hf' : jn B2 M p = none := by
      rw [jn_N (jn_free hf).2]; exact dj_free d2 upd_same
    have H2 : Holds M0 (G.set i (.ow (isL ds))) (σ.set i (some (.ref p))) B2 (upd M p (.lst vs)) := ((H.ext e1 d1).ext e2 djM).setOw hi hf' ⟨vs, rfl, DqAll_ex e2 ha1⟩
    exact H2.setOw (by rw [List.length_set]; exact hj) hf2 ⟨us, rfl, ha2⟩
end

/-! ### raise, try -/
def tRs (E : L2.St → XK) (C : Addr) : TS := fun _ σ H => E σ (.ref C) none H
theorem ps_rs {X : Cx} {e : Expr} {pos : Pos} {E : XK} {C : Addr} (hc : X.calm = true) (tk : Takes X (fun cls d _ H => E cls d H)) (he : PMk X e (fun _ H Q => Q (.ref C) none H)) : PS X (.Raise (some e) none pos) (tRs (fun _ => E) C) := ps_raise hc tk he
/-- what an own error class without an __init__ must be -/
structure ErrC (K : PySem.W.Frag) (mg : Str → Option Value) (x : Str) (C : Addr) (bm : List Value) : Prop where
  g : mg x = some (.ref C)
  ex : PySem.W.excIn K C bm "ValueError.__new__" = true
  kp : PySem.W.keepIn K (.ref C) = true
  sub : PySem.W.subIn K (.ref C) (.type "BaseException") = some true
  ty : PySem.W.typeIn K (.ref C) = some (.type "type")
theorem pmk_err {X : Cx} {x m : Str} {j : Nat} {p p2 pos : Pos} {C : Addr} (T : ErrC X.K X.mg x C [.type "ValueError", .type "Exception", .type "BaseException", .type "object"]) (hg : Gl X x := by rfl) (hdb : (x == ("__debug__" : Str)) = false := by decide) :
    PMk X (.Call (.Name x p) [.Constant (.str m) j p2] [] pos) (fun _ H Q => Q (.ref C) none H) := pmk_own PySem.F.excBase_ValueError T.ex T.g T.kp (raises_own T.sub T.ty) hg hdb
def isX (a : Addr) : Ty := isV (.ref a)
section
variable {K : PySem.W.Frag} {E : L2.St → XK} {G G1 G2 : Gm} {o o' : Out} {C : Addr} {i : Nat} {tb : WX → TS} {ts : Addr → Value → Option Addr → TS} {Wout : WX} {c : Value} {te ta : TE}
theorem ss_rs : Ss E (tRs E C) G (.bad C G) := fun M0 D σ B M H q => q σ B M (Ex.refl B) H
/-- the body of a try raises nothing -/
theorem ss_tryOk (h : ∀ W, Ss (fun σ cls d H => W cls d σ H) (tb W) G o) (hb : ∀ C G', o ≠ .bad C G') : Ss E (fun D σ H => tb (wAs K c i ts Wout D) D σ H) G o := fun M0 D σ B M H q => h _ M0 D σ B M H (by
  cases o with
  | nx G => exact q
  | rt P => exact q
  | rl ds => exact q
  | bk G => exact q
  | ct G => exact q
  | bad C G' => exact absurd rfl (hb C G'))
/-- what is left of a suite's way out: the exception's slot is empty behind it -/
def Out.offs (o : Out) (i : Nat) : Out := match o with
  | .nx G => .nx (G.set i .no)
  | .bk G => .bk (G.set i .no)
  | .ct G => .ct (G.set i .no)
  | o => o
/-- it raises C, and the clause takes it -/
theorem ss_tryBad (h : ∀ W, Ss (fun σ cls d H => W cls d σ H) (tb W) G (.bad C G1)) (hc : PySem.W.exmOne K (.ref C) c = some true) (hi : i < G1.length) (hs : ∀ a, Ss (fun _ => E0) (ts a (.ref C) none) (G1.set i (.im (isX a))) o) (hb : ∀ C G', o ≠ .bad C G') :
    Ss E (fun D σ H => tb (wAs K c i ts Wout D) D σ H) G (o.offs i) := fun M0 D σ B M H q => h _ M0 D σ B M H fun σ' B' M' e H' => by
  refine ⟨true, hc, fun _ a ha => ?_, fun z => by cases z⟩
  refine hs a M0 _ (σ'.set i (some (.ref a))) B' M' (H'.setIm hi rfl) ?_
  cases o with
  | nx G => exact fun σ2 B2 M2 e2 H2 => q _ B2 M2 (e.trans e2) (H2.wipe i none)
  | rt P => exact fun v B2 M2 e2 => q v B2 M2 (e.trans e2)
  | rl ds => exact fun p vs B2 M2 e2 => q p vs B2 M2 (e.trans e2)
  | bk G => exact fun σ2 B2 M2 e2 H2 => q _ B2 M2 (e.trans e2) (H2.wipe i none)
  | ct G => exact fun σ2 B2 M2 e2 H2 => q _ B2 M2 (e.trans e2) (H2.wipe i none)
  | bad C G' => exact absurd rfl (hb C G')
end
/-- isinstance(e, c) in a suite, e the exception at a of whatever class -/
def rIsX (K : PySem.W.Frag) (a : Addr) (cls : Value) (d : Option Addr) : List V → Hp → VK → Prop := fun xs H Q => ∃ D, cls = .ref D ∧ d = none ∧ ExcC K D ∧ rIsE K D a xs H Q
theorem call_isX {X : Cx} {a : Addr} {cls : Value} {d : Option Addr} {oe : Obj} {pn : List (Addr × Obj)} (hz : Zc cls d oe) (hf : ∃ vs, oe.data = .fields vs) : CallR (X.suite a ((a, oe) :: pn)) (.builtin "isinstance") (rIsX X.K a cls d) := by
  intro pins s σ H xs us Q I r h
  obtain ⟨D, e1, e2, C, q⟩ := h
  subst e1 e2
  exact call_isE C hz hf pins s σ H xs us Q I r q
theorem sv_isX {K : PySem.W.Frag} {G : Gm} {te ta : TE} {a D C : Addr} {b : Bool} (he : Sv te G (isX a)) (hc : Sv ta G (isV (.ref C))) (X : ExcC K D) (h : PySem.W.kitOne K (.ref D) (.ref C) = some b) : Sv (tCB (rIsX K a (.ref D) none) (tCons te (tCons ta tNil))) G (isD (.bool b)) := fun M0 σ B M H Q q =>
  he M0 σ B M H _ fun x B1 e1 d1 p1 => hc M0 σ B1 M (H.ext e1 d1) _ fun y B2 e2 d2 p2 => by
    rw [show x = .ref a from p1, show y = .ref C from p2]
    exact ⟨D, rfl, rfl, X, .ref C, .ref C, b, rfl, fun u r => r, h, q _ B2 (e1.trans e2) d2 (.bl _)⟩

/-! ### a def's body keeps its promise -/
def entG : List Ar → Gm
  | [] => []
  | .im P :: as => .im P :: entG as
  | .ow R :: as => .bw R :: entG as
theorem entG_len : ∀ as, (entG as).length = as.length
  | [] => rfl
  | .im P :: as => by simp [entG, entG_len as]
  | .ow R :: as => by simp [entG, entG_len as]
def startG (n : Nat) (as : List Ar) : Gm := entG as ++ List.replicate (n - as.length) .no
theorem ent_get : ∀ {as : List Ar} {vs : List V} {B M : Hp} {i : Nat} {S : Sl}, ArsOk as vs B M → (entG as)[i]? = some S → (∃ P v, S = .im P ∧ vs[i]? = some v ∧ P.p v B) ∨ (∃ R l o, S = .bw R ∧ vs[i]? = some (.ref l) ∧ M l = some o ∧ R.r l o B)
  | [], _, _, _, i, S, h, e => by simp [entG] at e
  | .im P :: as, _, _, _, 0, S, h, e => by
    cases h with | cons a b => simp [entG] at e; subst e; exact .inl ⟨P, _, rfl, rfl, a⟩
  | .ow R :: as, _, _, _, 0, S, h, e => by
    cases h with | cons a b => simp [entG] at e; subst e; obtain ⟨l, o, h1, h2, h3⟩ := a; exact .inr ⟨R, l, o, rfl, by rw [h1]; rfl, h2, h3⟩
  | .im P :: as, _, _, _, i + 1, S, h, e => by
    cases h with | cons a b => simpa using ent_get (i := i) b (by simpa [entG] using e)
  | .ow R :: as, _, _, _, i + 1, S, h, e => by
    cases h with | cons a b => simpa using ent_get (i := i) b (by simpa [entG] using e)
theorem start_get {N : List Str} {as : List Ar} {vs : List V} {B M : Hp} (h : ArsOk as vs B M) {i : Nat} {S : Sl} (e : (startG N.length as)[i]? = some S) (hn : S ≠ .no) : i < vs.length ∧ (entG as)[i]? = some S := by
  unfold startG at e
  by_cases hi : i < (entG as).length
  · rw [List.getElem?_append_left hi] at e
    exact ⟨by rw [h.len, ← entG_len]; exact hi, e⟩
  · rw [List.getElem?_append_right (by omega), List.getElem?_replicate] at e
    split at e
    · exact absurd (Option.some.inj e).symm hn
    · cases e
theorem holds_start {N : List Str} {as : List Ar} {vs : List V} {B M : Hp} (dj : Dj B M) (h : ArsOk as vs B M) (hN : as.length ≤ N.length) : Holds M (startG N.length as) (L2.start N vs) B M where
  len := by unfold L2.start startG; simp [entG_len, h.len]
  dj := dj
  cal := fun _ _ h => h
  im := fun i P q => by
    obtain ⟨hi, e⟩ := start_get h q (by intro z; cases z)
    rcases ent_get h e with ⟨P', v, h1, h2, h3⟩ | ⟨R, l, o, h1, _⟩
    · cases h1
      exact ⟨v, by unfold L2.start; rw [List.getElem?_append_left (by simpa using hi), List.getElem?_map, h2]; rfl, h3⟩
    · cases h1
  ow := fun i R q => by
    obtain ⟨hi, e⟩ := start_get h q (by intro z; cases z)
    rcases ent_get h e with ⟨P', v, h1, _⟩ | ⟨R, l, o, h1, _⟩ <;> cases h1
  bw := fun i R q => by
    obtain ⟨hi, e⟩ := start_get h q (by intro z; cases z)
    rcases ent_get h e with ⟨P', v, h1, _⟩ | ⟨R', l, o, h1, h2, h3, h4⟩
    · cases h1
    · cases h1
      exact ⟨l, o, by unfold L2.start; rw [List.getElem?_append_left (by simpa using hi), List.getElem?_map, h2]; rfl, h3, h4⟩
  ne := fun i j R R' l q q' => by
    obtain ⟨hi, e⟩ := start_get h q (by intro z; cases z)
    rcases ent_get h e with ⟨P', v, h1, _⟩ | ⟨R, l, o, h1, _⟩ <;> cases h1
/-- all that is not the caller's is let stand -/
def rst (M0 H : Hp) : Hp := fun a => match M0 a with
  | some _ => none
  | none => H a
theorem rst_jn {M0 B M : Hp} (e : Ex M0 M) : jn (rst M0 (jn B M)) M0 = jn B M := by
  funext a
  unfold jn rst
  dsimp only
  cases h : M0 a with
  | some o => rw [e a o h]
  | none => rfl
theorem rst_dj {M0 H : Hp} : Dj (rst M0 H) M0 := fun a o h => by
  unfold rst at h
  cases q : M0 a with
  | some o => rw [q] at h; cases h
  | none => rfl
theorem rst_ex {M0 B M : Hp} (e : Ex M0 M) (d : Dj B M) : Ex B (rst M0 (jn B M)) := fun a o h => by
  unfold rst
  cases q : M0 a with
  | some u => have := d a o h; rw [e a u q] at this; cases this
  | none => exact jn_B d h
/-- how the result of a def is told -/
inductive Ans (E : L2.St → XK) (ts : TS) (G : Gm) : Rs → Prop where
  | ok {P} : Ss E ts G (.rt P) → Ans E ts G (.ok P)
  | non {G'} : Ss E ts G (.nx G') → Ans E ts G (.ok (isD .none))
  | ol {ds} : Ss E ts G (.rl ds) → Ans E ts G (.ol ds)
  | oll {ds} : Ss E ts G (.rl ds) → Ans E ts G (.ok (isD (.list ds)))
  | bad {C G'} : Ss E ts G (.bad C G') → Ans E ts G (.bad C)
theorem ans_run {E : XK} {ts : TS} {N : List Str} {as : List Ar} {vs : List V} {B M : Hp} {r : Rs} {Q : VK} (dj : Dj B M) (h : ArsOk as vs B M) (hN : as.length ≤ N.length) (w : r.wp B M Q E) (a : Ans (fun _ => E) ts (startG N.length as) r) :
    ts { nx := fun _ H' => Q .non H', rt := Q } (L2.start N vs) (jn B M) := by
  have H := holds_start dj h hN
  cases a with
  | ok s =>
    refine s M _ _ B M H fun v B' M' e d c p => ?_
    · have := w v (rst M (jn B' M')) (e.trans (rst_ex c d)) rst_dj (Ty.mono _ (rst_ex c d) p)
      rw [rst_jn c] at this
      exact this
  | non s =>
    refine s M _ _ B M H fun σ' B' M' e H' => ?_
    · have := w .non (rst M (jn B' M')) (e.trans (rst_ex H'.cal H'.dj)) rst_dj Dq.non
      rw [rst_jn H'.cal] at this
      exact this
  | ol s =>
    refine s M _ _ B M H fun p us B' M' e d c f hp hd => ?_
    ·
      -- the list stays its own: all else is let stand
      have hB : B' p = none := dj_free d hp
      have d2 : Dj B' (del M' p) := fun a u q => by
        by_cases z : a = p
        · exact if_pos z
        · rw [del_ne z]; exact d a u q
      have c2 : Ex M (del M' p) := fun a u q => by
        have z : a ≠ p := fun z => by rw [z, f] at q; cases q
        rw [del_ne z]; exact c a u q
      have hf : jn (rst M (jn B' (del M' p))) M p = none := by
        rw [rst_jn c2, jn_N (show del M' p p = none from if_pos rfl)]; exact hB
      have := w p us (rst M (jn B' (del M' p))) (e.trans (rst_ex c2 d2)) rst_dj hf (DqAll_ex (rst_ex c2 d2) hd)
      rw [rst_jn c2, upd_own] at this
      have e3 : upd (del M' p) p (.lst us) = M' := by
        funext a
        by_cases z : a = p
        · rw [z, upd_same, hp]
        · rw [upd_ne z, del_ne z]
      rw [e3] at this
      exact this
  | oll s =>
    refine s M _ _ B M H fun p us B' M' e d c f hp hd => ?_
    ·
      have hx := rst_ex c d
      have := w (.ref p) (rst M (jn B' M')) (e.trans hx) rst_dj (.lst (show rst M (jn B' M') p = some (.lst us) by unfold rst; rw [f]; exact jn_M hp) (DqAll_ex hx hd))
      rw [rst_jn c] at this
      exact this
  | bad s =>
    refine s M _ _ B M H fun σ' B' M' e H' => ?_
    · have := w (rst M (jn B' M')) (e.trans (rst_ex H'.cal H'.dj)) rst_dj
      rw [rst_jn H'.cal] at this
      exact this
section
variable {P : Program} {w : World} {K : PySem.W.Frag} {mg : Str → Option Value} {base : Heap}
abbrev cxD (P : Program) (w : World) (K : PySem.W.Frag) (mg : Str → Option Value) (base : Heap) (N : List Str) (qual : Str) (st : Stmt) (f : Addr) (cdv : Value) (A : Around) (outer : List Env) (s : Shared) (H : Hp) (E : XK) : Cx :=
  cxOf (L2.CX P w) P w K mg base N qual (defScope st) f cdv A outer s H E
theorem fn_ok {x qual : Str} {st : Stmt} {f : Addr} {fd : FuncData} {N ps : List Str} {k : Nat} {S : Fs} (F : Fun K x qual st f fd) (sc : FnScope N ps (defScope st)) (hn : S.n = ps.length)
    (hb : ∀ (cdv : Value) (A : Around) (outer : List Env) (s : Shared) (H : Hp) (E : XK), Room k (A.deeper (envOfC qual (defScope st) s.heap.objs.size f cdv)) →
      ∃ t, PSs (cxD P w K mg base N qual st f cdv A outer s H E) (defBody st) t ∧ ∀ x : S.α, Ans (fun _ => E) t (startG N.length (S.ars x)) (S.res x)) : FnOk P w K mg base (L2.CX P w) (k + 1) f fd ps (spF S) := by
  refine F.okX sc (fun vs H Q E h => by rw [spF_len h, hn]) (fun cdv A outer s H vs Q E hr h => ?_)
  obtain ⟨t, h1, h2⟩ := hb cdv A outer s H E hr
  refine ⟨t, h1, ?_⟩
  obtain ⟨x, B, M, rfl, dj, ha, hw⟩ := h
  refine ans_run dj ha ?_ hw (h2 x)
  have := congrArg List.length sc.pre
  rw [List.length_take] at this
  rw [S.len, hn]
  omega
/-- an __init__: self is its own, in slot 0 -/
theorem ini_ok {x qual : Str} {st : Stmt} {f C : Addr} {fd : FuncData} {N ps : List Str} {k : Nat} {S : Ini} (F : Fun K x qual st f fd) (sc : FnScope N ps (defScope st)) (hn : S.n + 1 = ps.length)
    (hb : ∀ (cdv : Value) (A : Around) (outer : List Env) (s : Shared) (H : Hp) (E : XK), Room k (A.deeper (envOfC qual (defScope st) s.heap.objs.size f cdv)) →
      ∃ t, PSs (cxD P w K mg base N qual st f cdv A outer s H E) (defBody st) t ∧ ∀ x : S.α, match S.res x with
        | .inl F => ∀ p dx, ∃ G', G'[0]? = some (.ow (owI C p dx F)) ∧ Ss (fun _ => E) t (.ow (owI C p dx (flds [])) :: startG (N.length - 1) (S.ars x)) (.nx G')
        | .inr X => ∀ p dx, ∃ G' F', G'[0]? = some (.ow (owI C p dx F')) ∧ Ss (fun _ => E) t (.ow (owI C p dx (flds [])) :: startG (N.length - 1) (S.ars x)) (.bad X G')) : FnOk P w K mg base (L2.CX P w) (k + 1) f fd ps (spN C S) := by
  refine F.okX sc (fun vs H Q E h => by rw [spN_len h, hn]) (fun cdv A outer s H vs Q E hr h => ?_)
  obtain ⟨t, h1, h2⟩ := hb cdv A outer s H E hr
  refine ⟨t, h1, ?_⟩
  obtain ⟨x, B, M, p, dx, us, rfl, rfl, dj, hp, ha, hw⟩ := h
  have hlen : S.n + 1 ≤ N.length := by
    have := congrArg List.length sc.pre
    rw [List.length_take] at this
    omega
  obtain ⟨n0, N', rfl⟩ : ∃ n0 N', N = n0 :: N' := by
    cases N with
    | nil => simp at hlen
    | cons a b => exact ⟨a, b, rfl⟩
  -- the caller's own but the instance
  have dj2 : Dj B (del M p) := fun a u q => by
    by_cases z : a = p
    · exact if_pos z
    · rw [del_ne z]; exact dj a u q
  have H0 : Holds (del M p) (.ow (owI C p dx (flds [])) :: startG N'.length (S.ars x)) (L2.start (n0 :: N') (.ref p :: us)) B M := by
    have a := S.len x
    have e1 : L2.start (n0 :: N') (V.ref p :: us) = some (V.ref p) :: L2.start N' us := by
      unfold L2.start
      simp
    rw [e1]
    have ha' : ∀ {i : Nat} {S1 : Sl}, (startG N'.length (S.ars x))[i]? = some S1 → S1 ≠ .no → i < us.length ∧ (entG (S.ars x))[i]? = some S1 := fun e hn => start_get ha e hn
    have us_get : ∀ {i : Nat} {v : V}, us[i]? = some v → (L2.start N' us)[i]? = some (some v) := fun {i v} e => by
      have hi := (List.getElem?_eq_some_iff.mp e).1
      unfold L2.start
      rw [List.getElem?_append_left (by simpa using hi), List.getElem?_map, e]; rfl
    exact {
      len := by unfold L2.start startG; simp [entG_len, ha.len]
      dj := dj
      cal := fun a o h => by
        by_cases z : a = p
        · rw [z, show del M p p = none from if_pos rfl] at h; cases h
        · rw [del_ne z] at h; exact h
      im := fun i P q => by
        cases i with
        | zero => simp at q
        | succ i =>
          have q : (startG N'.length (S.ars x))[i]? = some (.im P) := by simpa using q
          obtain ⟨hi, e⟩ := ha' q (by intro z; cases z)
          rcases ent_get ha e with ⟨P', v, h1, h2, h3⟩ | ⟨R, l, o, h1, _⟩
          · cases h1; exact ⟨v, by simpa using us_get h2, h3⟩
          · cases h1
      ow := fun i R q => by
        cases i with
        | zero =>
          have q : Sl.ow (owI C p dx (flds [])) = Sl.ow R := by simpa using q
          cases q
          exact ⟨p, _, rfl, hp, ⟨rfl, [], rfl, .nil, by decide⟩, if_pos rfl⟩
        | succ i =>
          have q : (startG N'.length (S.ars x))[i]? = some (.ow R) := by simpa using q
          obtain ⟨hi, e⟩ := ha' q (by intro z; cases z)
          rcases ent_get ha e with ⟨P', v, h1, _⟩ | ⟨R, l, o, h1, _⟩ <;> cases h1
      bw := fun i R q => by
        cases i with
        | zero => simp at q
        | succ i =>
          have q : (startG N'.length (S.ars x))[i]? = some (.bw R) := by simpa using q
          obtain ⟨hi, e⟩ := ha' q (by intro z; cases z)
          rcases ent_get ha e with ⟨P', v, h1, _⟩ | ⟨R', l, o, h1, h2, h3, h4⟩
          · cases h1
          · cases h1
            exact ⟨l, o, by simpa using us_get h2, h3, h4⟩
      ne := fun i j R R' l q q' _ _ => by
        have only : ∀ {i : Nat} {R : Ow}, (Sl.ow (owI C p dx (flds [])) :: startG N'.length (S.ars x))[i]? = some (.ow R) → i = 0 := fun {i R} q => by
          cases i with
          | zero => rfl
          | succ i =>
            have q : (startG N'.length (S.ars x))[i]? = some (.ow R) := by simpa using q
            obtain ⟨hi, e⟩ := ha' q (by intro z; cases z)
            rcases ent_get ha e with ⟨P', v, h1, _⟩ | ⟨R, l, o, h1, _⟩ <;> cases h1
        rw [only q, only q'] }
  have h3 := h2 x
  have back : Ex (del M p) (upd (del M p) p (.ins C dx [])) := fun a o h => by
    have z : a ≠ p := fun z => by rw [z, show del M p p = none from if_pos rfl] at h; cases h
    rw [upd_ne z]; exact h
  cases hr : S.res x with
  | inl F =>
    rw [hr] at hw h3
    obtain ⟨G', hg, s⟩ := h3 p dx
    refine s (del M p) _ _ B M H0 fun σ' B' M' e H' => ?_
    obtain ⟨l, o, a, c, ⟨rfl, fs, rfl, r, _⟩, f⟩ := H'.ow 0 _ hg
    -- all but the caller's and the instance are let stand
    have c1 : Ex (upd (del M l) l (.ins C dx fs)) M' := fun a o h => by
      by_cases z : a = l
      · rw [z] at h ⊢; rw [upd_same] at h; rw [← h]; exact c
      · rw [upd_ne z] at h; exact H'.cal a o h
    have e1 : upd (del M l) l (.ins C dx fs) = upd M l (.ins C dx fs) := by
      funext a
      by_cases z : a = l
      · rw [z, upd_same, upd_same]
      · rw [upd_ne z, upd_ne z, del_ne z]
    rw [e1] at c1
    have hx := rst_ex c1 H'.dj
    have d3 : Dj (rst (upd M l (.ins C dx fs)) (jn B' M')) M := fun a u q => by
      have := rst_dj a u q
      by_cases z : a = l
      · rw [z, upd_same] at this; cases this
      · rw [upd_ne z] at this; exact this
    have d4 : Dj (rst (upd M l (.ins C dx fs)) (jn B' M')) M := d3
    have := hw (rst (upd M l (.ins C dx fs)) (jn B' M')) fs (e.trans hx) d4 (F.mono hx r)
    rw [rst_jn c1] at this
    exact this
  | inr X =>
    rw [hr] at hw h3
    obtain ⟨G', F', hg, s⟩ := h3 p dx
    refine s (del M p) _ _ B M H0 fun σ' B' M' e H' => ?_
    obtain ⟨l, o, a, c, ⟨rfl, fs, rfl, r, _⟩, f⟩ := H'.ow 0 _ hg
    have c1 : Ex (upd (del M l) l (.ins C dx fs)) M' := fun a o h => by
      by_cases z : a = l
      · rw [z] at h ⊢; rw [upd_same] at h; rw [← h]; exact c
      · rw [upd_ne z] at h; exact H'.cal a o h
    have e1 : upd (del M l) l (.ins C dx fs) = upd M l (.ins C dx fs) := by
      funext a
      by_cases z : a = l
      · rw [z, upd_same, upd_same]
      · rw [upd_ne z, upd_ne z, del_ne z]
    rw [e1] at c1
    have hx := rst_ex c1 H'.dj
    have d3 : Dj (rst (upd M l (.ins C dx fs)) (jn B' M')) M := fun a u q => by
      have := rst_dj a u q
      by_cases z : a = l
      · rw [z, upd_same] at this; cases this
      · rw [upd_ne z] at this; exact this
    have := hw (rst (upd M l (.ins C dx fs)) (jn B' M')) fs (e.trans hx) d3
    rw [rst_jn c1] at this
    exact this
end
end Mini

namespace Mini
open PySem L2 Evl PyProof.Rows
/-- a constant of the module -/
def GC (mg : Str → Option Value) (x : Str) (v : V) : Prop := ∃ u, mg x = some u ∧ RelV v u
theorem pe_gc {X : Cx} {x : Str} {v : V} {pos : Pos} (h : GC X.mg x v) (hg : Gl X x := by rfl) (hd : (x == ("__debug__" : Str)) = false := by decide) : PE X (.Name x pos) (tC v) := by
  obtain ⟨u, h1, h2⟩ := h
  exact pe_glob hg h1 h2 hd
theorem pe_err {X : Cx} {x : Str} {C : Addr} {pos : Pos} (h : X.mg x = some (.ref C)) (hg : Gl X x := by rfl) (hd : (x == ("__debug__" : Str)) = false := by decide) : PE X (.Name x pos) (tC (.ref C)) := pe_glob hg h rfl hd
/-- what is no int from 0 on below n -/
def belowB (d : PyData) (n : Int) : Bool := match d with
  | .int i => decide (0 ≤ i) && decide (i < n)
  | _ => false
def argOf : PyData ⊕ List PyData → Ar
  | .inl d => .im (isD d)
  | .inr ds => .ow (isL ds)
def lenD : PyData → Nat
  | .tuple ds => ds.length
  | .list ds => ds.length
  | _ => 0
/-- small enough to be walked -/
def Fit (d : PyData) : Prop := lenD d < 10000000
def Fits (d : PyData) : Prop := match d with
  | .list ds => ds.length < 10000000 ∧ ∀ e ∈ ds, Fit e
  | _ => True
/-- a book's attributes -/
def bookF (m : PyData) (ds : List PyData) : Fl := flds [("letters", isD m), ("size", isD (.int ds.length)), ("_words", isD (.list ds))]
theorem bookF_no {m : PyData} {ds : List PyData} {f : Str} (h : ([("letters", isD m), ("size", isD (.int ds.length)), ("_words", isD (.list ds))] : List (Str × Ty)).lookup f = none) : ∀ vs B, (bookF m ds).r vs B → vs.lookup f = none := fun vs B r => (FldsOk.look r).2 h
def wD (ws : List (List Int)) : List PyData := ws.map fun w => .tuple (w.map .int)
def slOf : PyData ⊕ List PyData → Sl
  | .inl d => .im (isD d)
  | .inr ds => .bw (isL ds)
theorem ent_slOf (a : PyData ⊕ List PyData) (as : List Ar) : entG (argOf a :: as) = slOf a :: entG as := by cases a <;> rfl
def datOf : PyData ⊕ List PyData → PyData
  | .inl d => d
  | .inr ds => .list ds
theorem rl_slOf {a : PyData ⊕ List PyData} {ds : List PyData} (h : datOf a = .list ds) {G : Gm} {n : Nat} (hG : G[n]? = some (slOf a)) : Rl (tVar n) G ds := by
  cases a with
  | inl d => have e : d = .list ds := h; subst e; exact rl_sv (sv_var hG)
  | inr es => have e : es = ds := PyData.list.inj h; subst e; exact rl_bw hG
theorem sv_slOf {a : PyData ⊕ List PyData} (h : ∀ ds, datOf a ≠ .list ds) {G : Gm} {n : Nat} (hG : G[n]? = some (slOf a)) : Sv (tVar n) G (isD (datOf a)) := by
  cases a with
  | inl d => exact sv_var hG
  | inr es => exact absurd rfl (h es)
theorem sa_slOf {a : PyData ⊕ List PyData} {G : Gm} {n : Nat} {tr : TA} {as : List Ar} (h : G[n]? = some (slOf a)) (hr : Sa tr G as) : Sa (tCons (tVar n) tr) G (argOf a :: as) := by
  cases a with
  | inl d => exact sa_im (sv_var h) hr
  | inr ds => exact sa_bw h hr
def tupB (f : PyData → Bool) (d : PyData) : Bool := match d with
  | .tuple ds => ds.all f
  | _ => false
def isWordB (d : PyData) (n : Int) : Bool := tupB (fun e => belowB e n) d && (decide (1 ≤ (lenD d : Int)) && decide ((lenD d : Int) ≤ 5000))
def areWordsB (d : PyData) (n : Int) : Bool := match d with
  | .list ds => decide (ds.length ≤ 60) && ds.all fun e => isWordB e n
  | _ => false
theorem at_getD {ds : List PyData} {i : Int} (h0 : 0 ≤ i) (h1 : i < ds.length) : atI ds i = some (ds.getD i.toNat .none) := by
  obtain ⟨n, rfl⟩ := Int.eq_ofNat_of_zero_le h0
  have hn : n < ds.length := by omega
  have e : ds[n]? = some (ds.getD n .none) := by rw [List.getD_eq_getElem?_getD, List.getElem?_eq_getElem hn]; rfl
  exact atI_nat e
theorem ini_good {E : L2.St → XK} {t : TS} {G G' : Gm} {S : Sl} (h2 : Ss E t G (.nx G')) (h1 : G'[0]? = some S) : ∃ G', G'[0]? = some S ∧ Ss E t G (.nx G') := ⟨G', h1, h2⟩
theorem ini_bad {E : L2.St → XK} {t : TS} {G G' : Gm} {C p dx X : Addr} {F' : Fl} (h2 : Ss E t G (.bad X G')) (h1 : G'[0]? = some (.ow (owI C p dx F'))) : ∃ G' F', G'[0]? = some (.ow (owI C p dx F')) ∧ Ss E t G (.bad X G') := ⟨G', F', h1, h2⟩
theorem all_map_id {α : Type} (f : α → Bool) : ∀ l : List α, (l.map f).all id = l.all f
  | [] => rfl
  | a :: l => by simp [all_map_id f l]
def dInt : PyData → Bool
  | .int _ => true
  | .bool _ => true
  | _ => false
def dBool : PyData → Bool
  | .bool _ => true
  | _ => false
def dStr : PyData → Bool
  | .str _ => true
  | _ => false
def dTup : PyData → Bool
  | .tuple _ => true
  | _ => false
def dLst : PyData → Bool
  | .list _ => true
  | _ => false
theorem kit_int : ∀ d, kitB (tyName d) "int" = some (dInt d)
  | .none => (by decide +kernel : kitB "NoneType" "int" = some false)
  | .bool _ => (by decide +kernel : kitB "bool" "int" = some true)
  | .int _ => (by decide +kernel : kitB "int" "int" = some true)
  | .str _ => (by decide +kernel : kitB "str" "int" = some false)
  | .list _ => (by decide +kernel : kitB "list" "int" = some false)
  | .tuple _ => (by decide +kernel : kitB "tuple" "int" = some false)
  | .dict _ => (by decide +kernel : kitB "dict" "int" = some false)
theorem kit_bool : ∀ d, kitB (tyName d) "bool" = some (dBool d)
  | .none => (by decide +kernel : kitB "NoneType" "bool" = some false)
  | .bool _ => (by decide +kernel : kitB "bool" "bool" = some true)
  | .int _ => (by decide +kernel : kitB "int" "bool" = some false)
  | .str _ => (by decide +kernel : kitB "str" "bool" = some false)
  | .list _ => (by decide +kernel : kitB "list" "bool" = some false)
  | .tuple _ => (by decide +kernel : kitB "tuple" "bool" = some false)
  | .dict _ => (by decide +kernel : kitB "dict" "bool" = some false)
theorem kit_str : ∀ d, kitB (tyName d) "str" = some (dStr d)
  | .none => (by decide +kernel : kitB "NoneType" "str" = some false)
  | .bool _ => (by decide +kernel : kitB "bool" "str" = some false)
  | .int _ => (by decide +kernel : kitB "int" "str" = some false)
  | .str _ => (by decide +kernel : kitB "str" "str" = some true)
  | .list _ => (by decide +kernel : kitB "list" "str" = some false)
  | .tuple _ => (by decide +kernel : kitB "tuple" "str" = some false)
  | .dict _ => (by decide +kernel : kitB "dict" "str" = some false)
theorem kit_tup : ∀ d, kitB (tyName d) "tuple" = some (dTup d)
  | .none => (by decide +kernel : kitB "NoneType" "tuple" = some false)
  | .bool _ => (by decide +kernel : kitB "bool" "tuple" = some false)
  | .int _ => (by decide +kernel : kitB "int" "tuple" = some false)
  | .str _ => (by decide +kernel : kitB "str" "tuple" = some false)
  | .list _ => (by decide +kernel : kitB "list" "tuple" = some false)
  | .tuple _ => (by decide +kernel : kitB "tuple" "tuple" = some true)
  | .dict _ => (by decide +kernel : kitB "dict" "tuple" = some false)
theorem kit_lst : ∀ d, kitB (tyName d) "list" = some (dLst d)
  | .none => (by decide +kernel : kitB "NoneType" "list" = some false)
  | .bool _ => (by decide +kernel : kitB "bool" "list" = some false)
  | .int _ => (by decide +kernel : kitB "int" "list" = some false)
  | .str _ => (by decide +kernel : kitB "str" "list" = some false)
  | .list _ => (by decide +kernel : kitB "list" "list" = some true)
  | .tuple _ => (by decide +kernel : kitB "tuple" "list" = some false)
  | .dict _ => (by decide +kernel : kitB "dict" "list" = some false)
section
variable {K : PySem.W.Frag} {G : Gm} {ta tb : TE} {d : PyData} {ds : List PyData}
theorem sv_isInt (ha : Sv ta G (isD d)) : Sv (tCB (rIsi K) (tCons ta (tCons (tC (.ty "int")) tNil))) G (isD (.bool (dInt d))) := sv_isi ha sv_val (kit_int d)
theorem sv_isBool (ha : Sv ta G (isD d)) : Sv (tCB (rIsi K) (tCons ta (tCons (tC (.ty "bool")) tNil))) G (isD (.bool (dBool d))) := sv_isi ha sv_val (kit_bool d)
theorem sv_isStr (ha : Sv ta G (isD d)) : Sv (tCB (rIsi K) (tCons ta (tCons (tC (.ty "str")) tNil))) G (isD (.bool (dStr d))) := sv_isi ha sv_val (kit_str d)
theorem sv_isTup (ha : Sv ta G (isD d)) : Sv (tCB (rIsi K) (tCons ta (tCons (tC (.ty "tuple")) tNil))) G (isD (.bool (dTup d))) := sv_isi ha sv_val (kit_tup d)
theorem sv_isLst (ha : Sv ta G (isD d)) : Sv (tCB (rIsi K) (tCons ta (tCons (tC (.ty "list")) tNil))) G (isD (.bool (dLst d))) := sv_isi ha sv_val (kit_lst d)
theorem sv_isLstR (ha : Rl ta G ds) : Sv (tCB (rIsi K) (tCons ta (tCons (tC (.ty "list")) tNil))) G (isD (.bool true)) := sv_isiL ha sv_val (kit_lst (.list []))
end
end Mini

namespace Mini
open PySem L2 Evl

/-! ### weaker slots, written out -/
theorem Le.nil : Le [] [] := Le.refl []
theorem Le.eq {S : Sl} {G1 G2 : Gm} (h : Le G1 G2) : Le (S :: G1) (S :: G2) := ⟨by simp [h.1], fun i R q => by
  cases i with
  | zero => exact .inr q
  | succ i => exact h.2 i R (by simpa using q)⟩
theorem Le.no {S : Sl} {G1 G2 : Gm} (h : Le G1 G2) : Le (S :: G1) (.no :: G2) := ⟨by simp [h.1], fun i R q => by
  cases i with
  | zero => have e : Sl.no = R := by simpa using q
            exact .inl e.symm
  | succ i => exact h.2 i R (by simpa using q)⟩

/-! ### the laws' own draws -/
def digS (s : List Int × Int) : List Int × Int := if 0 < s.2 then (s.1 ++ [s.2 % 1009], s.2 / 1009) else s
def itN {α : Type} (f : α → α) : Nat → α → α
  | 0, a => a
  | n + 1, a => f (itN f n a)
def absI (c : Int) : Int := if c < 0 then -c else c
def seedS (s c : Int) : Int := (s * 48271 + absI c + 11) % 2147483647
def cellS (s : List Int × Int) (c : Int) : List Int × Int :=
  if 10 ^ 18 ≤ absI c then ((itN digS 60 (s.1, absI c)).1, seedS s.2 c) else (s.1 ++ [(seedS s.2 c * 16807 + 5) / 3 % 65521], seedS s.2 c)
def fillS (many : Int) (s : List Int × Int) (k : Nat) : List Int × Int :=
  if (s.1.length : Int) < many then (s.1 ++ [(s.2 * 69621 + (k : Int) + 1) % 2147483647 / 7 % 65521], (s.2 * 69621 + (k : Int) + 1) % 2147483647) else s
def cellsS (ns : List Int) (i : Nat) : List Int × Int := (ns.take i).foldl cellS ([], 7)
def fillsS (ns : List Int) (many : Int) (k : Nat) : List Int × Int := (List.range k).foldl (fillS many) (cellsS ns ns.length)
def drawsF (ns : List Int) (many : Int) : List Int := cutD (fillsS (cutD ns none (some 63)) many many.toNat).1 none (some many)
theorem cellsS_succ {ns : List Int} {i : Nat} {c : Int} (h : ns[i]? = some c) : cellsS ns (i + 1) = cellS (cellsS ns i) c := by
  unfold cellsS
  rw [List.take_succ, h, List.foldl_append]
  rfl
theorem fillsS_succ (ns : List Int) (many : Int) (k : Nat) : fillsS ns many (k + 1) = fillS many (fillsS ns many k) k := by
  unfold fillsS
  rw [List.range_succ, List.foldl_append]
  rfl
theorem digS_len (s : List Int × Int) : (digS s).1.length ≤ s.1.length + 1 := by
  unfold digS
  split
  · simp
  · omega
theorem itN_len {n : Nat} {s : List Int × Int} : (itN digS n s).1.length ≤ s.1.length + n := by
  induction n with
  | zero => exact Nat.le_refl _
  | succ n ih =>
    have := digS_len (itN digS n s)
    show (digS (itN digS n s)).1.length ≤ _
    omega
theorem cellS_len (s : List Int × Int) (c : Int) : (cellS s c).1.length ≤ s.1.length + 60 := by
  unfold cellS
  split
  · exact itN_len (s := (s.1, absI c))
  · simp
theorem cellsS_len {ns : List Int} : ∀ i, i ≤ ns.length → (cellsS ns i).1.length ≤ 60 * i
  | 0, _ => by simp [cellsS]
  | i + 1, h => by
    rw [cellsS_succ (List.getElem?_eq_getElem (show i < ns.length by omega))]
    have := cellS_len (cellsS ns i) ns[i]
    have := cellsS_len (ns := ns) i (by omega)
    omega
theorem fillS_len (many : Int) (s : List Int × Int) (k : Nat) : (fillS many s k).1.length ≤ s.1.length + 1 := by
  unfold fillS
  split
  · simp
  · omega
theorem fillsS_len (ns : List Int) (many : Int) : ∀ k, (fillsS ns many k).1.length ≤ 60 * ns.length + k
  | 0 => cellsS_len ns.length (Nat.le_refl _)
  | k + 1 => by
    rw [fillsS_succ]
    have := fillS_len many (fillsS ns many k) k
    have := fillsS_len ns many k
    omega
theorem fillsS_ge (ns : List Int) (many : Int) : ∀ k : Nat, (k : Int) ≤ many → k ≤ (fillsS ns many k).1.length
  | 0, _ => Nat.zero_le _
  | k + 1, h => by
    rw [fillsS_succ]
    have := fillsS_ge ns many k (by omega)
    unfold fillS
    split
    · rw [List.length_append, List.length_singleton]; omega
    · omega
theorem cut_take {α : Type} (ds : List α) {i : Int} (h0 : 0 ≤ i) : cutD ds none (some i) = ds.take i.toNat := by
  unfold cutD
  obtain ⟨n, rfl⟩ := Int.eq_ofNat_of_zero_le h0
  rw [HT.sIx_none]
  show (ds.drop 0).take (HT.sIx ds.length ds.length (some (n : Int)) - 0) = ds.take (n : Int).toNat
  rw [HT.sIx_nat, List.drop_zero, Nat.sub_zero, Int.toNat_natCast]
  by_cases h : n ≤ ds.length
  · rw [Nat.min_eq_left h]
  · rw [Nat.min_eq_right (by omega), List.take_length, List.take_of_length_le (by omega)]
theorem cut_drop {α : Type} (ds : List α) {i : Int} (h0 : 0 ≤ i) : cutD ds (some i) none = ds.drop i.toNat := by
  unfold cutD
  obtain ⟨n, rfl⟩ := Int.eq_ofNat_of_zero_le h0
  rw [HT.sIx_none, HT.sIx_nat, Int.toNat_natCast]
  by_cases h : n ≤ ds.length
  · rw [Nat.min_eq_left h, List.take_of_length_le (by simp)]
  · rw [Nat.min_eq_right (by omega), Nat.sub_self, List.take_zero, List.drop_eq_nil_of_le (by omega)]
def Dr (v : Int) : Prop := 0 ≤ v ∧ v < 65521
theorem digS_dr {s : List Int × Int} (h : ∀ v ∈ s.1, Dr v) : ∀ v ∈ (digS s).1, Dr v := by
  unfold digS
  split
  · intro v hv
    rcases List.mem_append.mp hv with e | e
    · exact h v e
    · rw [List.mem_singleton] at e
      subst e
      exact ⟨by omega, by omega⟩
  · exact h
theorem itN_dr {n : Nat} {s : List Int × Int} (h : ∀ v ∈ s.1, Dr v) : ∀ v ∈ (itN digS n s).1, Dr v := by
  induction n with
  | zero => exact h
  | succ n ih => exact digS_dr ih
theorem cellS_dr {s : List Int × Int} {c : Int} (h : ∀ v ∈ s.1, Dr v) : ∀ v ∈ (cellS s c).1, Dr v := by
  unfold cellS
  split
  · exact itN_dr (s := (s.1, absI c)) h
  · intro v hv
    rcases List.mem_append.mp hv with e | e
    · exact h v e
    · rw [List.mem_singleton] at e
      subst e
      exact ⟨by omega, by omega⟩
theorem cellsS_dr {ns : List Int} : ∀ i, i ≤ ns.length → ∀ v ∈ (cellsS ns i).1, Dr v
  | 0, _ => fun v hv => by simp [cellsS] at hv
  | i + 1, h => by
    rw [cellsS_succ (List.getElem?_eq_getElem (show i < ns.length by omega))]
    exact cellS_dr (cellsS_dr i (by omega))
theorem fillsS_dr (ns : List Int) (many : Int) : ∀ k, ∀ v ∈ (fillsS ns many k).1, Dr v
  | 0 => cellsS_dr ns.length (Nat.le_refl _)
  | k + 1 => by
    rw [fillsS_succ]
    unfold fillS
    split
    · intro v hv
      rcases List.mem_append.mp hv with e | e
      · exact fillsS_dr ns many k v e
      · rw [List.mem_singleton] at e
        subst e
        exact ⟨by omega, by omega⟩
    · exact fillsS_dr ns many k
theorem drawsF_len {ns : List Int} {many : Int} (h : 0 ≤ many) : (drawsF ns many).length = many.toNat := by
  unfold drawsF
  rw [cut_take _ h, List.length_take]
  have := fillsS_ge (cutD ns none (some 63)) many many.toNat (by omega)
  omega
theorem drawsF_dr {ns : List Int} {many : Int} (h : 0 ≤ many) : ∀ v ∈ drawsF ns many, Dr v := fun v hv => by
  unfold drawsF at hv
  rw [cut_take _ h] at hv
  exact fillsS_dr _ _ _ v (List.mem_of_mem_take hv)

/-! ### the laws' own words -/
def atD (ds : List Int) (k : Nat) : Int := ds.getD k 0
def primD (j : Nat) : Int := [1, 3, 7, 11, 19, 31, 53, 97].getD (j % 8) 1
def wordD (dr : List Int) (letters longest first : Int) (k : Nat) : List Int :=
  first :: (List.range (atD dr (3 * k + 1) % longest).toNat).map fun j => atD dr (3 * k + 2) / primD j % letters
theorem eraseIdx_map' {α β : Type} (f : α → β) : ∀ (l : List α) (n : Nat), (l.map f).eraseIdx n = (l.eraseIdx n).map f
  | [], n => by simp
  | a :: l, 0 => by simp
  | a :: l, n + 1 => by simp [eraseIdx_map' f l n]
theorem prim_cases (j : Nat) : j % 8 = 0 ∨ j % 8 = 1 ∨ j % 8 = 2 ∨ j % 8 = 3 ∨ j % 8 = 4 ∨ j % 8 = 5 ∨ j % 8 = 6 ∨ j % 8 = 7 := by omega
theorem prim_at (j : Nat) : atI ([.int 1, .int 3, .int 7, .int 11, .int 19, .int 31, .int 53, .int 97] : List PyData) ((j : Int) % 8) = some (.int (primD j)) := by
  have e : (j : Int) % 8 = ((j % 8 : Nat) : Int) := by omega
  rw [e]
  unfold primD
  rcases prim_cases j with h | h | h | h | h | h | h | h <;> rw [h] <;> rfl
theorem prim_div (j : Nat) {i : Int} : CDiv i (primD j) := by
  unfold primD CDiv
  rcases prim_cases j with h | h | h | h | h | h | h | h <;> rw [h] <;> decide
/-- the letters that are left, the words so far -/
def wordsS (dr : List Int) (letters longest : Int) (apart : Bool) : Nat → List Int × List (List Int)
  | 0 => ((List.range letters.toNat).map fun k : Nat => (k : Int), [])
  | k + 1 =>
    let s := wordsS dr letters longest apart k
    if apart then (s.1.eraseIdx (atD dr (3 * k) % (s.1.length : Int)).toNat, s.2 ++ [wordD dr letters longest (s.1.getD (atD dr (3 * k) % (s.1.length : Int)).toNat 0) k])
    else (s.1, s.2 ++ [wordD dr letters longest (atD dr (3 * k) % (if 1 > letters then 1 else letters)) k])
def wordsF (dr : List Int) (letters size longest : Int) (apart : Bool) : List (List Int) := (wordsS dr letters longest apart size.toNat).2
theorem wordsS_len (dr : List Int) (letters longest : Int) (apart : Bool) : ∀ k, (wordsS dr letters longest apart k).2.length = k
  | 0 => rfl
  | k + 1 => by
    have ih := wordsS_len dr letters longest apart k
    unfold wordsS
    cases apart <;> simp [ih]
theorem leftS_len (dr : List Int) (letters longest : Int) : ∀ k : Nat, (∀ i, 0 ≤ atD dr i) → (k : Int) ≤ letters → ((wordsS dr letters longest true k).1.length : Int) = letters - k
  | 0, _, h => by simp [wordsS]; omega
  | k + 1, hp, h => by
    have ih := leftS_len dr letters longest k hp (by omega)
    unfold wordsS
    simp only [if_true]
    have h1 := hp (3 * k)
    have h2 : 0 ≤ atD dr (3 * k) % ((wordsS dr letters longest true k).1.length : Int) := Int.emod_nonneg _ (by omega)
    have h3 : atD dr (3 * k) % ((wordsS dr letters longest true k).1.length : Int) < ((wordsS dr letters longest true k).1.length : Int) := Int.emod_lt_of_pos _ (by omega)
    rw [List.length_eraseIdx, if_pos (by omega)]
    omega
end Mini

namespace Mini
open PySem L2 Evl

theorem eqvI_iff : ∀ (a b : List Int), PyData.eqvAll (a.map .int) (b.map .int) = decide (a = b)
  | [], [] => by simp [PyData.eqvAll]
  | [], _ :: _ => by simp [PyData.eqvAll]
  | _ :: _, [] => by simp [PyData.eqvAll]
  | x :: xs, y :: ys => by
    rw [List.map_cons, List.map_cons, PyData.eqvAll, eqvI_iff xs ys, PyData.eqv]
    by_cases h : x = y
    · subst h; simp
    · have h' : ¬ (x :: xs = y :: ys) := fun e => h (List.cons.inj e).1
      rw [decide_eq_false h', beq_eq_false_iff_ne.mpr h, Bool.false_and]
theorem eqvW_iff : ∀ (a b : List (List Int)), PyData.eqvAll (wD a) (wD b) = decide (a = b)
  | [], [] => by simp [PyData.eqvAll, wD]
  | [], _ :: _ => by simp [PyData.eqvAll, wD]
  | _ :: _, [] => by simp [PyData.eqvAll, wD]
  | x :: xs, y :: ys => by
    have ih := eqvW_iff xs ys
    unfold wD at ih ⊢
    rw [List.map_cons, List.map_cons, PyData.eqvAll, ih, PyData.eqv, eqvI_iff]
    by_cases h : x = y
    · subst h; simp
    · have h' : ¬ (x :: xs = y :: ys) := fun e => h (List.cons.inj e).1
      rw [decide_eq_false h', decide_eq_false h, Bool.false_and]
theorem eqv_wD (a b : List (List Int)) : PyData.eqv (.list (wD a)) (.list (wD b)) = decide (a = b) := by rw [PyData.eqv, eqvW_iff]
theorem eqv_ints (a b : List Int) : PyData.eqv (.list (a.map .int)) (.list (b.map .int)) = decide (a = b) := by rw [PyData.eqv, eqvI_iff]
theorem eqv_tints (a b : List Int) : PyData.eqv (.tuple (a.map .int)) (.tuple (b.map .int)) = decide (a = b) := by rw [PyData.eqv, eqvI_iff]
theorem canI : ∀ a : List Int, PyData.canLayAll0 (a.map .int) = true
  | [] => by simp [PyData.canLayAll0]
  | x :: xs => by simp [PyData.canLayAll0, PyData.canLay0, canI xs]
theorem depI : ∀ a : List Int, PyData.depthAll (a.map .int) = 0
  | [] => by simp [PyData.depthAll]
  | x :: xs => by simp [PyData.depthAll, PyData.depth, depI xs]
theorem canW : ∀ a : List (List Int), PyData.canLayAll0 (wD a) = true
  | [] => by simp [PyData.canLayAll0, wD]
  | x :: xs => by
    have ih := canW xs
    unfold wD at ih ⊢
    simp [PyData.canLayAll0, PyData.canLay0, ih, canI]
theorem depW : ∀ a : List (List Int), PyData.depthAll (wD a) ≤ 1
  | [] => by simp [PyData.depthAll, wD]
  | x :: xs => by
    have ih := depW xs
    unfold wD at ih ⊢
    simp [PyData.depthAll, PyData.depth, depI, ih]
theorem shaped_wD (a : List (List Int)) : SeqAt.shaped (.list (wD a)) = true := by
  unfold SeqAt.shaped
  have h := depW a
  rw [Bool.and_eq_true]
  refine ⟨by rw [PyData.canLay0]; exact canW a, decide_eq_true ?_⟩
  rw [PyData.depth]
  omega
theorem shaped_ints (a : List Int) : SeqAt.shaped (.list (a.map .int)) = true := by
  unfold SeqAt.shaped
  rw [Bool.and_eq_true]
  refine ⟨by rw [PyData.canLay0]; exact canI a, decide_eq_true ?_⟩
  rw [PyData.depth, depI]
  omega
theorem shaped_tints (a : List Int) : SeqAt.shaped (.tuple (a.map .int)) = true := by
  unfold SeqAt.shaped
  rw [Bool.and_eq_true]
  refine ⟨by rw [PyData.canLay0]; exact canI a, decide_eq_true ?_⟩
  rw [PyData.depth, depI]
  omega
/-- words of a book over m letters -/
def GoodW (W : List (List Int)) (m : Int) : Prop := W.length ≤ 60 ∧ ∀ w ∈ W, 1 ≤ w.length ∧ w.length ≤ 5000 ∧ ∀ v ∈ w, 0 ≤ v ∧ v < m
theorem word_iff (w : List Int) (m : Int) : isWordB (.tuple (w.map .int)) m = true ↔ 1 ≤ w.length ∧ w.length ≤ 5000 ∧ ∀ v ∈ w, 0 ≤ v ∧ v < m := by
  have e : (isWordB (.tuple (w.map .int)) m) = ((w.map PyData.int).all (fun e => belowB e m) && (decide (1 ≤ ((w.map PyData.int).length : Int)) && decide (((w.map PyData.int).length : Int) ≤ 5000))) := rfl
  rw [e]
  simp only [Bool.and_eq_true, List.all_eq_true, List.length_map, decide_eq_true_eq, List.mem_map, forall_exists_index, and_imp, forall_apply_eq_imp_iff₂]
  constructor
  · rintro ⟨h1, h2, h3⟩
    refine ⟨by omega, by omega, fun v hv => ?_⟩
    have := h1 v hv
    simpa [belowB] using this
  · rintro ⟨h1, h2, h3⟩
    refine ⟨fun v hv => ?_, by omega, by omega⟩
    simpa [belowB] using h3 v hv
theorem areWords_iff (W : List (List Int)) (m : Int) : areWordsB (.list (wD W)) m = true ↔ GoodW W m := by
  have e : areWordsB (.list (wD W)) m = (decide ((wD W).length ≤ 60) && (wD W).all fun e => isWordB e m) := rfl
  rw [e]
  unfold wD GoodW
  simp only [Bool.and_eq_true, List.all_eq_true, List.length_map, decide_eq_true_eq, List.mem_map, forall_exists_index, and_imp, forall_apply_eq_imp_iff₂, word_iff]
theorem fits_wD {W : List (List Int)} (h1 : W.length < 10000000) (h2 : ∀ w ∈ W, w.length < 10000000) : Fits (.list (wD W)) := by
  refine ⟨by unfold wD; rw [List.length_map]; exact h1, fun e he => ?_⟩
  unfold wD at he
  obtain ⟨w, hw, rfl⟩ := List.mem_map.mp he
  show (w.map PyData.int).length < 10000000
  rw [List.length_map]
  exact h2 w hw
theorem GoodW.fits {W : List (List Int)} {m : Int} (h : GoodW W m) : Fits (.list (wD W)) := fits_wD (by have := h.1; omega) fun w hw => by have := (h.2 w hw).2.1; omega
theorem belowB_int (i n : Int) : belowB (.int i) n = true ↔ 0 ≤ i ∧ i < n := by simp [belowB]
/-- the drawn words are words -/
theorem wordD_ok {dr : List Int} {letters longest first : Int} {k : Nat} (hl : 1 ≤ letters) (hg : 1 ≤ longest) (hf : 0 ≤ first ∧ first < letters) : 1 ≤ (wordD dr letters longest first k).length ∧ (wordD dr letters longest first k).length ≤ longest ∧ ∀ v ∈ wordD dr letters longest first k, 0 ≤ v ∧ v < letters := by
  unfold wordD
  have h1 : 0 ≤ atD dr (3 * k + 1) % longest := Int.emod_nonneg _ (by omega)
  have h2 : atD dr (3 * k + 1) % longest < longest := Int.emod_lt_of_pos _ (by omega)
  refine ⟨by simp, by rw [List.length_cons, List.length_map, List.length_range]; omega, fun v hv => ?_⟩
  rcases List.mem_cons.mp hv with e | e
  · rw [e]; exact hf
  · obtain ⟨j, _, rfl⟩ := List.mem_map.mp e
    exact ⟨Int.emod_nonneg _ (by omega), Int.emod_lt_of_pos _ (by omega)⟩
theorem leftS_mem {dr : List Int} {letters longest : Int} {apart : Bool} (hl : 0 ≤ letters) : ∀ k v, v ∈ (wordsS dr letters longest apart k).1 → 0 ≤ v ∧ v < letters
  | 0, v, h => by
    obtain ⟨j, hj, rfl⟩ := List.mem_map.mp (show v ∈ (List.range letters.toNat).map fun k : Nat => (k : Int) from h)
    have := List.mem_range.mp hj
    exact ⟨by omega, by omega⟩
  | k + 1, v, h => by
    unfold wordsS at h
    cases apart with
    | true => exact leftS_mem hl k v (List.mem_of_mem_eraseIdx h)
    | false => exact leftS_mem hl k v h
theorem wordsS_ok {dr : List Int} {letters longest : Int} {apart : Bool} (hl : 1 ≤ letters) (hg : 1 ≤ longest) (hp : ∀ i, 0 ≤ atD dr i) : ∀ k : Nat, (apart = true → (k : Int) ≤ letters) → ∀ w ∈ (wordsS dr letters longest apart k).2, 1 ≤ w.length ∧ w.length ≤ longest ∧ ∀ v ∈ w, 0 ≤ v ∧ v < letters
  | 0, _ => fun w h => by simp [wordsS] at h
  | k + 1, ha => fun w h => by
    have ih := wordsS_ok (dr := dr) (letters := letters) (longest := longest) (apart := apart) hl hg hp k (fun e => by have := ha e; omega)
    have hlen := leftS_len dr letters longest k hp
    unfold wordsS at h
    cases apart with
    | true =>
      simp only [if_true] at h
      rcases List.mem_append.mp h with e | e
      · exact ih w e
      · rw [List.mem_singleton] at e
        rw [e]
        have hk : (k : Int) + 1 ≤ letters := ha rfl
        have hlen' := hlen (by omega)
        refine wordD_ok hl hg ?_
        have i0 : 0 ≤ atD dr (3 * k) % ((wordsS dr letters longest true k).1.length : Int) := Int.emod_nonneg _ (by omega)
        have i1 : atD dr (3 * k) % ((wordsS dr letters longest true k).1.length : Int) < ((wordsS dr letters longest true k).1.length : Int) := Int.emod_lt_of_pos _ (by omega)
        have i2 : (atD dr (3 * k) % ((wordsS dr letters longest true k).1.length : Int)).toNat < (wordsS dr letters longest true k).1.length := by omega
        have e3 : (wordsS dr letters longest true k).1.getD (atD dr (3 * k) % ((wordsS dr letters longest true k).1.length : Int)).toNat 0 = (wordsS dr letters longest true k).1[(atD dr (3 * k) % ((wordsS dr letters longest true k).1.length : Int)).toNat] := by
          rw [List.getD_eq_getElem?_getD, List.getElem?_eq_getElem i2]; rfl
        rw [e3]
        exact leftS_mem (by omega) k _ (List.getElem_mem i2)
    | false =>
      have h : w ∈ (wordsS dr letters longest false k).2 ++ [wordD dr letters longest (atD dr (3 * k) % (if 1 > letters then 1 else letters)) k] := h
      rcases List.mem_append.mp h with e | e
      · exact ih w e
      · rw [List.mem_singleton] at e
        rw [e]
        have q : (if 1 > letters then 1 else letters) = letters := if_neg (by omega)
        rw [q]
        exact wordD_ok hl hg ⟨Int.emod_nonneg _ (by omega), Int.emod_lt_of_pos _ (by omega)⟩
theorem wordsF_len {dr : List Int} {letters size longest : Int} {apart : Bool} : (wordsF dr letters size longest apart).length = size.toNat := wordsS_len _ _ _ _ _
theorem atD_dr {ds : List Int} (h : ∀ v ∈ ds, Dr v) (k : Nat) : Dr (atD ds k) := by
  unfold atD
  rw [List.getD_eq_getElem?_getD]
  cases e : ds[k]? with
  | none => exact ⟨Int.le_refl 0, by decide⟩
  | some v => exact h v (List.mem_of_getElem? e)
theorem atI_ints {ds : List Int} {k : Nat} (h : k < ds.length) : atI (ds.map PyData.int) (k : Int) = some (.int (atD ds k)) := by
  have e : (ds.map PyData.int)[k]? = some (.int (atD ds k)) := by
    rw [List.getElem?_map, List.getElem?_eq_getElem h]
    unfold atD
    rw [List.getD_eq_getElem?_getD, List.getElem?_eq_getElem h]
    rfl
  exact atI_nat e
/-- ds[:-1] -/
theorem cut_init {α : Type} (ds : List α) (x : α) : cutD (ds ++ [x]) none (some (-1)) = ds := by
  unfold cutD
  have e : HT.sIx (ds ++ [x]).length (ds ++ [x]).length (some (-1)) = ds.length := by
    show (if (-1 : Int) < 0 then ((-1 : Int) + ((ds ++ [x]).length : Int)).toNat else min (-1 : Int).toNat (ds ++ [x]).length) = _
    rw [if_pos (by decide), List.length_append, List.length_singleton]
    omega
  rw [e, HT.sIx_none, List.drop_zero, Nat.sub_zero, List.take_append_of_le_length (Nat.le_refl _), List.take_length]
theorem rep_one {α : Type} (x : α) : ∀ n : Nat, (List.replicate n [x]).flatten = List.replicate n x
  | 0 => rfl
  | n + 1 => by rw [List.replicate_succ, List.flatten_cons, rep_one x n]; rfl
theorem range_getD (ds : List PyData) : ((List.range ds.length).map fun i => ds.getD i .none) = ds := by
  apply List.ext_getElem
  · simp
  · intro i h1 h2
    rw [List.getElem_map, List.getElem_range, List.getD_eq_getElem?_getD, List.getElem?_eq_getElem h2]
    rfl
section
variable {K : PySem.W.Frag} {G : Gm} {ta tb : TE} {x y : Str}
theorem sv_neS (ha : Sv ta G (isD (.str x))) (hb : Sv tb G (isD (.str y))) (h1 : PyData.strOk x = true) (h2 : PyData.strOk y = true) : Sv (tOp (rNeD K) ta tb) G (isD (.bool (!(x == y)))) := by
  have s : ∀ z, PyData.strOk z = true → SeqAt.shaped (.str z) = true := fun z h => by
    unfold SeqAt.shaped
    rw [Bool.and_eq_true]
    exact ⟨by rw [PyData.canLay0]; exact h, by rw [PyData.depth]; rfl⟩
  refine sv_is (sv_ne ha hb (s x h1) (s y h2)) ?_
  rw [PyData.eqv]
/-- draws[k] -/
theorem sv_dr {D : List Int} {n : Nat} {k : Nat} (h : G[n]? = some (.im (isD (.list (D.map .int))))) (hk : k < D.length) : Sv (tCB cInt (tCons (tOp (rIx K) (tVar n) (tC (.int (k : Int)))) tNil)) G (isD (.int (atD D k))) :=
  sv_int1 (sv_ixL (rl_sv (sv_var h)) sv_int (atI_ints hk))
end
end Mini
namespace Mini
open PySem L2 Evl
theorem neI (a : List Int) : (!PyData.eqv (.list (a.map .int)) (.list (a.map .int))) = false := by rw [eqv_ints]; simp
theorem neW (a : List (List Int)) : (!PyData.eqv (.list (wD a)) (.list (wD a))) = false := by rw [eqv_wD]; simp
theorem areW_bad {X : List PyData} {e : PyData} {n : Int} (h : isWordB e n = false) : areWordsB (.list (X ++ [e])) n = false := by
  show (decide ((X ++ [e]).length ≤ 60) && (X ++ [e]).all fun e => isWordB e n) = false
  rw [List.all_append]
  simp [h]
theorem fits_add {X : List PyData} {e : PyData} (h : Fits (.list X)) (hn : X.length < 9999999) (he : Fit e) : Fits (.list (X ++ [e])) := by
  refine ⟨by rw [List.length_append, List.length_singleton]; omega, fun x hx => ?_⟩
  rcases List.mem_append.mp hx with q | q
  · exact h.2 x q
  · rw [List.mem_singleton] at q; rw [q]; exact he
theorem wD_take (W : List (List Int)) (n : Nat) : (wD W).take n = wD (W.take n) := by unfold wD; rw [List.map_take]
theorem wD_get {W : List (List Int)} {j : Nat} (h : j < W.length) : (wD W)[j]? = some (.tuple ((W.getD j []).map .int)) := by
  unfold wD
  rw [List.getElem?_map, List.getElem?_eq_getElem h, List.getD_eq_getElem?_getD, List.getElem?_eq_getElem h]
  rfl
theorem wD_set (W : List (List Int)) (j : Nat) (w : List Int) : (wD W).set j (.tuple (w.map .int)) = wD (W.set j w) := by unfold wD; rw [List.map_set]
theorem set_ne {W : List (List Int)} {j : Nat} (h : j < W.length) (v : Int) : W ≠ W.set j (W.getD j [] ++ [v]) := fun e => by
  have h1 : (W.set j (W.getD j [] ++ [v]))[j]? = some (W.getD j [] ++ [v]) := List.getElem?_set_self h
  rw [← e, List.getElem?_eq_getElem h, List.getD_eq_getElem?_getD, List.getElem?_eq_getElem h] at h1
  have h2 := congrArg List.length (Option.some.inj h1)
  simp at h2
theorem GoodW.set {W : List (List Int)} {m : Int} {j : Nat} (h : GoodW W m) (hj : j < W.length) (hm : 0 < m) (hl : (W.getD j []).length + 1 ≤ 5000) : GoodW (W.set j (W.getD j [] ++ [0])) m := by
  refine ⟨by rw [List.length_set]; exact h.1, fun w hw => ?_⟩
  rcases List.mem_or_eq_of_mem_set hw with q | q
  · exact h.2 w q
  · rw [q, List.length_append, List.length_singleton]
    have hmem : W.getD j [] ∈ W := by rw [List.getD_eq_getElem?_getD, List.getElem?_eq_getElem hj]; exact List.getElem_mem hj
    refine ⟨by omega, by omega, fun v hv => ?_⟩
    rcases List.mem_append.mp hv with q | q
    · exact (h.2 _ hmem).2.2 v q
    · rw [List.mem_singleton] at q; rw [q]; exact ⟨Int.le_refl 0, hm⟩
theorem GoodW.more {W : List (List Int)} {m : Int} (h : GoodW W m) : GoodW W (m + 1) := ⟨h.1, fun w hw => ⟨(h.2 w hw).1, (h.2 w hw).2.1, fun v hv => by have := (h.2 w hw).2.2 v hv; omega⟩⟩
theorem ixN_of {n j : Nat} {i : Int} (h : i = (j : Int)) (hj : j < n) : ixN n i = some j := by rw [h]; exact ixN_nat hj
end Mini

namespace Mini
open PySem L2 Evl PyProof.Rows

/-! ### sets of ints: what they are for is their length -/
/-- the different ones, in their first order -/
def dl (ns : List Int) : List Int := ns.foldl (fun acc x => if acc.any (fun y => y == x) = true then acc else acc ++ [x]) []
theorem dl_snoc (ns : List Int) (x : Int) : dl (ns ++ [x]) = if (dl ns).any (fun y => y == x) = true then dl ns else dl ns ++ [x] := by
  unfold dl; rw [List.foldl_append]; rfl
theorem dl_le : ∀ (ns : List Int), (dl ns).length ≤ ns.length := fun ns => by
  suffices h : ∀ (l acc : List Int), (l.foldl (fun acc x => if acc.any (fun y => y == x) = true then acc else acc ++ [x]) acc).length ≤ acc.length + l.length by
    have := h ns []; simp only [List.length_nil, Nat.zero_add] at this; exact this
  intro l
  induction l with
  | nil => intro acc; simp
  | cons a l ih =>
    intro acc
    rw [List.foldl_cons]
    split
    · have := ih acc; rw [List.length_cons]; omega
    · have := ih (acc ++ [a]); rw [List.length_append, List.length_singleton] at this; rw [List.length_cons]; omega
theorem firstMet_dl (ns : List Int) : firstMet (fun i => ns.getD i 0) ns.length = dl ns := by
  have e : (List.range ns.length).map (fun i => ns.getD i 0) = ns := by
    apply List.ext_getElem
    · simp
    · intro i h1 h2; simp [List.getD_eq_getElem?_getD, List.getElem?_eq_getElem h2]
  unfold firstMet
  rw [e]
  rfl
theorem addI_ok {X : Cx} {pins : List (Addr × Obj)} {σ : L2.St} {H : Hp} {s : Shared} {E : Value → Shared → Prop} {D : Addr} {S : Int → Bool} {n : Nat} {y : Int} {tk : Tok} {Q : Value → Shared → Prop} (I : L2.Inv X pins σ H s) (hD : H D = some (SetO X.w D S n)) (hz : n + 1 < scanBound)
    (k : ∀ s', L2.Inv X pins σ (upd H D (SetO X.w D (fun j => S j || decide (j = y)) (if S y = true then n else n + 1))) s' → Q .none s') : wpAny (model X.prog X.w) X.A (call (.builtin "set.add") [.ref D, .int y tk]) Q E s := by
  refine setR_add (setO_get I hD) hz fun h' sb hR => k _ ?_
  have ho : ∃ u, h'.get? D = some u := by
    obtain ⟨o, _, _, _, ho, _⟩ := hR
    exact ⟨o, ho⟩
  exact I.write (by rw [hD]; exact trivial) (.inl rfl) (fun b u ne e => (sb.2 b ne).trans e) ho (setO_new hR)

def tScI (w : World) (wi : TI) (g : TG) (tt : TT) (te : TE) (vs : List Nat) : TE := fun σ H Q => wi σ H fun J H1 => ∀ D, H1 D = none → ∃ W : Nat → Nat → Hp → Prop,
  (∃ m, W 0 m (upd H1 D (SetO w D (fun _ => false) 0))) ∧ ∀ i m H, W i m H → (J.stop i H ∧ Q (.ref D) H) ∨ (J.go i H ∧ ∃ Nx : Hp → Prop, (∀ H', Nx H' → ∃ m', m' < m ∧ W (i + 1) m' H') ∧ ∀ x H', J.yld i H x H' →
    g x (L2.wipe σ vs) H' fun σ2 H2 => L2.wipe σ2 vs = L2.wipe σ vs ∧ tt σ2 H2 fun b H3 => if b = true then te σ2 H3 fun y H4 => ∃ (c : Int) (S : Int → Bool) (n : Nat), y = .int c ∧ H4 D = some (SetO w D S n) ∧ n + 1 < scanBound ∧
      Nx (upd H4 D (SetO w D (fun j => S j || decide (j = c)) (if S c = true then n else n + 1))) else Nx H3)

theorem pe_scI {X : Cx} {elt tg iter : Expr} {ifs : List Expr} {scope : Scope} {own : List (Str × Nat)} {pos : Pos} {wi : TI} {g : TG} {tt : TT} {te : TE} (hc : X.calm = true) (hN : X.N.Nodup) (hi : PI X tg iter wi) (ok : BlkOk X.N X.env.scope scope own)
    (hg : ∀ (s : Shared) (H : Hp) (C : Addr) (cl : List (Str × Addr)) (fp : List Addr), PG (X.blk s H scope (compEnvC scope cl C X.env) fp) tg g)
    (ht : ∀ (s : Shared) (H : Hp) (C : Addr) (cl : List (Str × Addr)) (fp : List Addr), PTs (X.blk s H scope (compEnvC scope cl C X.env) fp) ifs tt)
    (he : ∀ (s : Shared) (H : Hp) (C : Addr) (cl : List (Str × Addr)) (fp : List Addr), PE (X.blk s H scope (compEnvC scope cl C X.env) fp) elt te)
    (hs : ∀ x, foldedSetIterable iter X.env x = pure x := by exact fun _ => rfl) : PE X (.SetComp elt [⟨tg, iter, ifs, 0⟩] scope pos) (tScI X.w wi g tt te (own.map (·.2))) := by
  refine ⟨fun pins s σ H Q I h => ?_⟩
  rw [PpSet.eval_SetComp]
  have hfree : ∀ y ∈ scope.names, y.2 = .free → ∃ c, X.env.cells.lookup y.1 = some c := fun y hy e => by
    rcases ok.free y hy e with k | k
    · exact I.ok.has y.1 (.inl k)
    · exact I.ok.has y.1 (.inr k)
  refine wpAny_comprehension_free rfl hs (closure_ok hfree) ok.kind (fun y hy e => by rw [ok.uniq y hy, e]) ?_
  refine thn (hi.run pins s σ H _ I h) fun xv s1 hx => thn hx fun itv s2 h2 => ?_
  obtain ⟨it, fp, tn, J, H2, rfl, I2, T, st2, f2, q⟩ := h2
  refine PpSet.newSet_ok (newEnv_comp ?_)
  have hDn : H2 s2.heap.objs.size = none := I2.hok.fresh (Nat.le_refl _)
  obtain ⟨W, ⟨m0, w0⟩, turn⟩ := q _ hDn
  have I3 := I2.laid (t' := s2.toks) (h' := s2.heap.push { cls := Value.type "set", data := Data.set #[] 0 (SetTable.fresh 0 0 !X.w.params.followText "set-order") }) (fun b o e => Heap.get?_push_of_some _ e) (Nat.le_refl _) (setO_new (P := X.prog) (H := upd H2 s2.heap.objs.size (SetO X.w s2.heap.objs.size (fun _ => false) 0)) (setR_fresh X.w))
  have sz : ∀ b ∈ fp, b < s2.heap.objs.size := fun b hb => by
    obtain ⟨o, e, _⟩ := T.obj 0 s2.heap st2 b hb
    exact Heap.lt_size e
  generalize hh3 : s2.heap.push { cls := Value.type "set", data := Data.set #[] 0 (SetTable.fresh 0 0 !X.w.params.followText "set-order") } = h3 at I3 ⊢
  have hk3 : ∀ b o, s2.heap.get? b = some o → h3.get? b = some o := fun b o e => by rw [← hh3]; exact Heap.get?_push_of_some _ e
  have hsz : h3.objs.size = s2.heap.objs.size + 1 := by rw [← hh3]; exact Heap.size_push _ _
  have f3 : ∀ b ∈ fp, FpOk X pins (upd H2 s2.heap.objs.size (SetO X.w s2.heap.objs.size (fun _ => false) 0)) b ∧ b < h3.objs.size := fun b hb => by
    have hlt := sz b hb
    obtain ⟨z1, z2⟩ := f2 b hb
    exact ⟨⟨by rw [upd_ne (Nat.ne_of_lt hlt)]; exact z1, z2⟩, by rw [hsz]; exact Nat.lt_succ_of_lt hlt⟩
  have st3 := T.keep 0 s2.heap h3 st2 fun b _ o e => hk3 b o e
  have I4 := block_start I3 ok hN f3
  have nfp : ∀ b ∈ fp, upd H2 s2.heap.objs.size (SetO X.w s2.heap.objs.size (fun _ => false) 0) b = none := fun b hb => (f3 b hb).1.1
  generalize upd H2 s2.heap.objs.size (SetO X.w s2.heap.objs.size (fun _ => false) 0) = H3 at I3 f3 I4 nfp w0
  generalize s2.heap.objs.size = D at turn ⊢
  have pg := hg ⟨h3, s2.gens, s2.drawn, s2.toks, s2.os⟩ H3 h3.objs.size (cellsFrom (h3.objs.size + 1) scope.names (cloFrom X.env.cells scope.names [])) fp
  have pt := ht ⟨h3, s2.gens, s2.drawn, s2.toks, s2.os⟩ H3 h3.objs.size (cellsFrom (h3.objs.size + 1) scope.names (cloFrom X.env.cells scope.names [])) fp
  have pe := he ⟨h3, s2.gens, s2.drawn, s2.toks, s2.os⟩ H3 h3.objs.size (cellsFrom (h3.objs.size + 1) scope.names (cloFrom X.env.cells scope.names [])) fp
  have st4 : tn 0 (pushCells (h3.push { cls := Value.type "dict", data := Data.dict #[] }) scope.names) := T.keep 0 h3 _ st3 fun b _ o e => pushCells_keeps _ _ _ _ (Heap.get?_push_of_some _ e)
  refine (fun loop => PpSet.codeAny_compStart_set loop (T.self X.A 0 _ _ _ st4 loop)) ?_
  refine PpSet.compLoopS_any (fun n s' => ∃ i H', L2.Inv (X.blk ⟨h3, s2.gens, s2.drawn, s2.toks, s2.os⟩ H3 scope (compEnvC scope (cellsFrom (h3.objs.size + 1) scope.names (cloFrom X.env.cells scope.names [])) h3.objs.size X.env) fp) [] (L2.wipe σ (own.map (·.2))) H' s' ∧ tn i s'.heap ∧ (∀ b ∈ fp, H' b = none) ∧ W i n H') (fun n s5 a => ?_) m0 ⟨0, H3, I4, st4, nfp, w0⟩
  obtain ⟨i, H5, I5, st5, n5, w5⟩ := a
  have stat : ∀ {σ' : L2.St} {H' : Hp} {s' : Shared}, L2.Inv (X.blk ⟨h3, s2.gens, s2.drawn, s2.toks, s2.os⟩ H3 scope (compEnvC scope (cellsFrom (h3.objs.size + 1) scope.names (cloFrom X.env.cells scope.names [])) h3.objs.size X.env) fp) [] σ' H' s' → (∀ b ∈ fp, H' b = none) → ∀ b ∈ fp, FpOk (X.blk ⟨h3, s2.gens, s2.drawn, s2.toks, s2.os⟩ H3 scope (compEnvC scope (cellsFrom (h3.objs.size + 1) scope.names (cloFrom X.env.cells scope.names [])) h3.objs.size X.env) fp) [] H' b := fun I' hn b hb =>
    ⟨hn b hb, (I'.ok.exf b hb).1, I'.ok.exfs b hb, .inl hb, fun x c e => (I'.ok.exf b hb).2 x c e, fun p hp => absurd (show p ∈ ([] : List (Addr × Obj)) ++ [] from hp) (by simp)⟩
  rcases turn i n H5 w5 with ⟨stop, qq⟩ | ⟨go, Nx, hNx, step⟩
  · refine thnF (T.done (X.blk ⟨h3, s2.gens, s2.drawn, s2.toks, s2.os⟩ H3 scope (compEnvC scope (cellsFrom (h3.objs.size + 1) scope.names (cloFrom X.env.cells scope.names [])) h3.objs.size X.env) fp) rfl rfl rfl hc i [] s5 _ H5 _ I5 (stat I5 n5) st5 stop) fun r s6 hr => ?_
    obtain ⟨rfl, I6⟩ := hr
    have I7 := Inv.call' I3 I6.os I6.base I6.hok I6.bare fun b hb => ⟨(f3 b hb).1.2.2.2.1, (f3 b hb).1.2.1, (f3 b hb).1.2.2.2.2.1, (f3 b hb).1.2.2.2.2.2⟩
    obtain ⟨m, hn, _⟩ := I6.loc
    have f := Inv.fpOk I3 (Nat.le_refl h3.objs.size) (show H5 h3.objs.size = none from I6.free)
    refine ⟨m, hn, fun h'' sb => ⟨.ref D, H5, Inv.turned I7 (fun b o hb e => (sb.2 b hb).trans e) f.1 f.2.1 f.2.2.2.1 f.2.2.2.2.1 f.2.2.2.2.2, rfl, qq⟩⟩
  · refine thnF (T.item (X.blk ⟨h3, s2.gens, s2.drawn, s2.toks, s2.os⟩ H3 scope (compEnvC scope (cellsFrom (h3.objs.size + 1) scope.names (cloFrom X.env.cells scope.names [])) h3.objs.size X.env) fp) rfl rfl rfl hc i [] s5 _ H5 _ I5 (stat I5 n5) st5 go) fun r s6 hr => ?_
    obtain ⟨u, rfl, h6⟩ := hr
    refine thnF h6 fun _ s7 h7 => ?_
    obtain ⟨x, H7, I7, r7, y7, st7, n7⟩ := h7
    have I7' := Inv.pinned I7 (stat I7 n7) (T.obj (i + 1) s7.heap st7)
    refine thnF (pg.run ([] ++ pinsAt fp s7.heap) s7 _ H7 x u _ I7' r7 (step x H7 y7)) fun _ s8 h8 => ?_
    obtain ⟨σ8, H8, I8, hw8, q8⟩ := h8
    refine thnF (pt.run ([] ++ pinsAt fp s7.heap) s8 σ8 H8 _ I8 q8) fun b s9 h9 => ?_
    obtain ⟨H9, I9, q9⟩ := h9
    have fin : ∀ {s' : Shared} {H' : Hp}, L2.Inv (X.blk ⟨h3, s2.gens, s2.drawn, s2.toks, s2.os⟩ H3 scope (compEnvC scope (cellsFrom (h3.objs.size + 1) scope.names (cloFrom X.env.cells scope.names [])) h3.objs.size X.env) fp) ([] ++ pinsAt fp s7.heap) σ8 H' s' → Nx H' → ∃ m', m' < n ∧ ∃ i H', L2.Inv (X.blk ⟨h3, s2.gens, s2.drawn, s2.toks, s2.os⟩ H3 scope (compEnvC scope (cellsFrom (h3.objs.size + 1) scope.names (cloFrom X.env.cells scope.names [])) h3.objs.size X.env) fp) [] (L2.wipe σ (own.map (·.2))) H' s' ∧ tn i s'.heap ∧ (∀ b ∈ fp, H' b = none) ∧ W i m' H' := fun {s' H'} I' nx => by
      obtain ⟨m', hm, w'⟩ := hNx H' nx
      have pin' : ∀ b ∈ fp, ∀ o, s7.heap.get? b = some o → s'.heap.get? b = some o ∧ H' b = none := fun b hb o e => by
        have z := I'.pin (b, o) (List.mem_append_right _ (List.mem_append_right _ (mem_pinsAt hb e)))
        exact ⟨z.1, z.2.1⟩
      refine ⟨m', hm, i + 1, H', Inv.weak (Inv.unpinned I') (by rw [← hw8]; exact wipe_length _ _) (fun j v e => (wipe_some (by rw [← hw8] at e; exact e)).1), T.keep (i + 1) s7.heap s'.heap st7 fun b hb o e => (pin' b hb o e).1, fun b hb => ?_, w'⟩
      obtain ⟨o, e, _⟩ := T.obj (i + 1) s7.heap st7 b hb
      exact (pin' b hb o e).2
    cases b with
    | false =>
      rw [if_neg Bool.false_ne_true] at q9 ⊢
      exact fin I9 q9
    | true =>
      rw [if_pos rfl] at q9 ⊢
      refine thnF (pe.run ([] ++ pinsAt fp s7.heap) s9 σ8 H9 _ I9 q9) fun v s10 h10 => ?_
      obtain ⟨y, H10, I10, r10, c, S, k, rfl, hD10, hz10, nx⟩ := h10
      obtain ⟨tk, rfl⟩ := r10
      exact addI_ok (X := X.blk ⟨h3, s2.gens, s2.drawn, s2.toks, s2.os⟩ H3 scope (compEnvC scope (cellsFrom (h3.objs.size + 1) scope.names (cloFrom X.env.cells scope.names [])) h3.objs.size X.env) fp) I10 hD10 hz10 fun s11 I11 => fin I11 nx

/-- len of a set of ints -/
def rLenSO (w : World) : List V → Hp → VK → Prop := fun xs H Q => ∃ a S n, xs = [.ref a] ∧ H a = some (SetO w a S n) ∧ Q (.int (n : Nat)) H
theorem call_lenSO {X : Cx} : CallR X (.builtin "len") (rLenSO X.w) := fun pins s σ H xs us Q I r h => by
  obtain ⟨a, S, n, rfl, hD, q⟩ := h
  cases r with
  | cons r1 r2 =>
    cases r2
    cases (show _ = Value.ref a from r1)
    obtain ⟨o, es, ep, t, ho, hx, hd, _, _, _, hb, hf, hn, _⟩ := setO_get I hD
    refine call_len_set ho hx hd hf (by have : scanBound = 4096 := rfl; omega) ?_
    exact ⟨.int (n : Nat), H, I.tok _, ⟨_, by rw [← hn]⟩, q⟩
/-- len(set(xs)) -/
def tLenSetG (K : PySem.W.Frag) (ta : TE) : TE := fun σ H Q => ta σ H fun x H1 => ∃ (l : Addr) (ns : List Int), x = .ref l ∧ SqL K H1 l (ns.map V.int) ∧ ns.length < 4000 ∧ Q (.int (dl ns).length) H1
theorem pe_lenSetG {X : Cx} {a : Expr} {ta : TE} {p p2 q pos : Pos} (hm : X.mg "len" = none) (hm2 : X.mg "set" = none) (ha : PE X a ta) (hc : X.calm = true) (hg : Gl X "len" := by rfl) (hg2 : Gl X "set" := by rfl) (hst : starEach [a] X.env = (false, eval a X.env) :: starEach [] X.env := by rfl) :
    PE X (.Call (.Name "len" p) [.Call (.Name "set" p2) [a] [] q] [] pos) (tLenSetG X.K ta) := by
  refine ⟨fun pins s σ H Q I h => ?_⟩
  refine Call_ (ld_blt I hg hm boot_len (callWith_builtin1 (args_cons (Call_ (ld_blt I hg2 hm2 boot_set (callWith_type1 (args_cons (thn (ha.run pins s σ H _ I h) fun v s1 hh => args_nil ?_) hst) hst))))))
  obtain ⟨x, H1, I1, r1, l, ns, rfl, hq, hl, q1⟩ := hh
  obtain rfl : v = Value.ref l := r1
  obtain ⟨its, r, pl, _⟩ := I1.list hq
  have hlen : its.toArray.size = ns.length := by rw [List.size_toArray, ← r.length, List.length_map]
  refine call_set_list (I1.ok.hd hc) pl.isList (RZ.intsAre_vals r) (by rw [hlen]; have : scanBound = 4096 := rfl; omega) fun h' tk hS hk => args_nil ?_
  rw [hlen, firstMet_dl] at hS
  obtain ⟨o, es, ep, t, ho, hx, hd, _, _, hb, hf, hn⟩ := hS
  refine call_len_set ho hx hd hf (by have : scanBound = 4096 := rfl; omega) ?_
  refine ⟨.int (dl ns).length, H1, I1.kept fun b u e => hk b u (Heap.lt_size e) e, ⟨_, by rw [← hn]⟩, q1⟩

theorem scI_list {w : World} {K : PySem.W.Frag} {a : Addr} {xs : List V} {g : TG} {tt : TT} {te : TE} {vs : List Nat} {σ : L2.St} {H1 : Hp} {D : Addr} {Qd : Hp → Prop} (Pv : Nat → Hp → Prop) (h0 : Pv 0 (upd H1 D (SetO w D (fun _ => false) 0)))
    (hl : ∀ i H, i ≤ xs.length → Pv i H → SqL K H a xs)
    (hs : ∀ i x H, xs[i]? = some x → Pv i H → g x (L2.wipe σ vs) H fun σ2 H2 => L2.wipe σ2 vs = L2.wipe σ vs ∧ tt σ2 H2 fun b H3 => if b = true then te σ2 H3 fun y H4 => ∃ (c : Int) (S : Int → Bool) (n : Nat), y = .int c ∧ H4 D = some (SetO w D S n) ∧ n + 1 < scanBound ∧
      Pv (i + 1) (upd H4 D (SetO w D (fun j => S j || decide (j = c)) (if S c = true then n else n + 1))) else Pv (i + 1) H3)
    (he : ∀ H, Pv xs.length H → Qd H) : ∃ W : Nat → Nat → Hp → Prop, (∃ m, W 0 m (upd H1 D (SetO w D (fun _ => false) 0))) ∧ ∀ i m H, W i m H → ((Itl K a).stop i H ∧ Qd H) ∨ ((Itl K a).go i H ∧ ∃ Nx : Hp → Prop, (∀ H', Nx H' → ∃ m', m' < m ∧ W (i + 1) m' H') ∧ ∀ x H', (Itl K a).yld i H x H' →
    g x (L2.wipe σ vs) H' fun σ2 H2 => L2.wipe σ2 vs = L2.wipe σ vs ∧ tt σ2 H2 fun b H3 => if b = true then te σ2 H3 fun y H4 => ∃ (c : Int) (S : Int → Bool) (n : Nat), y = .int c ∧ H4 D = some (SetO w D S n) ∧ n + 1 < scanBound ∧
      Nx (upd H4 D (SetO w D (fun j => S j || decide (j = c)) (if S c = true then n else n + 1))) else Nx H3) := by
  refine ⟨fun i m H => i ≤ xs.length ∧ m = xs.length - i ∧ Pv i H, ⟨xs.length, Nat.zero_le _, rfl, h0⟩, fun i m H hW => ?_⟩
  obtain ⟨hi, rfl, hP⟩ := hW
  have hL := hl i H hi hP
  by_cases z : i < xs.length
  · refine .inr ⟨⟨xs, xs[i], hL, List.getElem?_eq_getElem z⟩, Pv (i + 1), fun H' p => ⟨xs.length - (i + 1), by omega, by omega, rfl, p⟩, fun x H' hy => ?_⟩
    obtain ⟨rfl, hx⟩ := hy
    exact hs i x _ (hx xs hL) hP
  · have e : i = xs.length := by omega
    subst e
    exact .inl ⟨⟨xs, hL, Nat.le_refl _⟩, he H hP⟩
theorem dl_any (l : List Int) (c : Int) : (l.any fun y => y == c) = decide (c ∈ l) := by
  rw [Bool.eq_iff_iff, List.any_eq_true, decide_eq_true_iff]
  constructor
  · rintro ⟨y, h, e⟩
    rw [beq_iff_eq] at e
    exact e ▸ h
  · exact fun h => ⟨c, h, beq_self_eq_true c⟩
def setL (w : World) (D : Addr) (l : List Int) : HO := SetO w D (fun j => decide (j ∈ dl l)) (dl l).length
theorem setL_snoc {w : World} {D : Addr} {l : List Int} {c : Int} : SetO w D (fun j => decide (j ∈ dl l) || decide (j = c)) (if decide (c ∈ dl l) = true then (dl l).length else (dl l).length + 1) = setL w D (l ++ [c]) := by
  unfold setL
  rw [dl_snoc, dl_any]
  by_cases h : c ∈ dl l
  · rw [decide_eq_true h, if_pos rfl, if_pos rfl]
    have : (fun j => decide (j ∈ dl l) || decide (j = c)) = fun j => decide (j ∈ dl l) := by
      funext j
      by_cases e : j = c
      · rw [e, decide_eq_true h]; rfl
      · rw [decide_eq_false e, Bool.or_false]
    rw [this]
  · rw [decide_eq_false h, if_neg Bool.false_ne_true, if_neg Bool.false_ne_true]
    have : (fun j => decide (j ∈ dl l) || decide (j = c)) = fun j => decide (j ∈ dl l ++ [c]) := by
      funext j
      rw [Bool.eq_iff_iff]
      simp
    rw [this, List.length_append, List.length_singleton]
section
variable {K : PySem.W.Frag} {w : World} {G : Gm} {te tl ta : TE} {j : Nat} {ds : List PyData}
theorem sv_lenSetG {ns : List Int} (ha : Rl ta G (ns.map PyData.int)) (hz : ns.length < 4000) : Sv (tLenSetG K ta) G (isD (.int ((dl ns).length : Nat))) := fun M0 σ B M H Q q => ha M0 σ B M H _ fun a vs B1 e1 d1 hh q1 =>
  ⟨a, ns, rfl, by rw [← DqAll_ints q1]; exact sq_of hh, hz, q _ B1 e1 d1 (.int _)⟩
theorem sv_lenSc (h : Rl tl G ds) (g : PyData → Int) (hj : j < G.length) (hz : ds.length < 4000) (he : ∀ d, d ∈ ds → Sv te (Gv G j d) (isD (.int (g d)))) : Sv (tCB (rLenSO w) (tCons (tScI w (iList K tl) (gName j) tYes te [j]) tNil)) G (isD (.int ((dl (ds.map g)).length : Nat))) := fun M0 σ B M H Q q => h M0 σ B M H _ fun a vs B1 e1 d1 hh q1 => by
  have hlen := DqAll_len q1
  refine ⟨a, rfl, ⟨vs, sq_of hh⟩, fun D hD => ?_⟩
  have hM := (jn_free hD).2
  refine scI_list (xs := vs) (fun i H => ∃ B', H = jn B' (upd M D (setL w D ((ds.take i).map g))) ∧ Ex B1 B' ∧ Dj B' (upd M D (setL w D ((ds.take i).map g)))) ⟨B1, ?_, Ex.refl B1, ?_⟩ (fun i H' _ p => ?_) (fun i x H' hx p => ?_) (fun H' p => ?_)
  · show upd (jn B1 M) D _ = jn B1 (upd M D _)
    rw [← upd_own]
    rfl
  · exact dj_own d1 (jn_free hD).1
  · obtain ⟨B', rfl, e, dj⟩ := p
    refine sq_of ?_
    have hne : a ≠ D := fun z => by rw [z, hD] at hh; cases hh
    unfold jn at hh ⊢
    rw [upd_ne hne]
    cases z : M a with
    | some u => rw [z] at hh; exact hh
    | none => rw [z] at hh; exact e _ _ hh
  · obtain ⟨B', rfl, e, dj⟩ := p
    obtain ⟨d, hd, px⟩ := DqAll_getV q1 hx
    have hi := (List.getElem?_eq_some_iff.mp hd).1
    refine ⟨wipe_one σ j x, ?_⟩
    have hB' : B' D = none := dj_free dj upd_same
    have djM : Dj B' M := fun b u z => by
      have := dj b u z
      by_cases y : b = D
      · rw [y]; exact hM
      · rw [upd_ne y] at this; exact this
    have H2 : Holds M0 (Gv G j d) ((L2.wipe σ [j]).set j (some x)) B' (upd M D (setL w D ((ds.take i).map g))) := by
      have h1 := (((H.ext e1 d1).ext e djM).wipes [j]).more (p := D) (o := setL w D ((ds.take i).map g)) (show jn B' M D = none by rw [jn_N hM]; exact hB')
      exact h1.setIm (by show j < (G.set j .no).length; rw [List.length_set]; exact hj) (Dq_ex e d x px)
    refine st_yes M0 _ _ _ H2 _ fun B3 e3 d3 => ?_
    rw [if_pos rfl]
    refine he d (List.mem_of_getElem? hd) M0 _ _ _ (H2.ext e3 d3) _ fun v B4 e4 d4 p4 => ?_
    refine ⟨g d, fun j => decide (j ∈ dl ((ds.take i).map g)), (dl ((ds.take i).map g)).length, dp_int p4, jn_M upd_same, ?_, ?_⟩
    · have := dl_le ((ds.take i).map g)
      rw [List.length_map, List.length_take] at this
      have : scanBound = 4096 := rfl
      omega
    · have es : (ds.take (i + 1)).map g = (ds.take i).map g ++ [g d] := by rw [List.take_succ, hd, List.map_append]; rfl
      refine ⟨B4, ?_, (e.trans e3).trans e4, ?_⟩
      · rw [upd_own, upd_upd, setL_snoc, es]
      · intro b u z
        have := d4 b u z
        by_cases y : b = D
        · rw [y, upd_same] at this; cases this
        · rw [upd_ne y] at this ⊢; exact this
  · obtain ⟨B', rfl, e, dj⟩ := p
    rw [hlen, List.take_length] at *
    have hB' : B' D = none := dj_free dj upd_same
    refine ⟨D, _, _, rfl, jn_M upd_same, ?_⟩
    rw [jn_push hM]
    exact q _ _ ((e1.trans e).trans (ex_new (M := M) (by rw [jn_N hM]; exact hB'))) (dj_push dj hM) (.int _)
end
end Mini

namespace Mini
open PySem L2 Evl PyProof.Rows

/-! ### t[::-1] of a tuple -/
theorem rev_places (n : Nat) : Builtin.Slice.slicePlaces ((n : Int) - 1) (-1) (-1) = n := by
  unfold Builtin.Slice.slicePlaces
  rw [if_neg (by omega)]
  by_cases h : (n : Int) - 1 > -1
  · rw [if_pos h]
    have : ((n : Int) - 1 - -1 - 1) / - -1 + 1 = n := by rw [Int.neg_neg, Int.ediv_one]; omega
    rw [this]; rfl
  · rw [if_neg h]; omega
theorem sliceApplied_rev {prog : Program} {w : World} {A : Around} {E : Value → Shared → Prop} {s : Shared} {sl : Addr} {st : Value} {n : Nat} {Q : Int × Int × Nat → Shared → Prop} (hs : s.heap.IsSliceOf sl .none .none st) (hp : IsPart st (some (-1))) (q : Q ((n : Int) - 1, -1, n) s) :
    wpAny (model prog w) A (Builtin.Slice.sliceApplied (.ref sl) (pure (n : Int))) Q E s := by
  obtain ⟨o, h1, _, h2⟩ := hs
  unfold Builtin.Slice.sliceApplied Builtin.Slice.sliceFields
  refine wpAny_bind (wpAny_bind (wpAny_field (i := 0) h1 h2 rfl (wpAny_bind (wpAny_field (i := 1) h1 h2 rfl (wpAny_bind (wpAny_field (i := 2) h1 h2 rfl (wpAny_pure ?_)))))))
  refine wpAny_bind (HT.slicePart_ hp ?_)
  rw [if_neg (by decide)]
  refine wpAny_bind (slicePart_none (wpAny_bind (slicePart_none (wpAny_bind (wpAny_pure (wpAny_pure ?_))))))
  have e : Builtin.Slice.sliceAdjust none none (-1) (n : Int) = ((n : Int) - 1, -1) := rfl
  show Q ((n : Int) - 1, -1, Builtin.Slice.slicePlaces ((n : Int) - 1) (-1) (-1)) s
  rw [rev_places]
  exact q
theorem rev_pick (xs : List Value) : (List.range xs.length).filterMap (fun k : Nat => xs.toArray[(((xs.length : Nat) : Int) - 1 + (k : Int) * (-1)).toNat]?) = xs.reverse := by
  have h : ∀ k ∈ List.range xs.length, (fun k : Nat => xs.toArray[(((xs.length : Nat) : Int) - 1 + (k : Int) * (-1)).toNat]?) k = some (xs.reverse.getD k .none) := fun k hk => by
    have hk := List.mem_range.mp hk
    have e : (((xs.length : Nat) : Int) - 1 + (k : Int) * (-1)).toNat = xs.length - 1 - k := by omega
    show xs.toArray[_]? = _
    rw [e, List.getElem?_toArray, List.getD_eq_getElem?_getD, List.getElem?_reverse hk, List.getElem?_eq_getElem (by omega)]
    rfl
  have f : ∀ (l : List Nat), (∀ k ∈ l, xs.toArray[(((xs.length : Nat) : Int) - 1 + ((k : Nat) : Int) * (-1)).toNat]? = some (xs.reverse.getD k .none)) → l.filterMap (fun k : Nat => xs.toArray[(((xs.length : Nat) : Int) - 1 + (k : Int) * (-1)).toNat]?) = l.map fun k => xs.reverse.getD k .none := by
    intro l
    induction l with
    | nil => intro _; rfl
    | cons a l ih => intro g; rw [List.filterMap_cons, g a List.mem_cons_self, List.map_cons, ih fun k hk => g k (List.mem_cons_of_mem _ hk)]
  rw [f _ h]
  apply List.ext_getElem
  · simp
  · intro i h1 h2
    simp [List.getD_eq_getElem?_getD, List.getElem?_eq_getElem h2]
theorem getItem_tup_rev {prog : Program} {w : World} {A : Around} {E : Value → Shared → Prop} {s : Shared} {t sl : Addr} {xs : List Value} {st : Value} {Q : Value → Shared → Prop} (ht : IsTup s.heap t xs.toArray) (hs : s.heap.IsSliceOf sl .none .none st) (hp : IsPart st (some (-1)))
    (q : Q (.ref s.heap.objs.size) ⟨s.heap.push { cls := .type "tuple", data := Data.seq xs.reverse.toArray }, s.gens, s.drawn, s.toks, s.os⟩) (hz : xs.length ≤ sizeLine) : wpAny (model prog w) A (getItem (.ref t) (.ref sl)) Q E s := by
  have hsl : s.TypeIs (.ref sl) "slice" := by
    obtain ⟨o, h1, h2, h3⟩ := hs
    exact ⟨o, h1, h2⟩
  refine wpAny_getItem_slot ht.typeIs (by decide) slot_tuple_getitem (wpAny_call_entry slot_tuple_getitem ht.typeIs entry_tuple_getitem ?_ (args_tuple_getitem _ _))
  show wpAny _ _ (Builtin.Tuple.tupleItemsOf (.ref t) >>= _) _ _ _
  refine wpAny_bind (tupleItemsOf_ ht (wpAny_bind (wpAny_typeOf hsl ?_)))
  rw [if_pos (by decide)]
  refine wpAny_bind ?_
  rw [List.size_toArray]
  refine sliceApplied_rev hs hp ?_
  dsimp only
  rw [if_neg (by simp)]
  rw [rev_pick]
  refine wpAny_bind (wpAny_newObj_type ?_ (by show xs.reverse.toArray.size ≤ sizeLine; rw [List.size_toArray, List.length_reverse]; exact hz))
  exact wpAny_pure ⟨_, rfl, q⟩

def tRevT (K : PySem.W.Frag) (te : TE) : TE := fun σ H Q => te σ H fun x H1 => ∃ a xs, x = .ref a ∧ SqT K H1 a xs ∧ ∀ p, H1 p = none → Q (.ref p) (upd H1 p (.tup xs.reverse))
theorem pe_revT {X : Cx} {K : PySem.W.Frag} {e : Expr} {te : TE} {k : Nat} {p1 p2 p3 pos : Pos} (he : PE X e te) (hK : X.K = K := by rfl) : PE X (.Subscript e (.Slice none none (some (.UnaryOp .USub (.Constant (.int 1) k p1) p2)) p3) pos) (tRevT K te) := by
  subst hK
  refine ⟨fun pins s σ H Q I h => ?_⟩
  refine Subscript_ (thn (he.run pins s σ H _ I h) fun v s1 hh => ?_)
  obtain ⟨x, H1, I1, rx, a, xs, rfl, hx, q⟩ := hh
  obtain rfl : v = Value.ref a := rx
  have hst : PO X (some (.UnaryOp .USub (.Constant (.int 1) k p1) p2)) (tPart (tUn (rU fun i => .int (-i)) (tC (.int 1)))) := po_some (pe_un un_neg pe_int)
  refine wpAny_Slice (thn (po_none.run pins s1 σ H1 (fun o H2 => o = none ∧ H2 = H1) I1 ⟨rfl, rfl⟩) fun vl s2 h2 => ?_)
  obtain ⟨_, _, I2, pl, rfl, rfl⟩ := h2
  refine thn (po_none.run pins s2 σ _ (fun o H2 => o = none ∧ H2 = _) I2 ⟨rfl, rfl⟩) fun vu s3 h3 => ?_
  obtain ⟨_, _, I3, pu, rfl, rfl⟩ := h3
  refine thn (hst.run pins s3 σ _ (fun o H4 => o = some (-1) ∧ H4 = _) I3 ⟨1, rfl, -1, rfl, rfl, rfl⟩) fun vs s4 h4 => ?_
  obtain ⟨_, _, I4, ps, rfl, rfl⟩ := h4
  cases pl
  cases pu
  have I5 := I4.kept (t' := s4.toks) (h' := s4.heap.push { cls := Value.type "slice", data := Data.fields #[.none, .none, vs] }) fun b ob q => Heap.get?_push_of_some _ q
  obtain ⟨its, r, ht, hz⟩ := I5.tuple hx
  refine tail_any ht.typeIs slot_tuple_getitem.lookup ?_ rfl
  refine getItem_tup_rev ht (Heap.IsSliceOf.new _ _ _ _) ps ?_ (by rw [← r.length]; exact hz)
  refine ⟨.ref _, _, I5.laid (fun b o e => Heap.get?_push_of_some _ e) (Nat.le_refl _) ?_, rfl, q _ (I5.hok.fresh (Nat.le_refl _))⟩
  exact ⟨by rw [List.length_reverse]; exact hz, _, r.reverse, IsTup.new _ _⟩
section
variable {K : PySem.W.Frag} {G : Gm} {ta : TE} {ds : List PyData}
theorem DqAll_rev {B : Hp} : ∀ {ds : List PyData} {vs : List V}, DqAll B vs ds → DqAll B vs.reverse ds.reverse
  | [], _, h => by cases h; exact .nil
  | d :: ds, _, h => by
    cases h with
    | cons a b => rw [List.reverse_cons, List.reverse_cons]; exact DqAll_append (DqAll_rev b) (.cons a .nil)
theorem sv_revT (ha : Sv ta G (isD (.tuple ds))) : Sv (tRevT K ta) G (isD (.tuple ds.reverse)) := fun M0 σ B M H Q q => ha M0 σ B M H _ fun x B1 e1 d1 p1 => by
  obtain ⟨a, vs, rfl, h1, q1⟩ := dq_tup p1
  refine ⟨a, vs, rfl, st_of (jn_B d1 h1), fun p hp => ?_⟩
  rw [upd_new hp]
  exact q _ _ (e1.trans (ex_new hp)) (dj_new d1 hp) (.tup upd_same (DqAll_ex (ex_new hp) (DqAll_rev q1)))
end
end Mini

namespace Mini
open PySem L2 Evl PyProof.Rows

/-! ### a, b, c = a list -/
theorem drawL {prog : Program} {w : World} {A : Around} {E : Value → Shared → Prop} {it l : Addr} {items : Array Value} (ne : l ≠ it) : ∀ (n i : Nat) (s : Shared) (Q : List Value → Shared → Prop), s.heap.IsListIter it l i → s.heap.IsList l items → i + n ≤ items.size →
    (∀ h' : Heap, h'.IsListIter it l (i + n) → Heap.SameBut it s.heap h' → Q ((items.toList.drop i).take n) ⟨h', s.gens, s.drawn, s.toks, s.os⟩) → wpAny (model prog w) A (draw (.ref it) n) Q E s
  | 0, i, s, Q, hi, hl, hn, q => by
    rw [draw]
    refine wpAny_pure ?_
    have := q s.heap hi ⟨rfl, fun _ _ => rfl⟩
    rw [List.take_zero] at this
    exact this
  | n + 1, i, s, Q, hi, hl, hn, q => by
    rw [draw]
    have hlt : i < items.size := by omega
    refine wpAny_bind (wpAny_pyNext_list_item hi hl (Array.getElem?_eq_getElem hlt) fun h' hi' sb => ?_)
    refine wpAny_bind (wpAny_holding ?_)
    have hl' : h'.IsList l items := by
      obtain ⟨o, a, b⟩ := hl
      exact ⟨o, (sb.2 l ne).trans a, b⟩
    refine drawL ne n (i + 1) _ _ hi' hl' (by omega) fun h2 hi2 sb2 => wpAny_pure ?_
    have e : (items.toList.drop i).take (n + 1) = items[i] :: (items.toList.drop (i + 1)).take n := by
      rw [List.drop_eq_getElem_cons (by rw [Array.length_toList]; exact hlt), List.take_succ_cons]
      rfl
    have := q h2 (by rw [show i + (n + 1) = i + 1 + n by omega]; exact hi2) ⟨sb2.1.trans sb.1, fun b hb => (sb2.2 b hb).trans (sb.2 b hb)⟩
    rw [e] at this
    exact this
theorem unpackItemsL {prog : Program} {w : World} {A : Around} {E : Value → Shared → Prop} {s : Shared} {l : Addr} {items : Array Value} {Q : List Value → Shared → Prop} (hA : A.handled = none) (hl : s.heap.IsList l items)
    (q : ∀ h', Heap.ExtBut s.heap.objs.size s.heap h' → Q items.toList ⟨h', s.gens, s.drawn, s.toks, s.os⟩) : wpAny (model prog w) A (unpackItems (.ref l) items.size none) Q E s := by
  have hlt : l < s.heap.objs.size := by
    obtain ⟨o, a, _⟩ := hl
    exact Heap.lt_size a
  unfold unpackItems notIterableAtAll
  refine wpAny_bind (wpAny_bind (wpAny_specialOf hl.typeIs F.slot_list_iter.lookup ?_))
  rw [if_pos (show (some (Value.builtin "list.__iter__")).isSome = true from rfl)]
  refine wpAny_pure ?_
  rw [if_neg Bool.false_ne_true]
  refine wpAny_bind (wpAny_holding (wpAny_pyIter_list hl ?_))
  refine wpAny_bind (wpAny_holding ?_)
  have hl1 : (s.heap.push { cls := .type "list_iterator", data := Data.fields #[.ref l, .int 0 0] }).IsList l items := by
    obtain ⟨o, a, b⟩ := hl
    exact ⟨o, Heap.get?_push_of_some _ a, b⟩
  refine drawL (l := l) (items := items) (Nat.ne_of_lt hlt) items.size 0 _ _ ⟨_, Heap.get?_push_size _ rfl, rfl, rfl⟩ hl1 (by omega) fun h1 hi1 sb1 => ?_
  have e : (items.toList.drop 0).take items.size = items.toList := by rw [List.drop_zero, List.take_of_length_le (by rw [Array.length_toList]; exact Nat.le_refl _)]
  rw [e]
  have hlen : ¬ items.toList.length < items.size := by rw [Array.length_toList]; exact Nat.lt_irrefl _
  rw [if_neg hlen]
  have hl2 : h1.IsList l items := by
    obtain ⟨o, a, b⟩ := hl1
    exact ⟨o, (sb1.2 l (Nat.ne_of_lt hlt)).trans a, b⟩
  refine wpAny_bind (wpAny_holding (wpAny_pyNext_list_end (items := items) hA hi1 hl2 (by rw [Nat.zero_add]; exact Array.getElem?_eq_none (Nat.le_refl _)) fun h2 ex => ?_))
  refine wpAny_pure (q h2 fun b o ne hb => ex b o ne ((sb1.2 b ne).trans (Heap.get?_push_of_some _ hb)))
def gTupL (K : PySem.W.Frag) (n : Nat) (t : TGs) : TG := fun v σ H Q => ∃ a xs, v = .ref a ∧ SqL K H a xs ∧ xs.length = n ∧ t xs σ H Q
theorem pg_tupL {X : Cx} {pos : Pos} {es : List Expr} {k n : Nat} {t : TGs} (hc : X.calm = true) (h : PGs X es t) (hn : (assignEach es X.env).length = n := by rfl) (hs : (assignEach es X.env).findIdx? (fun x => x.1) = none := by rfl) : PG X (.Tuple es k pos) (gTupL X.K n t) := by
  refine ⟨fun pins s σ H v u Q I r hh => ?_⟩
  obtain ⟨a, xs, rfl, hx, hl, q⟩ := hh
  obtain rfl : u = Value.ref a := r
  obtain ⟨its, rv, pl, _⟩ := I.list hx
  have hz : n = its.toArray.size := by rw [List.size_toArray, ← rv.length, hl]
  show wpAny _ _ (do standAt pos; unpack (.ref a) (assignEach es X.env)) _ _ _
  refine wpAny_bind (wpAny_standAt ?_)
  unfold unpack
  rw [hs, hn, hz]
  refine wpAny_bind (wpAny_holding (unpackItemsL (I.ok.hd hc) pl.isList fun h' ex => ?_))
  exact h.run pins _ σ H xs its _ (I.kept fun b o e => ex b o (Nat.ne_of_lt (Heap.lt_size e)) e) rv q

/-! ### lists of typed things -/
inductive AllP (B : Hp) : List V → List Ty → Prop where
  | nil : AllP B [] []
  | cons {v P vs Ps} : P.p v B → AllP B vs Ps → AllP B (v :: vs) (P :: Ps)
theorem AllP.ext {B B' : Hp} (e : Ex B B') {vs : List V} {Ps : List Ty} (h : AllP B vs Ps) : AllP B' vs Ps := by
  induction h with
  | nil => exact .nil
  | cons a _ ih => exact .cons (Ty.mono _ e a) ih
theorem AllP.len {B : Hp} {vs : List V} {Ps : List Ty} (h : AllP B vs Ps) : vs.length = Ps.length := by
  induction h with
  | nil => rfl
  | cons a _ ih => simp [ih]
theorem AllP.snoc {B : Hp} {vs : List V} {Ps : List Ty} (h : AllP B vs Ps) {v : V} {P : Ty} (p : P.p v B) : AllP B (vs ++ [v]) (Ps ++ [P]) := by
  induction h with
  | nil => exact .cons p .nil
  | cons a _ ih => exact .cons a ih
theorem AllP.get {B : Hp} {vs : List V} {Ps : List Ty} (h : AllP B vs Ps) {i : Nat} {v : V} (e : vs[i]? = some v) : ∃ P, Ps[i]? = some P ∧ P.p v B := by
  induction h generalizing i with
  | nil => simp at e
  | @cons u P us Qs a b ih =>
    cases i with
    | zero => simp at e; subst e; exact ⟨P, rfl, a⟩
    | succ i => exact ih e
def isQ (Ps : List Ty) : Ow := ⟨fun _ o B => ∃ vs, o = .lst vs ∧ AllP B vs Ps, fun e ⟨vs, h, q⟩ => ⟨vs, h, q.ext e⟩⟩
def isQI (Ps : List Ty) : Ty := ⟨fun v B => ∃ a vs, v = .ref a ∧ B a = some (.lst vs) ∧ AllP B vs Ps, fun e ⟨a, vs, h1, h2, h3⟩ => ⟨a, vs, h1, e _ _ h2, h3.ext e⟩⟩
section
variable {K : PySem.W.Frag} {E : L2.St → XK} {G : Gm} {te tl ta tb tc : TE} {tt : TT} {ts : TS} {o : Out} {P : Ty} {Ps : List Ty} {n i j l : Nat} {ds es fs : List PyData}
theorem ss_ownQ (h : G[n]? = some (.ow (isL []))) (k : Ss E ts (G.set n (.ow (isQ []))) o) : Ss E ts G o := fun M0 D σ B M H q => by
  obtain ⟨l, ob, a, c, ⟨vs, rfl, r⟩, f⟩ := H.ow n _ h
  cases r
  have H' := H.change (R' := isQ []) (o' := .lst []) h a c ⟨[], rfl, .nil⟩
  have e : upd M l (.lst []) = M := by
    funext b
    by_cases z : b = l
    · rw [z, upd_same, c]
    · rw [upd_ne z]
  rw [e] at H'
  exact k M0 D σ B M H' q
theorem ss_freezeQ (h : G[n]? = some (.ow (isQ Ps))) (k : Ss E ts (G.set n (.im (isQI Ps))) o) : Ss E ts G o := fun M0 D σ B M H q => by
  obtain ⟨l, ob, a, c, ⟨vs, rfl, r⟩, f⟩ := H.ow n _ h
  obtain ⟨H', ex⟩ := H.freeze h a c (P := isQI Ps) ⟨l, vs, rfl, upd_same, r.ext (Ex.new (dj_free H.dj c))⟩
  have k' := k M0 D σ _ _ H' (q.ext ex)
  rw [jn_del c] at k'
  exact k'
theorem ss_appendQ (h : G[n]? = some (.ow (isQ Ps))) (he : Sv te G P) (hz : Ps.length < sizeLine) : Ss E (tDrop (tBM K "list" rAppend (tVar n) (tCons te tNil))) G (.nx (G.set n (.ow (isQ (Ps ++ [P]))))) := fun M0 D σ B M H q => by
  obtain ⟨l, ob, a, c, ⟨vs, rfl, r⟩, f⟩ := H.ow n _ h
  refine ⟨.ref l, a, Or.inl ⟨rfl, vs, sq_of (jn_M c)⟩, ?_⟩
  refine he M0 σ B M H _ fun v B' e dj p => ?_
  refine ⟨l, vs, v, rfl, rfl, jn_M c, by rw [r.len]; exact hz, ?_⟩
  rw [upd_own]
  exact q σ B' _ e ((H.ext e dj).change h a c ⟨_, rfl, (r.ext e).snoc p⟩)
theorem ss_unp3 {P1 P2 P3 : Ty} (h : Sv te G (isQI [P1, P2, P3])) (hi : i < G.length := by exact Nat.le_of_ble_eq_true rfl) (hj : j < G.length := by exact Nat.le_of_ble_eq_true rfl) (hl : l < G.length := by exact Nat.le_of_ble_eq_true rfl) :
    Ss E (tAsg te (gTupL K 3 (gCons (gName i) (gCons (gName j) (gCons (gName l) gNil))))) G (.nx (((G.set i (.im P1)).set j (.im P2)).set l (.im P3))) := fun M0 D σ B M H q => by
  refine h M0 σ B M H _ fun v B' e dj p => ?_
  obtain ⟨a, vs, rfl, h1, h2⟩ := p
  cases h2 with
  | cons p1 h2 => cases h2 with
    | cons p2 h2 => cases h2 with
      | cons p3 h2 =>
        cases h2
        refine ⟨a, _, rfl, sq_of (jn_B dj h1), rfl, _, _, rfl, _, _, rfl, _, _, rfl, rfl, ?_⟩
        exact q _ B' M e ((((H.ext e dj).setIm hi p1).setIm (by rw [List.length_set]; exact hj) p2).setIm (by rw [List.length_set, List.length_set]; exact hl) p3)
end
end Mini

namespace Mini
open PySem L2 Evl PyProof.Rows

/-! ### more comprehensions -/
/-- over typed things -/
def GvP (G : Gm) (j : Nat) (P : Ty) : Gm := (wipeG G [j]).set j (.im P)
section
variable {K : PySem.W.Frag} {G : Gm} {te tl twi : TE} {j l : Nat} {ds : List PyData} {Ps : List Ty}
theorem svl_lcQ (h : Sv tl G (isQI Ps)) (y : Nat → PyData) (hj : j < G.length) (hz : Ps.length < 10000000) (he : ∀ i P, Ps[i]? = some P → Sv te (GvP G j P) (isD (y i))) : Svl (tLc (iList K tl) (gName j) tYes te [j]) G ((List.range Ps.length).map y) := fun M0 σ B M H Q q => h M0 σ B M H _ fun v B1 e1 d1 p1 => by
  obtain ⟨a, vs, rfl, hh, q1⟩ := p1
  have hlen := q1.len
  refine ⟨a, rfl, ⟨vs, sq_of (jn_B d1 hh)⟩, fun Dl hD => ?_⟩
  have hM := (jn_free hD).2
  refine lc_list (xs := vs) (Pvc B1 M Dl fun i => (List.range i).map y) ⟨B1, [], by rw [upd_own], Ex.refl B1, dj_own d1 (jn_free hD).1, .nil⟩ (fun i H' _ p => ?_) (fun i x H' hx p => ?_) (fun H' p => ?_)
  · obtain ⟨B', acc, rfl, e, dj, _⟩ := p
    exact sq_of (jn_B dj (e _ _ hh))
  · obtain ⟨B', acc, rfl, e, dj, ha⟩ := p
    obtain ⟨P, hP, px⟩ := q1.get hx
    have hi := (List.getElem?_eq_some_iff.mp hP).1
    refine ⟨wipe_one σ j x, ?_⟩
    have hB' : B' Dl = none := dj_free dj upd_same
    have djM : Dj B' M := fun a u q => by
      have := dj a u q
      by_cases z : a = Dl
      · rw [z]; exact hM
      · rw [upd_ne z] at this; exact this
    have H2 : Holds M0 (GvP G j P) ((L2.wipe σ [j]).set j (some x)) B' (upd M Dl (.lst acc)) := by
      have h1 := (((H.ext e1 d1).ext e djM).wipes [j]).more (p := Dl) (o := .lst acc) (show jn B' M Dl = none by rw [jn_N hM]; exact hB')
      exact h1.setIm (by show j < (G.set j .no).length; rw [List.length_set]; exact hj) (P.mono e px)
    refine st_yes M0 _ _ _ H2 _ fun B3 e3 d3 => ?_
    rw [if_pos rfl]
    refine he i P hP M0 _ _ _ (H2.ext e3 d3) _ fun v B4 e4 d4 p4 => ?_
    refine ⟨acc, jn_M upd_same, by rw [DqAll_len ha, List.length_map, List.length_range, sizeLine_eq]; omega, ?_⟩
    rw [upd_own, upd_upd]
    refine ⟨B4, acc ++ [v], rfl, (e.trans e3).trans e4, ?_, ?_⟩
    · intro a u q
      have := d4 a u q
      by_cases z : a = Dl
      · rw [z, upd_same] at this; cases this
      · rw [upd_ne z] at this ⊢; exact this
    · show DqAll B4 (acc ++ [v]) ((List.range (i + 1)).map y)
      rw [List.range_succ, List.map_append]
      exact DqAll_append (DqAll_ex (e3.trans e4) ha) (.cons p4 .nil)
  · rw [hlen] at p
    exact lc_end hM (Ex.refl _) (fun p vs B' e dj hf hv => q p vs B' (e1.trans e) dj hf hv) H' p
theorem tyes_ite {σ : L2.St} {H : Hp} {A B : Hp → Prop} (h : A H) : tYes σ H (fun b H3 => if b = true then A H3 else B H3) := by
  show (if true = true then A H else B H)
  rw [if_pos rfl]; exact h
/-- two loops over tuples, the inner thing itself -/
def Gv2 (G : Gm) (j l : Nat) (d : PyData) : Gm := (wipeG G [j, l]).set j (.im (isD d))
theorem wipe_two (σ : L2.St) {j l : Nat} (h : j ≠ l) (x : V) : L2.wipe ((L2.wipe σ [j, l]).set j (some x)) [j, l] = L2.wipe σ [j, l] := by
  show ((((σ.set l none).set j none).set j (some x)).set l none).set j none = (σ.set l none).set j none
  rw [List.set_set, List.set_comm _ _ h, List.set_set, List.set_set]
theorem svl_lc2T (h : Sv tl G (isD (.tuple ds))) (es : PyData → List PyData) (hj : j < G.length) (hl : l < G.length) (hjl : j ≠ l) (hz : (ds.flatMap es).length < 10000000) (hi : ∀ d ∈ ds, Sv twi (Gv2 G j l d) (isD (.tuple (es d)))) :
    Svl (tLc2 (iTup K tl) (gName j) tYes (iTup K twi) (gName l) tYes (tVar l) [j, l] [l]) G (ds.flatMap es) := fun M0 σ B M H Q q => h M0 σ B M H _ fun v B1 e1 d1 p1 => by
  obtain ⟨a, vs, rfl, hh, q1⟩ := dq_tup p1
  have hlen := DqAll_len q1
  refine ⟨a, rfl, ⟨vs, st_of (jn_B d1 hh)⟩, fun Dl hD => ?_⟩
  have hM := (jn_free hD).2
  refine ⟨fun i m H' => i ≤ vs.length ∧ m = vs.length - i ∧ Pvc B1 M Dl (fun i => (ds.take i).flatMap es) i H', ⟨vs.length, Nat.zero_le _, rfl, B1, [], by rw [upd_own], Ex.refl B1, dj_own d1 (jn_free hD).1, .nil⟩, fun i m H' hW => ?_⟩
  obtain ⟨hle, rfl, B', acc, rfl, e, dj, ha⟩ := hW
  have hB' : B' Dl = none := dj_free dj upd_same
  have djM : Dj B' M := fun a u q => by
    have := dj a u q
    by_cases z : a = Dl
    · rw [z]; exact hM
    · rw [upd_ne z] at this; exact this
  have hS : SqT K (jn B' (upd M Dl (.lst acc))) a vs := st_of (jn_B dj (e _ _ hh))
  by_cases z : i < vs.length
  · refine .inr ⟨⟨vs, vs[i], hS, List.getElem?_eq_getElem z⟩, fun H' => Pvc B1 M Dl (fun i => (ds.take i).flatMap es) (i + 1) H', fun H' p => ⟨vs.length - (i + 1), by omega, by omega, rfl, p⟩, fun x H' hy => ?_⟩
    obtain ⟨rfl, hx⟩ := hy
    obtain ⟨d, hd, px⟩ := DqAll_getV q1 (hx vs hS)
    refine ⟨wipe_two σ hjl x, ?_⟩
    have H2 : Holds M0 (Gv2 G j l d) ((L2.wipe σ [j, l]).set j (some x)) B' (upd M Dl (.lst acc)) := by
      have h1 := (((H.ext e1 d1).ext e djM).wipes [j, l]).more (p := Dl) (o := .lst acc) (show jn B' M Dl = none by rw [jn_N hM]; exact hB')
      exact h1.setIm (by show j < ((G.set l .no).set j .no).length; rw [List.length_set, List.length_set]; exact hj) (Dq_ex e d x px)
    refine st_yes M0 _ _ _ H2 _ fun B3 e3 d3 => ?_
    rw [if_pos rfl]
    refine hi d (List.mem_of_getElem? hd) M0 _ _ _ (H2.ext e3 d3) _ fun v B4 e4 d4 p4 => ?_
    obtain ⟨b, us, rfl, hb, q4⟩ := dq_tup p4
    have hlu := DqAll_len q4
    have hlt : ((ds.take (i + 1)).flatMap es) = (ds.take i).flatMap es ++ es d := by rw [List.take_succ, hd, List.flatMap_append]; simp
    have htot : ((ds.take i).flatMap es).length + (es d).length < 10000000 := by
      rw [← List.length_append, ← hlt]
      have e2 : ds.flatMap es = (ds.take (i + 1)).flatMap es ++ (ds.drop (i + 1)).flatMap es := by rw [← List.flatMap_append, List.take_append_drop]
      rw [e2, List.length_append] at hz
      omega
    refine ⟨b, rfl, ⟨us, st_of (jn_B d4 hb)⟩, ?_⟩
    refine ⟨fun r k H' => r ≤ us.length ∧ k = us.length - r ∧ ∃ B5 acc5, H' = jn B5 (upd M Dl (.lst acc5)) ∧ Ex B4 B5 ∧ Dj B5 (upd M Dl (.lst acc5)) ∧ DqAll B5 acc5 ((ds.take i).flatMap es ++ (es d).take r), ⟨us.length, Nat.zero_le _, rfl, B4, acc, rfl, Ex.refl _, d4, ?_⟩, fun r k H' hW1 => ?_⟩
    · rw [List.take_zero, List.append_nil]
      exact DqAll_ex (e3.trans e4) ha
    obtain ⟨hr, rfl, B5, acc5, rfl, e5, dj5, ha5⟩ := hW1
    have hS5 : SqT K (jn B5 (upd M Dl (.lst acc5))) b us := st_of (jn_B dj5 (e5 _ _ hb))
    by_cases zr : r < us.length
    · refine .inr ⟨⟨us, us[r], hS5, List.getElem?_eq_getElem zr⟩, fun H' => ∃ B5 acc5, H' = jn B5 (upd M Dl (.lst acc5)) ∧ Ex B4 B5 ∧ Dj B5 (upd M Dl (.lst acc5)) ∧ DqAll B5 acc5 ((ds.take i).flatMap es ++ (es d).take (r + 1)), fun H' p => ⟨us.length - (r + 1), by omega, by omega, rfl, p⟩, fun y H' hy => ?_⟩
      obtain ⟨rfl, hy⟩ := hy
      obtain ⟨f, hf, py⟩ := DqAll_getV q4 (hy us hS5)
      refine ⟨wipe_one _ l y, ?_⟩
      refine tyes_ite ?_
      have hll : l < ((((σ.set l none).set j none).set j (some x)).set l none).length := by
        rw [List.length_set, List.length_set, List.length_set, List.length_set, H.len]; exact hl
      refine ⟨y, List.getElem?_set_self hll, acc5, jn_M upd_same, ?_, ?_⟩
      · rw [DqAll_len ha5, List.length_append, List.length_take, sizeLine_eq]; omega
      · rw [upd_own, upd_upd]
        refine ⟨B5, acc5 ++ [y], rfl, e5, ?_, ?_⟩
        · intro a u q
          have := dj5 a u q
          by_cases z : a = Dl
          · rw [z, upd_same] at this; cases this
          · rw [upd_ne z] at this ⊢; exact this
        · rw [List.take_succ, hf, ← List.append_assoc]
          exact DqAll_append ha5 (.cons (Dq_ex e5 f y py) .nil)
    · have er : r = us.length := by omega
      subst er
      refine .inl ⟨⟨us, hS5, Nat.le_refl _⟩, B5, acc5, rfl, (e.trans (e3.trans e4)).trans e5, dj5, ?_⟩
      show DqAll B5 acc5 ((ds.take (i + 1)).flatMap es)
      rw [hlt]
      rw [hlu, List.take_length] at ha5
      exact ha5
  · have ei : i = vs.length := by omega
    subst ei
    refine .inl ⟨⟨vs, hS, Nat.le_refl _⟩, ?_⟩
    refine lc_end (es := fun i => (ds.take i).flatMap es) (i := vs.length) hM (Ex.refl _) (fun p us B2 e2 dj2 hf hv => ?_) _ ⟨B', acc, rfl, e, dj, ha⟩
    rw [hlen, List.take_length] at hv
    exact q p us B2 (e1.trans e2) dj2 hf hv
end
end Mini

namespace Mini
open PySem L2 Evl PyProof.Rows
theorem pe_fldK {X : Cx} {K : PySem.W.Frag} {e : Expr} {f : Str} {pos : Pos} {ta : TE} (h : PE X e ta) (hb : attributeBase e f X.env (eval e X.env) = eval e X.env) (hK : X.K = K := by rfl) : PE X (.Attribute e f pos) (tFld K ta f) := hK ▸ pe_fld h hb
theorem pi_tupK {X : Cx} {K : PySem.W.Frag} {tg l : Expr} {tl : TE} (h : PE X l tl) (hK : X.K = K := by rfl) : PI X tg l (iTup K tl) := hK ▸ pi_tup h
theorem pi_listK {X : Cx} {K : PySem.W.Frag} {tg l : Expr} {tl : TE} (h : PE X l tl) (hK : X.K = K := by rfl) : PI X tg l (iList K tl) := hK ▸ pi_list h
abbrev rLenK (K : PySem.W.Frag) : List V → Hp → VK → Prop := fun xs H Q => ∃ x n, xs = [x] ∧ LenV K x H n ∧ Q (.int n) H
section
variable {K : PySem.W.Frag} {E : L2.St → XK} {G : Gm} {ta tb tc : TE} {ds es fs : List PyData} {i j l : Nat}
/-- a, b, c = (new lists), through a tuple -/
theorem ss_tup3 (ha : Svl ta G ds) (hb : Svl tb G es) (hc : Svl tc G fs) (hi : i < G.length := by exact Nat.le_of_ble_eq_true rfl) (hj : j < G.length := by exact Nat.le_of_ble_eq_true rfl) (hl : l < G.length := by exact Nat.le_of_ble_eq_true rfl) :
    Ss E (tAsg (tTup (tCons ta (tCons tb (tCons tc tNil)))) (gTup K 3 (gCons (gName i) (gCons (gName j) (gCons (gName l) gNil))))) G (.nx (((G.set i (.ow (isL ds))).set j (.ow (isL es))).set l (.ow (isL fs)))) := fun M0 D σ B M H q =>
  ha M0 σ B M H _ fun p vs B1 e1 d1 hf ha1 => by
    rw [upd_own]
    have H1 := (H.ext e1 d1).more (p := p) (o := .lst vs) hf
    refine hb M0 σ B1 _ H1 _ fun p2 us B2 e2 d2 hf2 ha2 => ?_
    rw [upd_own]
    have H2 := (H1.ext e2 d2).more (p := p2) (o := .lst us) hf2
    refine hc M0 σ B2 _ H2 _ fun p3 ws B3 e3 d3 hf3 ha3 => ?_
    rw [upd_own]
    have n2 : p ≠ p2 := ne_of_none (show (upd M p (HO.lst vs)) p = some _ from upd_same) (jn_free hf2).2
    have m1 : (upd (upd M p (HO.lst vs)) p2 (HO.lst us)) p = some (.lst vs) := by rw [upd_ne n2]; exact upd_same
    have b1 : B3 p = none := dj_free d3 m1
    have b2 : B3 p2 = none := dj_free d3 upd_same
    have b3 : B3 p3 = none := (jn_free hf3).1
    have djM : Dj B3 M := fun a u z => by
      have w := d3 a u z
      by_cases y2 : a = p2
      · rw [y2] at z; rw [b2] at z; cases z
      · rw [upd_ne y2] at w
        by_cases y1 : a = p
        · rw [y1] at z; rw [b1] at z; cases z
        · rw [upd_ne y1] at w; exact w
    have hM1 := (jn_free hf).2
    have hM2 := (jn_free hf2).2
    have hM3 := (jn_free hf3).2
    have K1 : Holds M0 (G.set i (.ow (isL ds))) (σ.set i (some (.ref p))) B3 (upd M p (.lst vs)) := (((H.ext e1 d1).ext (e2.trans e3) djM)).setOw hi (by rw [jn_N hM1]; exact b1) ⟨vs, rfl, DqAll_ex (e2.trans e3) ha1⟩
    have K2 := K1.setOw (n := j) (R := isL es) (p := p2) (o := .lst us) (by rw [List.length_set]; exact hj) (by rw [jn_N hM2]; exact b2) ⟨us, rfl, DqAll_ex e3 ha2⟩
    have K3 := K2.setOw (n := l) (R := isL fs) (p := p3) (o := .lst ws) (by rw [List.length_set, List.length_set]; exact hl) (by rw [jn_N hM3]; exact b3) ⟨ws, rfl, ha3⟩
    refine ⟨by show 3 ≤ sizeLine; decide, fun t ht => ?_⟩
    rw [upd_new ht]
    refine ⟨t, _, rfl, st_of (jn_B (dj_new K3.dj ht) upd_same), rfl, _, _, rfl, _, _, rfl, _, _, rfl, rfl, ?_⟩
    exact q _ _ _ ((e1.trans (e2.trans e3)).trans (ex_new ht)) (K3.ext (ex_new ht) (dj_new K3.dj ht))
end
end Mini

namespace Mini
open PySem L2 Evl PyProof.Rows

/-! ### dicts from ints to ints -/
/-- y = {..}, y a local name -/
theorem ps_setDc {X : Cx} {i : Nat} {y : Str} {py : Pos} {kx vx tg iter : Expr} {ifs : List Expr} {scope : Scope} {own : List (Str × Nat)} {pos spos : Pos} {wi : TI} {g : TG} {tt : TT} {tk tv : TE} (hc : X.calm = true) (hN : X.N.Nodup) (hy : X.N[i]? = some y) (hyl : X.env.scope.names.lookup y = some .local)
    (hsw : swapsWith (.DictComp kx vx [⟨tg, iter, ifs, 0⟩] scope pos) (some (.Name y py)) spos.line X.env = pure true) (hi : PI X tg iter wi) (ok : BlkOk X.N X.env.scope scope own)
    (hg : ∀ (s : Shared) (H : Hp) (C : Addr) (cl : List (Str × Addr)) (fp : List Addr), PG (X.blk s H scope (compEnvC scope cl C X.env) fp) tg g)
    (ht : ∀ (s : Shared) (H : Hp) (C : Addr) (cl : List (Str × Addr)) (fp : List Addr), PTs (X.blk s H scope (compEnvC scope cl C X.env) fp) ifs tt)
    (hk : ∀ (s : Shared) (H : Hp) (C : Addr) (cl : List (Str × Addr)) (fp : List Addr), PE (X.blk s H scope (compEnvC scope cl C X.env) fp) kx tk)
    (he : ∀ (s : Shared) (H : Hp) (C : Addr) (cl : List (Str × Addr)) (fp : List Addr), PE (X.blk s H scope (compEnvC scope cl C X.env) fp) vx tv)
    (hs : ∀ x, foldedSetIterable iter X.env x = pure x := by exact fun _ => rfl) : PS X (.Assign [.Name y py] (.DictComp kx vx [⟨tg, iter, ifs, 0⟩] scope pos) spos) (tAsg (tDc wi g tt tk tv (own.map (·.2))) (gName i)) := by
  refine ⟨fun pins s σ H D I h => ?_⟩
  rw [exec_Assign_Name_used y py _ spos hsw]
  refine wpAny_bind (wpAny_standAt (wpAny_bind ?_))
  refine wpAny_bind (thn (dc_core hc hN I hi ok hg ht hk he hs h fun L C s' m H' I' q hn f => ?_) fun x s' hq => wpAny_pure (wpAny_pure hq))
  refine wpAny_assign_Name (store_ok2 (v := V.ref L) I' hN hy (.inl hyl) rfl (fun s2 I2 hx => ?_) (.inr hyl))
  obtain ⟨a, sb, ha⟩ := hx
  have haC : C ≠ a := by
    rcases ha with z | z
    · rw [z]; exact f.2.1
    · exact fun e => f.2.2.2.2.1 y a z e.symm
  exact ⟨m, hn.sameBut sb haC, fun h3 sb3 => ⟨σ.set i (some (.ref L)), H', Inv.turned I2 (fun b o hb e => (sb3.2 b hb).trans e) f.1 f.2.1 f.2.2.2.1 f.2.2.2.2.1 f.2.2.2.2.2, q⟩⟩
theorem pg_tupK {X : Cx} {K : PySem.W.Frag} {pos : Pos} {es : List Expr} {k : Nat} {t : TGs} {n : Nat} (hc : X.calm = true) (h : PGs X es t) (hn : (assignEach es X.env).length = n := by rfl) (hs : (assignEach es X.env).findIdx? (fun x => x.1) = none := by rfl) (hK : X.K = K := by rfl) : PG X (.Tuple es k pos) (gTup K n t) := hK ▸ pg_tup hc h hn hs

def putI (kvs : List (Int × Int)) (k v : Int) : List (Int × Int) := if (kvs.any fun p => decide (p.1 = k)) = true then kvs.map (fun p => if p.1 = k then (p.1, v) else p) else kvs ++ [(k, v)]
def dkV (kvs : List (Int × Int)) : List (Key × V) := kvs.map fun p => (Sum.inl p.1, V.int p.2)
theorem put_dkV (kvs : List (Int × Int)) (k v : Int) : putK (dkV kvs) (Sum.inl k) (V.int v) = dkV (putI kvs k v) := by
  have e : ((dkV kvs).any fun kv => decide (kv.1 = (Sum.inl k : Key))) = kvs.any fun p => decide (p.1 = k) := by
    unfold dkV
    rw [List.any_map]
    congr 1
    funext p
    show decide ((Sum.inl p.1 : Key) = Sum.inl k) = decide (p.1 = k)
    by_cases z : p.1 = k
    · rw [decide_eq_true z, decide_eq_true (by rw [z])]
    · rw [decide_eq_false z, decide_eq_false (fun q => z (Sum.inl.inj q))]
  unfold putK putI
  rw [e]
  split
  · unfold dkV
    rw [List.map_map, List.map_map]
    refine List.map_congr_left fun p _ => ?_
    show (if (Sum.inl p.1 : Key) = Sum.inl k then _ else _) = _
    by_cases z : p.1 = k
    · rw [if_pos (by rw [z])]
      show _ = (fun p : Int × Int => ((Sum.inl p.1 : Key), V.int p.2)) (if p.1 = k then (p.1, v) else p)
      rw [if_pos z]
    · rw [if_neg (fun q => z (Sum.inl.inj q))]
      show _ = (fun p : Int × Int => ((Sum.inl p.1 : Key), V.int p.2)) (if p.1 = k then (p.1, v) else p)
      rw [if_neg z]
  · unfold dkV
    rw [List.map_append]
    rfl
theorem putI_len (kvs : List (Int × Int)) (k v : Int) : (putI kvs k v).length ≤ kvs.length + 1 := by
  unfold putI
  split
  · rw [List.length_map]; omega
  · rw [List.length_append, List.length_singleton]; omega
/-- {key of d: its number} -/
def dE (kf : PyData → Int) (ds : List PyData) : Nat → List (Int × Int)
  | 0 => []
  | i + 1 => putI (dE kf ds i) (kf (ds.getD i .none)) i
theorem dE_len (kf : PyData → Int) (ds : List PyData) : ∀ i, (dE kf ds i).length ≤ i
  | 0 => Nat.le_refl 0
  | i + 1 => by
    have := dE_len kf ds i
    have := putI_len (dE kf ds i) (kf (ds.getD i .none)) i
    show (putI (dE kf ds i) _ _).length ≤ i + 1
    omega
def isDi (kvs : List (Int × Int)) : Ty := ⟨fun v B => ∃ a, v = .ref a ∧ B a = some (.dK (dkV kvs)), fun e ⟨a, h1, h2⟩ => ⟨a, h1, e _ _ h2⟩⟩
def getI (kvs : List (Int × Int)) (k : Int) : PyData := match kvs.find? fun p => decide (p.1 = k) with
  | some p => .int p.2
  | none => .none
theorem val_dkV (kvs : List (Int × Int)) (k : Int) : valV (dkV kvs) (Sum.inl k : Key) = (kvs.find? fun p => decide (p.1 = k)).map fun p => V.int p.2 := by
  unfold valV dkV
  rw [List.find?_map, Option.map_map]
  have e : ((fun kv : Key × V => decide (kv.1 = (Sum.inl k : Key))) ∘ fun p : Int × Int => ((Sum.inl p.1 : Key), V.int p.2)) = fun p : Int × Int => decide (p.1 = k) := by
    funext p
    show decide ((Sum.inl p.1 : Key) = Sum.inl k) = decide (p.1 = k)
    by_cases z : p.1 = k
    · rw [decide_eq_true z, decide_eq_true (by rw [z])]
    · rw [decide_eq_false z, decide_eq_false (fun q => z (Sum.inl.inj q))]
  rw [e]
  rfl
def GvE (G : Gm) (j l : Nat) (i : Nat) (d : PyData) : Gm := ((wipeG G [j, l]).set j (.im (isD (.int (i : Int))))).set l (.im (isD d))
section
variable {K : PySem.W.Frag} {E : L2.St → XK} {G : Gm} {td ty tl tk : TE} {j l n : Nat} {k : Int} {kvs : List (Int × Int)} {ds : List PyData}
theorem sv_dget (hd : Sv td G (isDi kvs)) (hk : Sv ty G (isD (.int k))) : Sv (tDGet1 td ty) G (isD (getI kvs k)) := fun M0 σ B M H Q q => hd M0 σ B M H _ fun v B1 e1 d1 p1 => by
  obtain ⟨a, rfl, h1⟩ := p1
  refine ⟨a, rfl, .inl ⟨_, .inl (jn_B d1 h1)⟩, ?_⟩
  refine hk M0 σ B1 M (H.ext e1 d1) _ fun y B2 e2 d2 p2 => ?_
  refine ⟨_, .inl ⟨_, Sum.inl k, .inl (jn_B d2 (e2 _ _ h1)), dp_int p2, rfl⟩, ?_⟩
  refine q _ B2 (e1.trans e2) d2 ?_
  rw [val_dkV]
  show Dq B2 _ (getI kvs k)
  unfold getI
  cases kvs.find? fun p => decide (p.1 = k) with
  | none => exact .non
  | some p => exact .int _
theorem wipe_two2 (σ : L2.St) {j l : Nat} (h : j ≠ l) (x y : V) : L2.wipe (((L2.wipe σ [j, l]).set j (some x)).set l (some y)) [j, l] = L2.wipe σ [j, l] := by
  show (((((σ.set l none).set j none).set j (some x)).set l (some y)).set l none).set j none = (σ.set l none).set j none
  rw [List.set_set, List.set_set, List.set_comm _ _ h, List.set_set, List.set_set]
theorem ss_setDcE (h : Rl tl G ds) (kf : PyData → Int) (hn : n < G.length) (hj : j < G.length) (hl : l < G.length) (hjl : j ≠ l) (hz : ds.length < 1000000) (hk : ∀ i d, ds[i]? = some d → Sv tk (GvE G j l i d) (isD (.int (kf d)))) :
    Ss E (tAsg (tDc (iEnum K (tCons tl tNil)) (gTup K 2 (gCons (gName j) (gCons (gName l) gNil))) tYes tk (tVar j) [j, l]) (gName n)) G (.nx (G.set n (.im (isDi (dE kf ds ds.length))))) := fun M0 D σ B M H q => h M0 σ B M H _ fun a vs B1 e1 d1 hh q1 => by
  have hlen := DqAll_len q1
  refine ⟨a, vs, rfl, sq_of hh, fun Dl hD => ?_⟩
  have hM := (jn_free hD).2
  refine ⟨fun i m H' => i ≤ vs.length ∧ m = vs.length - i ∧ ∃ B', H' = jn B' (upd M Dl (.dK (dkV (dE kf ds i)))) ∧ Ex B1 B' ∧ Dj B' (upd M Dl (.dK (dkV (dE kf ds i)))), ⟨vs.length, Nat.zero_le _, rfl, B1, by rw [upd_own]; rfl, Ex.refl B1, dj_own d1 (jn_free hD).1⟩, fun i m H' hW => ?_⟩
  obtain ⟨hle, rfl, B', rfl, e, dj⟩ := hW
  have hB' : B' Dl = none := dj_free dj upd_same
  have djM : Dj B' M := fun a u q => by
    have := dj a u q
    by_cases z : a = Dl
    · rw [z]; exact hM
    · rw [upd_ne z] at this; exact this
  have hS : SqL K (jn B' (upd M Dl (.dK (dkV (dE kf ds i))))) a vs := by
    refine sq_of ?_
    have hne : a ≠ Dl := fun z => by rw [z, hD] at hh; cases hh
    unfold jn at hh ⊢
    rw [upd_ne hne]
    cases z : M a with
    | some u => rw [z] at hh; exact hh
    | none => rw [z] at hh; exact e _ _ hh
  by_cases z : i < vs.length
  · refine .inr ⟨⟨vs, vs[i], hS, List.getElem?_eq_getElem z⟩, fun H' => ∃ B', H' = jn B' (upd M Dl (.dK (dkV (dE kf ds (i + 1))))) ∧ Ex B1 B' ∧ Dj B' (upd M Dl (.dK (dkV (dE kf ds (i + 1))))), fun H' p => ⟨vs.length - (i + 1), by omega, by omega, rfl, p⟩, fun v H' hy => ?_⟩
    obtain ⟨t, x, rfl, ht, rfl, hx⟩ := hy
    obtain ⟨d, hd, px⟩ := DqAll_getV q1 (hx vs hS)
    rw [upd_new ht]
    refine ⟨t, _, rfl, st_of (jn_B (dj_new dj ht) upd_same), rfl, _, _, rfl, _, _, rfl, rfl, ?_⟩
    refine ⟨wipe_two2 σ hjl _ _, ?_⟩
    have et : Ex B' (upd B' t (.tup [V.int i, x])) := ex_new ht
    have djt : Dj (upd B' t (.tup [V.int i, x])) (upd M Dl (.dK (dkV (dE kf ds i)))) := dj_new dj ht
    have H2 : Holds M0 (GvE G j l i d) (((L2.wipe σ [j, l]).set j (some (V.int i))).set l (some x)) (upd B' t (.tup [V.int i, x])) (upd M Dl (.dK (dkV (dE kf ds i)))) := by
      have h1 := ((((H.ext e1 d1).ext e djM).wipes [j, l]).more (p := Dl) (o := .dK (dkV (dE kf ds i))) (show jn B' M Dl = none by rw [jn_N hM]; exact hB')).ext et djt
      have h2 := h1.setIm (n := j) (v := V.int i) (P := isD (.int (i : Int))) (by show j < ((G.set l .no).set j .no).length; rw [List.length_set, List.length_set]; exact hj) (.int _)
      exact h2.setIm (by rw [List.length_set]; show l < ((G.set l .no).set j .no).length; rw [List.length_set, List.length_set]; exact hl) (Dq_ex (e.trans et) d x px)
    refine tyes_ite ?_
    refine hk i d hd M0 _ _ _ H2 _ fun y B4 e4 d4 p4 => ?_
    have hjj : (((L2.wipe σ [j, l]).set j (some (V.int i))).set l (some x))[j]? = some (some (V.int i)) := by
      rw [List.getElem?_set_ne (Ne.symm hjl)]
      exact List.getElem?_set_self (by show j < ((σ.set l none).set j none).length; rw [List.length_set, List.length_set, H.len]; exact hj)
    refine ⟨_, hjj, dkV (dE kf ds i), Sum.inl (kf d), dp_int p4, jn_M upd_same, ?_, ?_⟩
    · have := dE_len kf ds i
      unfold dkV
      rw [List.length_map, sizeLine_eq]
      omega
    · have ed : ds.getD i .none = d := by rw [List.getD_eq_getElem?_getD, hd]; rfl
      refine ⟨B4, ?_, (e.trans et).trans e4, ?_⟩
      · rw [upd_own, upd_upd, put_dkV]
        show _ = jn B4 (upd M Dl (.dK (dkV (putI (dE kf ds i) (kf (ds.getD i .none)) i))))
        rw [ed]
      · intro b u q
        have := d4 b u q
        by_cases z : b = Dl
        · rw [z, upd_same] at this; cases this
        · rw [upd_ne z] at this ⊢; exact this
  · have ei : i = vs.length := by omega
    subst ei
    refine .inl ⟨⟨vs, hS, Nat.le_refl _⟩, ?_⟩
    show D.nx (σ.set n (some (.ref Dl))) _
    rw [jn_push hM, hlen]
    have hDn : jn B' M Dl = none := by rw [jn_N hM]; exact hB'
    have eN : Ex B' (upd B' Dl (.dK (dkV (dE kf ds ds.length)))) := ex_new hDn
    rw [hlen] at dj
    have djN : Dj (upd B' Dl (.dK (dkV (dE kf ds ds.length)))) M := dj_push dj hM
    exact q _ _ M ((e1.trans e).trans eN) ((((H.ext e1 d1).ext e djM).ext eN djN).setIm hn ⟨Dl, rfl, upd_same⟩)
end
end Mini

namespace Mini
open PySem L2 Evl PyProof.Rows
section
variable {K : PySem.W.Frag} {E : L2.St → XK} {G : Gm} {te : TE} {n : Nat} {i j : Int}
/-- x += e -/
theorem ss_aug (h : G[n]? = some (.im (isD (.int i)))) (he : Sv te G (isD (.int j))) : Ss E (tAug n te (ipI fun i j => i + j)) G (.nx (G.set n (.im (isD (.int (i + j)))))) := fun M0 D σ B M H q => by
  obtain ⟨v, a, b⟩ := H.im n _ h
  refine ⟨v, a, he M0 σ B M H _ fun y B1 e1 d1 p1 => ?_⟩
  refine ⟨i, j, dp_int b, dp_int p1, ?_⟩
  exact q _ B1 M e1 ((H.ext e1 d1).setIm (List.getElem?_eq_some_iff.mp h).1 (.int _))
end
theorem cut_mid {α : Type} (ds : List α) {a b : Int} (h0 : 0 ≤ a) (h1 : a ≤ b) (h2 : a ≤ ds.length) : cutD ds (some a) (some b) = (ds.drop a.toNat).take (b - a).toNat := by
  unfold cutD
  obtain ⟨n, rfl⟩ := Int.eq_ofNat_of_zero_le h0
  obtain ⟨m, rfl⟩ := Int.eq_ofNat_of_zero_le (Int.le_trans h0 h1)
  rw [HT.sIx_nat, HT.sIx_nat, Int.toNat_natCast, Nat.min_eq_left (show n ≤ ds.length by omega)]
  have e : ((m : Int) - (n : Int)).toNat = m - n := by omega
  rw [e]
  by_cases h : m ≤ ds.length
  · rw [Nat.min_eq_left h]
  · rw [Nat.min_eq_right (by omega), List.take_of_length_le (by rw [List.length_drop]; omega), List.take_of_length_le (by rw [List.length_drop]; omega)]
/-! a step that is made as long as it can be -/
def itS {S : Type} (f : S → Option S) (s : S) : Nat → S
  | 0 => s
  | i + 1 => match f (itS f s i) with
    | some s' => s'
    | none => itS f s i
theorem itS_cons {S : Type} {f : S → Option S} {s s' : S} (h : f s = some s') : ∀ i, itS f s (i + 1) = itS f s' i
  | 0 => by show (match f s with | some s' => s' | none => s) = s'; rw [h]
  | i + 1 => by
    show (match f (itS f s (i + 1)) with | some s' => s' | none => itS f s (i + 1)) = _
    rw [itS_cons h i]
    rfl
def runS {S R : Type} (f : S → Option S) (fin : S → R) (d : R) : Nat → S → R
  | 0, _ => d
  | n + 1, s => match f s with
    | some s' => runS f fin d n s'
    | none => fin s
theorem run_stop {S R : Type} {f : S → Option S} {fin : S → R} {d : R} (μ : S → Nat) (hμ : ∀ s s', f s = some s' → μ s' < μ s) : ∀ (n : Nat) (s : S), μ s < n → ∃ N, N ≤ μ s ∧ (∀ i, i < N → ∃ s', f (itS f s i) = some s' ∧ itS f s (i + 1) = s') ∧ f (itS f s N) = none ∧ runS f fin d n s = fin (itS f s N)
  | 0, s, h => absurd h (Nat.not_lt_zero _)
  | n + 1, s, h => by
    cases e : f s with
    | none => exact ⟨0, Nat.zero_le _, fun i hi => absurd hi (Nat.not_lt_zero _), e, by show (match f s with | some s' => runS f fin d n s' | none => fin s) = _; rw [e]; rfl⟩
    | some s' =>
      have hlt := hμ s s' e
      obtain ⟨N, h0, h1, h2, h3⟩ := run_stop μ hμ n s' (by omega)
      refine ⟨N + 1, by omega, fun i hi => ?_, by rw [itS_cons e]; exact h2, by rw [itS_cons e]; show (match f s with | some s' => runS f fin d n s' | none => fin s) = _; rw [e]; exact h3⟩
      cases i with
      | zero => exact ⟨s', e, by rw [itS_cons e]; rfl⟩
      | succ i =>
        rw [itS_cons e, itS_cons e]
        exact h1 i (by omega)
end Mini
namespace Mini
open PySem L2 Evl PyProof.Rows
section
variable {K : PySem.W.Frag} {E : L2.St → XK} {G : Gm} {ta tb : TE} {P : Ty} {ds : List PyData} {i j : Nat}
/-- a, b = (a new list, a value), through a tuple -/
theorem ss_tup2 (ha : Svl ta G ds) (hb : Sv tb G P) (hi : i < G.length := by exact Nat.le_of_ble_eq_true rfl) (hj : j < G.length := by exact Nat.le_of_ble_eq_true rfl) :
    Ss E (tAsg (tTup (tCons ta (tCons tb tNil))) (gTup K 2 (gCons (gName i) (gCons (gName j) gNil)))) G (.nx ((G.set i (.ow (isL ds))).set j (.im P))) := fun M0 D σ B M H q =>
  ha M0 σ B M H _ fun p vs B1 e1 d1 hf ha1 => by
    rw [upd_own]
    have H1 := (H.ext e1 d1).more (p := p) (o := .lst vs) hf
    refine hb M0 σ B1 _ H1 _ fun v B2 e2 d2 p2 => ?_
    have hM1 := (jn_free hf).2
    have b1 : B2 p = none := dj_free d2 upd_same
    have djM : Dj B2 M := fun a u z => by
      have w := d2 a u z
      by_cases y1 : a = p
      · rw [y1] at z; rw [b1] at z; cases z
      · rw [upd_ne y1] at w; exact w
    have K1 : Holds M0 (G.set i (.ow (isL ds))) (σ.set i (some (.ref p))) B2 (upd M p (.lst vs)) := ((H.ext e1 d1).ext e2 djM).setOw hi (by rw [jn_N hM1]; exact b1) ⟨vs, rfl, DqAll_ex e2 ha1⟩
    have K2 := K1.setIm (n := j) (v := v) (P := P) (by rw [List.length_set]; exact hj) p2
    refine ⟨by show 2 ≤ sizeLine; decide, fun t ht => ?_⟩
    rw [upd_new ht]
    refine ⟨t, _, rfl, st_of (jn_B (dj_new K2.dj ht) upd_same), rfl, _, _, rfl, _, _, rfl, rfl, ?_⟩
    exact q _ _ _ ((e1.trans e2).trans (ex_new ht)) (K2.ext (ex_new ht) (dj_new K2.dj ht))
end
end Mini

namespace Mini
open PySem L2 Evl PyProof.Rows
section
variable {K : PySem.W.Frag} {E : L2.St → XK} {G : Gm} {te ta tb tl : TE} {n : Nat} {i j l : Nat} {d d1 d2 d3 e : PyData} {ds es : List PyData} {ns : List Int} {k : Int} {b c : Bool}
/-! in, is True, str(n), tuple(range(n)) -/
theorem inV_ints (k : Int) (ns : List Int) : inV (.int k) (ns.map V.int) = decide (k ∈ ns) := by
  unfold inV
  induction ns with
  | nil => rfl
  | cons a ns ih =>
    rw [List.map_cons, List.any_cons, ih]
    show ((a == k) || decide (k ∈ ns)) = _
    by_cases e : a = k
    · subst e; simp
    · have e' : ¬ k = a := fun z => e z.symm
      simp [e, e']
theorem sv_inT (ha : Sv ta G (isD (.int k))) (hb : Sv tb G (isD (.tuple (ns.map .int)))) : Sv (tOp (rIn K false) ta tb) G (isD (.bool (decide (k ∈ ns)))) := fun M0 σ B M H Q q =>
  ha M0 σ B M H _ fun x B1 e1 d1 p1 => hb M0 σ B1 M (H.ext e1 d1) _ fun y B2 e2 d2 p2 => by
    rw [dp_int p1]
    obtain ⟨a, vs, rfl, h1, h2⟩ := dq_tup p2
    rw [DqAll_ints h2] at h1
    refine ⟨a, ns.map V.int, rfl, .inr (st_of (jn_B d2 h1)), rfl, ?_, ?_⟩
    · rw [List.all_eq_true]
      intro v hv
      obtain ⟨m, _, rfl⟩ := List.mem_map.mp hv
      rfl
    · rw [inV_ints]
      exact q _ B2 (e1.trans e2) d2 (.bl _)
abbrev rIsBl : R2 := fun x y H Q => ∃ a b, x = .bl a ∧ y = .bl b ∧ Q (.bl (decide (a = b))) H
theorem sv_isBl (ha : Sv ta G (isD (.bool b))) (hb : Sv tb G (isD (.bool c))) : Sv (tOp rIsBl ta tb) G (isD (.bool (decide (b = c)))) := fun M0 σ B M H Q q =>
  ha M0 σ B M H _ fun x B1 e1 d1 p1 => hb M0 σ B1 M (H.ext e1 d1) _ fun y B2 e2 d2 p2 => ⟨b, c, dp_bool p1, dp_bool p2, q _ B2 (e1.trans e2) d2 (.bl _)⟩
abbrev cStr : List V → Hp → VK → Prop := fun xs H Q => ∃ i, xs = [.int i] ∧ i.natAbs.log2 < 1920 ∧ Q (.str (toString i)) H
theorem sv_strI (ha : Sv ta G (isD (.int k))) (hk : k.natAbs.log2 < 1920) : Sv (tCB cStr (tCons ta tNil)) G (isD (.str (toString k))) := fun M0 σ B M H Q q =>
  ha M0 σ B M H _ fun x B1 e1 d1 p1 => ⟨k, by rw [dp_int p1], hk, q _ B1 e1 d1 (.str _)⟩
theorem sv_tupRg (ha : Sv ta G (isD (.int k))) (h0 : 0 ≤ k) (h1 : k ≤ 16777216) : Sv (tTupRg (tRg1 ta)) G (isD (.tuple ((List.range k.toNat).map fun i : Nat => PyData.int (i : Int)))) := fun M0 σ B M H Q q =>
  ha M0 σ B M H _ fun x B1 e1 d1 p1 => ⟨k, dp_int p1, RgOk.of_le (by omega) (by omega) (by omega) h0, fun t ht => by
    have e : rgV 0 k = ((List.range k.toNat).map fun i : Nat => (i : Int)).map V.int := by
      unfold rgV
      rw [Int.sub_zero, List.map_map]
      apply List.map_congr_left
      intro i _
      show V.int (0 + (i : Int)) = V.int (i : Int)
      rw [Int.zero_add]
    rw [upd_new ht, e]
    refine q _ _ (e1.trans (ex_new ht)) (dj_new d1 ht) (.tup upd_same ?_)
    have h := DqAll_ofInts (H := upd B1 t (.tup (((List.range k.toNat).map fun i : Nat => (i : Int)).map V.int))) ((List.range k.toNat).map fun i : Nat => (i : Int))
    have e5 : ((List.range k.toNat).map fun i : Nat => (i : Int)).map PyData.int = (List.range k.toNat).map fun i : Nat => PyData.int (i : Int) := by rw [List.map_map]; rfl
    rw [e5] at h
    exact h⟩
/-! a, b, c = a tuple; xs().append(e) of a new list that nobody holds -/
theorem ss_unpT3 (h : Sv te G (isD (.tuple [d1, d2, d3]))) (hi : i < G.length := by exact Nat.le_of_ble_eq_true rfl) (hj : j < G.length := by exact Nat.le_of_ble_eq_true rfl) (hl : l < G.length := by exact Nat.le_of_ble_eq_true rfl) :
    Ss E (tAsg te (gTup K 3 (gCons (gName i) (gCons (gName j) (gCons (gName l) gNil))))) G (.nx (((G.set i (.im (isD d1))).set j (.im (isD d2))).set l (.im (isD d3)))) := fun M0 D σ B M H q => by
  refine h M0 σ B M H _ fun v B' e dj p => ?_
  obtain ⟨a, vs, rfl, h1, h2⟩ := dq_tup p
  cases h2 with
  | cons p1 h2 => cases h2 with
    | cons p2 h2 => cases h2 with
      | cons p3 h2 =>
        cases h2
        refine ⟨a, _, rfl, st_of (jn_B dj h1), rfl, _, _, rfl, _, _, rfl, _, _, rfl, rfl, ?_⟩
        exact q _ B' M e ((((H.ext e dj).setIm (P := isD d1) hi p1).setIm (P := isD d2) (by rw [List.length_set]; exact hj) p2).setIm (P := isD d3) (by rw [List.length_set, List.length_set]; exact hl) p3)
theorem ss_unpT2 (h : Sv te G (isD (.tuple [d1, d2]))) (hi : i < G.length := by exact Nat.le_of_ble_eq_true rfl) (hj : j < G.length := by exact Nat.le_of_ble_eq_true rfl) :
    Ss E (tAsg te (gTup K 2 (gCons (gName i) (gCons (gName j) gNil)))) G (.nx ((G.set i (.im (isD d1))).set j (.im (isD d2)))) := fun M0 D σ B M H q => by
  refine h M0 σ B M H _ fun v B' e dj p => ?_
  obtain ⟨a, vs, rfl, h1, h2⟩ := dq_tup p
  cases h2 with
  | cons p1 h2 => cases h2 with
    | cons p2 h2 =>
      cases h2
      refine ⟨a, _, rfl, st_of (jn_B dj h1), rfl, _, _, rfl, _, _, rfl, rfl, ?_⟩
      exact q _ B' M e (((H.ext e dj).setIm (P := isD d1) hi p1).setIm (P := isD d2) (by rw [List.length_set]; exact hj) p2)
theorem ss_appT (h : Svl tl G ds) (he : Sv te G (isD e)) (hz : ds.length < sizeLine) : Ss E (tDrop (tBM K "list" rAppend tl (tCons te tNil))) G (.nx G) := fun M0 D σ B M H q => by
  refine h M0 σ B M H _ fun p vs B1 e1 d1 hf ha => ?_
  rw [upd_own]
  refine ⟨Or.inl ⟨rfl, vs, sq_of (jn_M upd_same)⟩, ?_⟩
  have H1 := (H.ext e1 d1).more (p := p) (o := .lst vs) hf
  refine he M0 σ B1 _ H1 _ fun v B2 e2 d2 p2 => ?_
  refine ⟨p, vs, v, rfl, rfl, jn_M upd_same, by rw [DqAll_len ha]; exact hz, ?_⟩
  rw [upd_own]
  have djM : Dj B2 M := fun a u z => by
    have w := d2 a u z
    by_cases y1 : a = p
    · subst y1; exact (jn_free hf).2
    · rw [upd_ne y1] at w; exact w
  have hfp : jn B2 M p = none := by rw [jn_N (jn_free hf).2]; exact dj_free d2 upd_same
  have e3 : upd (upd M p (.lst vs)) p (.lst (vs ++ [v])) = upd M p (.lst (vs ++ [v])) := by
    funext a
    by_cases y1 : a = p
    · subst y1; rw [upd_same, upd_same]
    · rw [upd_ne y1, upd_ne y1, upd_ne y1]
  rw [e3]
  exact q σ B2 _ (e1.trans e2) (((H.ext e1 d1).ext e2 djM).more hfp)
end
end Mini

namespace Mini
open PySem L2 Evl PyProof.Rows
theorem eqvB (a b : Bool) : PyData.eqv (.bool a) (.bool b) = decide (a = b) := by cases a <;> cases b <;> decide +kernel
theorem shapedB (a : Bool) : SeqAt.shaped (.bool a) = true := by cases a <;> decide +kernel
theorem eqvInt (a b : Int) : PyData.eqv (.int a) (.int b) = decide (a = b) := by
  unfold PyData.eqv
  by_cases h : a = b
  · simp [h]
  · simp [h]
theorem shapedI (a : Int) : SeqAt.shaped (.int a) = true := by simp [SeqAt.shaped, PyData.canLay0, PyData.depth]
section
variable {K : PySem.W.Frag} {E : L2.St → XK} {G : Gm} {te ta tb tl : TE} {b c : Bool} {i j : Int} {a a' : List Int} {ds es : List PyData}
/-- tests that compare with what is due -/
theorem neB (h1 : Sv ta G (isD (.bool b))) (h2 : Sv tb G (isD (.bool c))) (e : b = c) : St' (tTest (tOp (rNeD K) ta tb)) G false := st_is (st_test (sv_ne h1 h2 (shapedB _) (shapedB _))) (by rw [eqvB, decide_eq_true e]; rfl)
theorem neM (h1 : Sv ta G (isD (.int i))) (h2 : Sv tb G (isD (.int j))) (e : i = j) : St' (tTest (tOp (rNeD K) ta tb)) G false := st_is (st_test (sv_neI h1 h2)) (by simp [e])
theorem neT (h1 : Sv ta G (isD (.tuple (a.map .int)))) (h2 : Sv tb G (isD (.tuple (a'.map .int)))) (e : a = a') : St' (tTest (tOp (rNeD K) ta tb)) G false := st_is (st_test (sv_ne h1 h2 (shaped_tints a) (shaped_tints a'))) (by rw [eqv_tints, decide_eq_true e]; rfl)
theorem neLI (h1 : Sv ta G (isD (.list (a.map .int)))) (h2 : Sv tb G (isD (.list (a'.map .int)))) (e : a = a') : St' (tTest (tOp (rNeD K) ta tb)) G false := st_is (st_test (sv_ne h1 h2 (shaped_ints a) (shaped_ints a'))) (by rw [eqv_ints, decide_eq_true e]; rfl)
theorem neD {d : PyData} (h1 : Sv ta G (isD d)) (h2 : Sv tb G (isD d)) (hs : SeqAt.shaped d = true) : St' (tTest (tOp (rNeD K) ta tb)) G false := st_is (st_test (sv_ne h1 h2 hs hs)) (by rw [SeqAt.eqv_refl d (SeqAt.canLay_of_shaped hs)]; rfl)
end
/-- all that come of tests with the index -/
def fil (f : Nat → Bool) (n : Nat) : List Nat := (List.range n).filter f
theorem fil_succ (f : Nat → Bool) (n : Nat) : fil f (n + 1) = if f n = true then fil f n ++ [n] else fil f n := by
  unfold fil
  rw [List.range_succ, List.filter_append]
  by_cases h : f n = true
  · simp [h]
  · simp [h]
end Mini

namespace Mini
open PySem L2 Evl PyProof.Rows
theorem dl_nd : ∀ (l acc : List Int), acc.Nodup → (l.foldl (fun acc x => if acc.any (fun y => y == x) = true then acc else acc ++ [x]) acc).length = acc.length + l.length → (acc ++ l).Nodup
  | [], acc, h, _ => by rw [List.append_nil]; exact h
  | x :: l, acc, h, e => by
    rw [List.foldl_cons] at e
    have hle : ∀ (l acc : List Int), (l.foldl (fun acc x => if acc.any (fun y => y == x) = true then acc else acc ++ [x]) acc).length ≤ acc.length + l.length := by
      intro l
      induction l with
      | nil => intro acc; simp
      | cons a l ih =>
        intro acc
        rw [List.foldl_cons]
        split
        · have := ih acc; rw [List.length_cons]; omega
        · have := ih (acc ++ [a]); rw [List.length_append, List.length_singleton] at this; rw [List.length_cons]; omega
    by_cases c : (acc.any fun y => y == x) = true
    · rw [if_pos c] at e
      have := hle l acc
      rw [e, List.length_cons] at this
      omega
    · rw [if_neg c] at e
      have hx : x ∉ acc := fun z => c (by rw [dl_any]; exact decide_eq_true z)
      have hnd : (acc ++ [x]).Nodup := by
        rw [List.nodup_append]
        refine ⟨h, by simp, fun a ha b hb => ?_⟩
        rw [List.mem_singleton] at hb
        rw [hb]
        exact fun z => hx (z ▸ ha)
      have := dl_nd l (acc ++ [x]) hnd (by rw [e, List.length_append, List.length_singleton, List.length_cons]; omega)
      rw [List.append_assoc] at this
      exact this
theorem nd_dl : ∀ (l acc : List Int), (acc ++ l).Nodup → (l.foldl (fun acc x => if acc.any (fun y => y == x) = true then acc else acc ++ [x]) acc).length = acc.length + l.length
  | [], acc, _ => by simp
  | x :: l, acc, h => by
    rw [List.foldl_cons]
    have hx : x ∉ acc := fun z => by
      rw [List.nodup_append] at h
      exact h.2.2 x z x List.mem_cons_self rfl
    have c : ¬ (acc.any fun y => y == x) = true := by rw [dl_any]; exact fun z => hx (of_decide_eq_true z)
    rw [if_neg c, nd_dl l (acc ++ [x]) (by rw [List.append_assoc]; exact h), List.length_append, List.length_singleton, List.length_cons]
    omega
theorem nd_get {l : List Int} (h : l.Nodup) {i j : Nat} (hi : i < l.length) (hj : j < l.length) (e : l[i] = l[j]) : i = j := by
  have p := List.pairwise_iff_getElem.mp h
  rcases Nat.lt_trichotomy i j with z | z | z
  · exact absurd e (p i j hi hj z)
  · exact z
  · exact absurd e.symm (p j i hj hi z)
end Mini

namespace Mini
open PySem L2 Evl PyProof.Rows
/-! ### xs[a::c] of a list -/
def placesI (n : Nat) (i c : Int) : List Nat := sliceRange (sliceBounds (some i) none (some c) n).1 (sliceBounds (some i) none (some c) n).2.1 (sliceBounds (some i) none (some c) n).2.2
def stepL {α : Type} (xs : List α) (i c : Int) : List α := (placesI xs.length i c).filterMap fun j => xs[j]?
theorem step_pick (xs : List Value) (i c : Int) : slicePick xs.toArray (some i) none (some c) = (stepL xs i c).toArray := by
  unfold slicePick stepL placesI
  rw [List.size_toArray]
  congr 1
  refine congrArg (fun f => List.filterMap f _) (funext fun x => ?_)
  rw [List.getElem?_toArray]
theorem placesI_len (n : Nat) {i c : Int} (hc : 0 < c) : (placesI n i c).length ≤ n := by
  have e : placesI n i c = sliceRange (max 0 (min (if i < 0 then i + (n : Int) else i) (n : Int))) n c := by
    unfold placesI sliceBounds
    simp only [Option.getD_some, gt_iff_lt, hc, if_true]
  rw [e]
  unfold sliceRange
  rw [List.length_map, List.length_range, if_pos hc]
  generalize hb : max 0 (min (if i < 0 then i + (n : Int) else i) (n : Int)) = b
  have hb0 : 0 ≤ b := by rw [← hb]; omega
  have hbn : b ≤ n := by rw [← hb]; omega
  by_cases h : b < (n : Int)
  · rw [if_pos h]
    have h1 := ceilDiv_le ((n : Int) - b) c (by omega) (by omega)
    omega
  · rw [if_neg h]; simp
theorem filterMap_len {α β : Type} (f : α → Option β) (l : List α) : (l.filterMap f).length ≤ l.length := List.length_filterMap_le f l
theorem vals_step {vs : List V} {us : List Value} (r : Vals vs us) (l : List Nat) : Vals (l.filterMap fun j => vs[j]?) (l.filterMap fun j => us[j]?) := by
  induction l with
  | nil => exact .nil
  | cons j l ih =>
    rw [List.filterMap_cons, List.filterMap_cons]
    cases e : vs[j]? with
    | none =>
      have e2 : us[j]? = none := by
        rw [List.getElem?_eq_none_iff] at e ⊢
        rw [← r.length]; exact e
      rw [e2]; exact ih
    | some v =>
      obtain ⟨u, e2, ru⟩ := r.get e
      rw [e2]; exact .cons ru ih
theorem DqAll_step {B : Hp} {ds : List PyData} {vs : List V} (h : DqAll B vs ds) (l : List Nat) : DqAll B (l.filterMap fun j => vs[j]?) (l.filterMap fun j => ds[j]?) := by
  induction l with
  | nil => exact .nil
  | cons j l ih =>
    rw [List.filterMap_cons, List.filterMap_cons]
    cases e : ds[j]? with
    | none =>
      have e2 : vs[j]? = none := by
        rw [List.getElem?_eq_none_iff] at e ⊢
        rw [DqAll_len h]; exact e
      rw [e2]; exact ih
    | some d =>
      obtain ⟨v, e2, q⟩ := DqAll_get h e
      rw [e2]; exact .cons q ih
def tStep (K : PySem.W.Frag) (te ta tc : TE) : TE := fun σ H Q => te σ H fun x H1 => tPart ta σ H1 fun lo H2 => tPart tc σ H2 fun st H3 => ∃ a xs i c, x = .ref a ∧ lo = some i ∧ st = some c ∧ 0 < c ∧ SqL K H3 a xs ∧ ∀ p, H3 p = none → Q (.ref p) (upd H3 p (.lst (stepL xs i c)))
theorem pe_step {X : Cx} {K : PySem.W.Frag} {e ea ec : Expr} {te ta tc : TE} {p3 pos : Pos} (he : PE X e te) (ha : PE X ea ta) (hc : PE X ec tc) (hK : X.K = K := by rfl) : PE X (.Subscript e (.Slice (some ea) none (some ec) p3) pos) (tStep K te ta tc) := by
  subst hK
  refine ⟨fun pins s σ H Q I h => ?_⟩
  refine Subscript_ (thn (he.run pins s σ H _ I h) fun v s1 ⟨x, H1, I1, r1, q1⟩ => ?_)
  refine wpAny_Slice (thn ((po_some ha).run pins s1 σ H1 _ I1 q1) fun vl s2 ⟨l, H2, I2, pl, q2⟩ => ?_)
  refine thn (po_none.run pins s2 σ H2 (fun o H3 => o = none ∧ H3 = H2) I2 ⟨rfl, rfl⟩) fun vu s3 ⟨u, H3, I3, pu, eu, e3⟩ => ?_
  subst eu e3
  refine thn ((po_some hc).run pins s3 σ H3 _ I3 q2) fun vs s4 ⟨o, H4, I4, ps, a, xs, y, c, ex, el, eo, hc0, hx, q⟩ => ?_
  subst el
  subst eo ex
  cases r1
  have I5 : Inv X pins σ H4 { s4 with heap := s4.heap.push { cls := .type "slice", data := .fields #[vl, vu, vs] } } := I4.kept (t' := s4.toks) fun b ob q => Heap.get?_push_of_some _ q
  obtain ⟨its, r, ht, hz⟩ := I5.list hx
  have hlen := r.length
  show wpAny (model X.prog X.w) X.A (subscriptTail e (.Slice (some ea) none (some ec) p3) (.ref a) (.ref s4.heap.objs.size)) (EP X pins σ Q) X.xe { s4 with heap := s4.heap.push { cls := .type "slice", data := .fields #[vl, vu, vs] } }
  refine tail_any (ops := [.ref a, .ref s4.heap.objs.size]) ht.isList.typeIs (PySem.slot_list_getitem.lookup) ?_ (by with_unfolding_all rfl)
  refine wpAny_getItem_list_slice ht.isList (Heap.IsSliceOf.new _ vl vu vs) pl pu ps (by intro z; cases z; omega) ?_ (by rw [List.size_toArray]; omega)
  rw [step_pick]
  refine ⟨.ref _, _, I5.laid (t' := s4.toks) (o := .lst (stepL xs y c)) (fun b ob q => Heap.get?_push_of_some _ q) (Nat.le_refl _) ?_, rfl, q _ (I5.hok.fresh (Nat.le_refl _))⟩
  have hsl : (stepL xs y c).length ≤ xs.length := Nat.le_trans (filterMap_len _ _) (placesI_len _ hc0)
  have hvv : Vals (stepL xs y c) (stepL its y c) := by
    unfold stepL
    rw [hlen]
    exact vals_step r _
  exact ⟨Nat.le_trans hsl hz, _, 0, hvv, Heap.get?_push_size _ rfl⟩
section
variable {K : PySem.W.Frag} {G : Gm} {te ta tc : TE} {ds : List PyData} {i c : Int}
theorem svl_step (h : Rl te G ds) (ha : Sv ta G (isD (.int i))) (hc : Sv tc G (isD (.int c))) (h0 : 0 < c) : Svl (tStep K te ta tc) G (stepL ds i c) := fun M0 σ B M H Q q =>
  h M0 σ B M H _ fun a vs B1 e1 d1 hh q1 => ha M0 σ B1 M (H.ext e1 d1) _ fun y B2 e2 d2 p2 => ⟨i, dp_int p2, hc M0 σ B2 M ((H.ext e1 d1).ext e2 d2) _ fun z B3 e3 d3 p3 => ⟨c, dp_int p3, by
    have hh3 : jn B3 M a = some (.lst vs) := jn_mono (e2.trans e3) d3 a _ hh
    refine ⟨a, vs, i, c, rfl, rfl, rfl, h0, sq_of hh3, fun p hp => q p _ B3 ((e1.trans e2).trans e3) d3 hp ?_⟩
    have q3 := DqAll_ex (e2.trans e3) q1
    unfold stepL
    rw [DqAll_len q3]
    exact DqAll_step q3 _⟩⟩
end
/-- a column of a table of s rows of k -/
theorem placesI_col {s k i : Nat} (hi : i < k) : placesI (s * k) i k = (List.range s).map fun j => i + k * j := by
  unfold placesI sliceBounds sliceRange
  have hk : (0 : Int) < (k : Int) := by omega
  simp only [Option.getD_some, gt_iff_lt, hk, if_true]
  rw [if_neg (show ¬ ((i : Int) < 0) by omega)]
  cases s with
  | zero =>
    rw [Nat.zero_mul]
    have e : max 0 (min (i : Int) ((0 : Nat) : Int)) = 0 := by omega
    rw [e]; rfl
  | succ s =>
    have hm : k ≤ (s + 1) * k := by rw [Nat.succ_mul]; omega
    have e : max 0 (min (i : Int) (((s + 1) * k : Nat) : Int)) = i := by omega
    rw [e, if_pos (by omega)]
    have ec : ((((s + 1) * k : Nat) : Int) - i + k - 1) / (k : Int) = ((s + 1 : Nat) : Int) := by
      have h1 : (((s + 1) * k : Nat) : Int) = ((s + 1 : Nat) : Int) * (k : Int) := Int.natCast_mul _ _
      rw [h1]
      have h2 : ((s + 1 : Nat) : Int) * (k : Int) - i + k - 1 = (k - 1 - i) + ((s + 1 : Nat) : Int) * (k : Int) := by omega
      rw [h2, Int.add_mul_ediv_right _ _ (by omega), Int.ediv_eq_zero_of_lt (by omega) (by omega), Int.zero_add]
    rw [ec, Int.toNat_natCast]
    refine List.map_congr_left fun j _ => ?_
    rw [← Int.natCast_mul, ← Int.natCast_add, Int.toNat_natCast]
theorem step_col {xs : List Int} {s k i : Nat} (hi : i < k) (hl : xs.length = s * k) : stepL xs i k = (List.range s).map fun j => xs.getD (i + k * j) 0 := by
  unfold stepL
  rw [hl, placesI_col hi]
  rw [List.filterMap_map]
  have h : ∀ j ∈ List.range s, ((fun j => xs[j]?) ∘ fun j => i + k * j) j = some (xs.getD (i + k * j) 0) := fun j hj => by
    have hj := List.mem_range.mp hj
    have hb : i + k * j < xs.length := by
      rw [hl]
      have h1 : (j + 1) * k ≤ s * k := Nat.mul_le_mul_right k (by omega)
      rw [Nat.succ_mul, Nat.mul_comm j k] at h1
      omega
    show xs[i + k * j]? = _
    rw [List.getD_eq_getElem?_getD, List.getElem?_eq_getElem hb]; rfl
  have f : ∀ (l : List Nat), (∀ j ∈ l, ((fun j => xs[j]?) ∘ fun j => i + k * j) j = some (xs.getD (i + k * j) 0)) → l.filterMap ((fun j => xs[j]?) ∘ fun j => i + k * j) = l.map fun j => xs.getD (i + k * j) 0 := by
    intro l
    induction l with
    | nil => intro _; rfl
    | cons a l ih => intro g; rw [List.filterMap_cons, g a List.mem_cons_self, List.map_cons, ih fun j hj => g j (List.mem_cons_of_mem _ hj)]
  exact f _ h
theorem step_map {α β : Type} (f : α → β) (xs : List α) (i c : Int) : stepL (xs.map f) i c = (stepL xs i c).map f := by
  unfold stepL
  rw [List.length_map, List.map_filterMap]
  refine congrArg (fun g => List.filterMap g _) (funext fun x => ?_)
  rw [List.getElem?_map]
end Mini

namespace Mini
open PySem L2 Evl PyProof.Rows
/-! ### two loops in a comprehension, over whatever is walked -/
def WkOk (J : It) (B : Hp) (ds : List PyData) : Prop := ∀ B2 M2, Ex B B2 → Dj B2 M2 → (∀ i, ds.length ≤ i → J.stop i (jn B2 M2)) ∧ (∀ i, i < ds.length → J.go i (jn B2 M2)) ∧ ∀ i x H', i < ds.length → J.yld i (jn B2 M2) x H' → H' = jn B2 M2 ∧ ∃ d, ds[i]? = some d ∧ Dq B2 x d
def Wk (wi : TI) (G : Gm) (ds : List PyData) : Prop := ∀ (M0 : Hp) (σ : L2.St) (B M : Hp), Holds M0 G σ B M → ∀ R : It → Hp → Prop, (∀ J B', Ex B B' → Dj B' M → WkOk J B' ds → R J (jn B' M)) → wi σ (jn B M) R
section
variable {K : PySem.W.Frag} {G : Gm} {te tl : TE} {wi wi1 : TI} {j l : Nat} {ds : List PyData} {n : Int}
theorem wk_list (h : Sv tl G (isD (.list ds))) : Wk (iList K tl) G ds := fun M0 σ B M H R q => h M0 σ B M H _ fun v B1 e1 d1 p1 => by
  obtain ⟨a, vs, rfl, hh, q1⟩ := dq_lst p1
  have hlen := DqAll_len q1
  refine ⟨a, rfl, ⟨vs, sq_of (jn_B d1 hh)⟩, q _ B1 e1 d1 fun B2 M2 e2 d2 => ?_⟩
  have hS : SqL K (jn B2 M2) a vs := sq_of (jn_B d2 (e2 _ _ hh))
  refine ⟨fun i hi => ⟨vs, hS, by omega⟩, fun i hi => ⟨vs, vs[i]'(by omega), hS, List.getElem?_eq_getElem (by omega)⟩, fun i x H' hi hy => ?_⟩
  obtain ⟨rfl, hx⟩ := hy
  obtain ⟨d, hd, px⟩ := DqAll_getV q1 (hx vs hS)
  exact ⟨rfl, d, hd, Dq_ex e2 d x px⟩
theorem wk_tup (h : Sv tl G (isD (.tuple ds))) : Wk (iTup K tl) G ds := fun M0 σ B M H R q => h M0 σ B M H _ fun v B1 e1 d1 p1 => by
  obtain ⟨a, vs, rfl, hh, q1⟩ := dq_tup p1
  have hlen := DqAll_len q1
  refine ⟨a, rfl, ⟨vs, st_of (jn_B d1 hh)⟩, q _ B1 e1 d1 fun B2 M2 e2 d2 => ?_⟩
  have hS : SqT K (jn B2 M2) a vs := st_of (jn_B d2 (e2 _ _ hh))
  refine ⟨fun i hi => ⟨vs, hS, by omega⟩, fun i hi => ⟨vs, vs[i]'(by omega), hS, List.getElem?_eq_getElem (by omega)⟩, fun i x H' hi hy => ?_⟩
  obtain ⟨rfl, hx⟩ := hy
  obtain ⟨d, hd, px⟩ := DqAll_getV q1 (hx vs hS)
  exact ⟨rfl, d, hd, Dq_ex e2 d x px⟩
theorem wk_rng (h : Sv te G (isD (.int n))) (h1 : n ≤ 2 ^ 60) (h0 : -(2 ^ 60) ≤ n) : Wk (iRng1 (tCons te tNil)) G ((List.range n.toNat).map fun i : Nat => .int (i : Int)) := fun M0 σ B M H R q => h M0 σ B M H _ fun v B1 e1 d1 p1 => by
  refine ⟨n, by rw [dp_int p1], by omega, by omega, q _ B1 e1 d1 fun B2 M2 e2 d2 => ?_⟩
  rw [List.length_map, List.length_range]
  refine ⟨fun i hi => hi, fun i hi => hi, fun i x H' hi hy => ?_⟩
  obtain ⟨rfl, rfl⟩ := hy
  refine ⟨rfl, .int (i : Int), ?_, ?_⟩
  · rw [List.getElem?_map, List.getElem?_range hi]; rfl
  · rw [Int.zero_add]; exact .int _
theorem svl_lc2 (h : Wk wi G ds) (es : PyData → List PyData) (y : PyData → PyData → PyData) (hj : j < G.length) (hl : l < G.length) (hjl : j ≠ l) (hz : (ds.flatMap fun d => (es d).map (y d)).length < 10000000) (hi : ∀ d ∈ ds, Wk wi1 (Gv2 G j l d) (es d)) (he : ∀ d ∈ ds, ∀ f ∈ es d, Sv te (Gv (Gv2 G j l d) l f) (isD (y d f))) :
    Svl (tLc2 wi (gName j) tYes wi1 (gName l) tYes te [j, l] [l]) G (ds.flatMap fun d => (es d).map (y d)) := fun M0 σ B M H Q q => h M0 σ B M H _ fun J B1 e1 d1 w1 Dl hD => by
  have hM := (jn_free hD).2
  let F : PyData → List PyData := fun d => (es d).map (y d)
  refine ⟨fun i m H' => i ≤ ds.length ∧ m = ds.length - i ∧ Pvc B1 M Dl (fun i => (ds.take i).flatMap F) i H', ⟨ds.length, Nat.zero_le _, rfl, B1, [], by rw [upd_own], Ex.refl B1, dj_own d1 (jn_free hD).1, .nil⟩, fun i m H' hW => ?_⟩
  obtain ⟨hle, rfl, B', acc, rfl, e, dj, ha⟩ := hW
  have hB' : B' Dl = none := dj_free dj upd_same
  have djM : Dj B' M := fun a u q => by
    have := dj a u q
    by_cases z : a = Dl
    · rw [z]; exact hM
    · rw [upd_ne z] at this; exact this
  obtain ⟨w1s, w1g, w1y⟩ := w1 B' (upd M Dl (.lst acc)) e dj
  by_cases z : i < ds.length
  · refine .inr ⟨w1g i z, fun H' => Pvc B1 M Dl (fun i => (ds.take i).flatMap F) (i + 1) H', fun H' p => ⟨ds.length - (i + 1), by omega, by omega, rfl, p⟩, fun x H' hy => ?_⟩
    obtain ⟨rfl, d, hd, px⟩ := w1y i x H' z hy
    refine ⟨wipe_two σ hjl x, ?_⟩
    have H2 : Holds M0 (Gv2 G j l d) ((L2.wipe σ [j, l]).set j (some x)) B' (upd M Dl (.lst acc)) := by
      have h1 := (((H.ext e1 d1).ext e djM).wipes [j, l]).more (p := Dl) (o := .lst acc) (show jn B' M Dl = none by rw [jn_N hM]; exact hB')
      exact h1.setIm (by show j < ((G.set l .no).set j .no).length; rw [List.length_set, List.length_set]; exact hj) px
    refine tyes_ite ?_
    refine hi d (List.mem_of_getElem? hd) M0 _ _ _ H2 _ fun J4 B4 e4 d4 w4 => ?_
    have hlt : ((ds.take (i + 1)).flatMap F) = (ds.take i).flatMap F ++ F d := by rw [List.take_succ, hd, List.flatMap_append]; simp
    have hFl : (F d).length = (es d).length := List.length_map _
    have htot : ((ds.take i).flatMap F).length + (F d).length < 10000000 := by
      rw [← List.length_append, ← hlt]
      have e2 : ds.flatMap F = (ds.take (i + 1)).flatMap F ++ (ds.drop (i + 1)).flatMap F := by rw [← List.flatMap_append, List.take_append_drop]
      have hz' : (ds.flatMap F).length < 10000000 := hz
      rw [e2, List.length_append] at hz'
      omega
    refine ⟨fun r k H' => r ≤ (es d).length ∧ k = (es d).length - r ∧ ∃ B5 acc5, H' = jn B5 (upd M Dl (.lst acc5)) ∧ Ex B4 B5 ∧ Dj B5 (upd M Dl (.lst acc5)) ∧ DqAll B5 acc5 ((ds.take i).flatMap F ++ (F d).take r), ⟨(es d).length, Nat.zero_le _, rfl, B4, acc, rfl, Ex.refl _, d4, ?_⟩, fun r k H' hW1 => ?_⟩
    · rw [List.take_zero, List.append_nil]
      exact DqAll_ex e4 ha
    obtain ⟨hr, rfl, B5, acc5, rfl, e5, dj5, ha5⟩ := hW1
    obtain ⟨w4s, w4g, w4y⟩ := w4 B5 (upd M Dl (.lst acc5)) e5 dj5
    have hB5 : B5 Dl = none := dj_free dj5 upd_same
    have djM5 : Dj B5 M := fun a u q => by
      have := dj5 a u q
      by_cases z : a = Dl
      · rw [z]; exact hM
      · rw [upd_ne z] at this; exact this
    by_cases zr : r < (es d).length
    · refine .inr ⟨w4g r zr, fun H' => ∃ B5 acc5, H' = jn B5 (upd M Dl (.lst acc5)) ∧ Ex B4 B5 ∧ Dj B5 (upd M Dl (.lst acc5)) ∧ DqAll B5 acc5 ((ds.take i).flatMap F ++ (F d).take (r + 1)), fun H' p => ⟨(es d).length - (r + 1), by omega, by omega, rfl, p⟩, fun x1 H' hy1 => ?_⟩
      obtain ⟨rfl, f, hf, py⟩ := w4y r x1 H' zr hy1
      refine ⟨wipe_one _ l x1, ?_⟩
      refine tyes_ite ?_
      have e15 : Ex B1 B5 := (e.trans e4).trans e5
      have H5 : Holds M0 (Gv2 G j l d) ((L2.wipe σ [j, l]).set j (some x)) B5 (upd M Dl (.lst acc5)) := by
        have h1 := (((H.ext e1 d1).ext e15 djM5).wipes [j, l]).more (p := Dl) (o := .lst acc5) (show jn B5 M Dl = none by rw [jn_N hM]; exact hB5)
        exact h1.setIm (by show j < ((G.set l .no).set j .no).length; rw [List.length_set, List.length_set]; exact hj) (Dq_ex (e4.trans e5) d x px)
      have H6 : Holds M0 (Gv (Gv2 G j l d) l f) ((L2.wipe ((L2.wipe σ [j, l]).set j (some x)) [l]).set l (some x1)) B5 (upd M Dl (.lst acc5)) :=
        (H5.wipes [l]).setIm (by show l < ((((G.set l .no).set j .no).set j (.im (isD d))).set l .no).length; rw [List.length_set, List.length_set, List.length_set, List.length_set]; exact hl) py
      refine he d (List.mem_of_getElem? hd) f (List.mem_of_getElem? hf) M0 _ _ _ H6 _ fun v B7 e7 d7 p7 => ?_
      refine ⟨acc5, jn_M upd_same, ?_, ?_⟩
      · rw [DqAll_len ha5, List.length_append, List.length_take, sizeLine_eq]; omega
      · rw [upd_own, upd_upd]
        refine ⟨B7, acc5 ++ [v], rfl, e5.trans e7, ?_, ?_⟩
        · intro a u q
          have := d7 a u q
          by_cases z : a = Dl
          · rw [z, upd_same] at this; cases this
          · rw [upd_ne z] at this ⊢; exact this
        · have hFr : (F d)[r]? = some (y d f) := by show ((es d).map (y d))[r]? = _; rw [List.getElem?_map, hf]; rfl
          rw [List.take_succ, hFr, ← List.append_assoc]
          exact DqAll_append (DqAll_ex e7 ha5) (.cons p7 .nil)
    · have er : r = (es d).length := by omega
      subst er
      refine .inl ⟨w4s _ (Nat.le_refl _), B5, acc5, rfl, (e.trans e4).trans e5, dj5, ?_⟩
      show DqAll B5 acc5 ((ds.take (i + 1)).flatMap F)
      rw [hlt]
      rw [← hFl, List.take_length] at ha5
      exact ha5
  · have ei : i = ds.length := by omega
    subst ei
    refine .inl ⟨w1s _ (Nat.le_refl _), ?_⟩
    refine lc_end (es := fun i => (ds.take i).flatMap F) (i := ds.length) hM (Ex.refl _) (fun p us B2 e2 dj2 hf hv => ?_) _ ⟨B', acc, rfl, e, dj, ha⟩
    rw [List.take_length] at hv
    exact q p us B2 (e1.trans e2) dj2 hf hv
end
/-! ### what stands where in lists put together -/
theorem flat_len {α : Type} {f : Nat → List α} {L : Nat} (hf : ∀ q, (f q).length = L) : ∀ s : Nat, ((List.range s).flatMap f).length = s * L
  | 0 => by simp
  | s + 1 => by rw [List.range_succ, List.flatMap_append, List.length_append, flat_len hf s, Nat.succ_mul]; simp [hf]
theorem flat_get {α : Type} {f : Nat → List α} {L : Nat} (hf : ∀ q, (f q).length = L) (d : α) {q k : Nat} (hk : k < L) : ∀ s : Nat, q < s → ((List.range s).flatMap f).getD (q * L + k) d = (f q).getD k d
  | 0, h => by omega
  | s + 1, h => by
    rw [List.range_succ, List.flatMap_append]
    have hl := flat_len hf s
    by_cases z : q < s
    · have hb : q * L + k < s * L := by
        have : (q + 1) * L ≤ s * L := Nat.mul_le_mul_right L z
        rw [Nat.succ_mul] at this
        omega
      rw [List.getD_eq_getElem?_getD, List.getElem?_append_left (by rw [hl]; exact hb), ← List.getD_eq_getElem?_getD]
      exact flat_get hf d hk s z
    · have e : q = s := by omega
      subst e
      rw [List.getD_eq_getElem?_getD, List.getElem?_append_right (by rw [hl]; omega), hl]
      have e2 : q * L + k - q * L = k := by omega
      rw [e2]
      simp
end Mini

namespace Mini
open PySem L2 Evl PyProof.Rows
theorem pe_tupleOfK {X : Cx} {K : PySem.W.Frag} {a : Expr} {ta : TE} {p pos : Pos} (hg : Gl X "tuple") (hm : X.mg "tuple" = none) (ha : PE X a ta) (na : starEach [a] X.env = (false, eval a X.env) :: starEach [] X.env := by rfl) (hK : X.K = K := by rfl) : PE X (.Call (.Name "tuple" p) [a] [] pos) (tThen ta (kTup K)) := by
  subst hK
  exact pe_tupleOf hg hm ha na
/-- a comprehension within a comprehension -/
theorem blkOk_in {N : List Str} {scope sc0 scD : Scope} {own : List (Str × Nat)} {env : Env} (hs : env.scope = scD) (h : blkC N (relabel sc0 (envOfC "" scD 0 0 .none)) scope own = true) : BlkOk N (relabel sc0 env) scope own := by
  have e : relabel sc0 env = relabel sc0 (envOfC "" scD 0 0 .none) := by
    unfold relabel Env.kindOf
    rw [hs]
    rfl
  rw [e]
  exact blkOk_by h
end Mini

namespace Mini
open PySem L2 Evl PyProof.Rows
section
variable {K : PySem.W.Frag} {E : L2.St → XK} {tu ts : TS} {te tl ta tb : TE} {tt : TT} {G : Gm} {o : Out} {ds es : List PyData} {n lo hi : Int} {j l : Nat}
/-- for i, x in enumerate(a list that stays) -/
theorem ss_forE (h : Sv tl G (isD (.list ds))) (Gi : Nat → Gm) (N : Nat) (hN : N ≤ ds.length) (h0 : Le G (Gi 0)) (hj : ∀ i, i ≤ N → j < (Gi i).length) (hl : ∀ i, i ≤ N → l < (Gi i).length)
    (hs : ∀ i d, ds[i]? = some d → i < N → Turn E tu (((Gi i).set j (.im (isD (.int (i : Int))))).set l (.im (isD d))) (Gi (i + 1)))
    (hd : EndsAs E tu Gi (fun i => ((Gi i).set j (.im (isD (.int (i : Int))))).set l (.im (isD (ds.getD i .none)))) N ds.length o) :
    Ss E (tFor (iEnum K (tCons tl tNil)) (gTup K 2 (gCons (gName j) (gCons (gName l) gNil))) tu) G o := fun M0 D σ B M H q =>
  h M0 σ B M H _ fun v B1 e1 d1 p1 => by
    obtain ⟨a, vs, rfl, ha, hv⟩ := dq_lst p1
    have hlen := DqAll_len hv
    refine ⟨a, vs, rfl, sq_of (jn_B d1 ha), ?_⟩
    refine ⟨fun i m σ H => m = vs.length - i ∧ i ≤ vs.length ∧ Pvl M0 B1 Gi N i σ H, ⟨vs.length, by simp, Nat.zero_le _, Nat.zero_le _, B1, M, rfl, Ex.refl B1, (H.ext e1 d1).le h0⟩, ?_⟩
    rintro i m σ' H1 ⟨rfl, hi, p⟩
    obtain ⟨hiN, B', M', rfl, e, H'⟩ := p
    have hS : SqL K (jn B' M') a vs := sq_of (jn_B H'.dj (e _ _ ha))
    by_cases hlt : i < vs.length
    · refine .inr ⟨⟨vs, vs[i], hS, List.getElem?_eq_getElem hlt⟩, Pvl M0 B1 Gi N (i + 1), fun σ' H' p' => ⟨vs.length - (i + 1), by omega, rfl, hlt, p'⟩, fun x H2 y => ?_⟩
      obtain ⟨t, x, rfl, ht, rfl, hx⟩ := y
      obtain ⟨d, hd1, px⟩ := DqAll_getV hv (hx vs hS)
      rw [upd_new ht]
      have dj2 := dj_new (o := .tup [.int (i : Nat), x]) H'.dj ht
      have ex2 := ex_new (o := .tup [.int (i : Nat), x]) ht
      refine ⟨t, _, rfl, st_of (jn_B dj2 upd_same), rfl, _, _, rfl, _, _, rfl, rfl, ?_⟩
      have HH := ((H'.ext ex2 dj2).setIm (hj i hiN) (P := isD (.int (i : Int))) (v := .int (i : Int)) (Dq.int _)).setIm (n := l) (P := isD d) (v := x) (by rw [List.length_set]; exact hl i hiN) (Dq_ex (e.trans ex2) d x px)
      refine turn_ok (o := o) hiN HH (e.trans ex2) (fun w => hs i d hd1 w) (fun w => ?_) (q.ext e1)
      rcases hd with ⟨b, _⟩ | ⟨_, b⟩
      · omega
      · have z : ds.getD N .none = d := by rw [← w, List.getD_eq_getElem?_getD, hd1]; rfl
        dsimp only at b
        rw [z, ← w] at b
        exact b
    · refine .inl ⟨⟨vs, hS, by omega⟩, ?_⟩
      rcases hd with ⟨b, c⟩ | ⟨b, _⟩
      · rw [c] at q
        have ei : i = N := by omega
        rw [ei] at H'
        exact q σ' B' M' (e1.trans e) H'
      · omega
/-- min(m, n) -/
theorem sv_min2 {i k : Int} (ha : Sv ta G (isD (.int i))) (hb : Sv tb G (isD (.int k))) : Sv (tCB (fun xs H Q => ∃ i j, xs = [.int i, .int j] ∧ Q (.int (if j < i then j else i)) H) (tCons ta (tCons tb tNil))) G (isD (.int (if k < i then k else i))) := fun M0 σ B M H Q q => ha M0 σ B M H _ fun x B1 e1 d1 p1 => hb M0 σ B1 M (H.ext e1 d1) _ fun y B2 e2 d2 p2 =>
  ⟨i, k, by rw [dp_int p1, dp_int p2], q _ B2 (e1.trans e2) d2 (.int _)⟩
end
end Mini

namespace Mini
open PySem L2 Evl PyProof.Rows
/-! ### data that may stand in the module's own top -/
def KT (K : PySem.W.Frag) (a : Addr) (xs : List V) : Prop := ∃ (o : Obj) (its : Array Value) (n : Nat), K.lookup a = some o ∧ o.cls = .type "tuple" ∧ o.data = .seq its n ∧ its.size ≤ sizeLine ∧ Vals xs its.toList
theorem KT.st {K : PySem.W.Frag} {a : Addr} {xs : List V} (h : KT K a xs) (H : Hp) : SqT K H a xs := Or.inr h
mutual
inductive DqK (K : PySem.W.Frag) (H : Hp) : V → PyData → Prop
  | non : DqK K H .non .none
  | bl (b : Bool) : DqK K H (.bl b) (.bool b)
  | int (i : Int) : DqK K H (.int i) (.int i)
  | str (x : Str) : DqK K H (.str x) (.str x)
  | lst {a : Addr} {xs : List V} {ds : List PyData} : H a = some (.lst xs) → DqKA K H xs ds → DqK K H (.ref a) (.list ds)
  | tup {a : Addr} {xs : List V} {ds : List PyData} : (H a = some (.tup xs) ∨ KT K a xs) → DqKA K H xs ds → DqK K H (.ref a) (.tuple ds)
inductive DqKA (K : PySem.W.Frag) (H : Hp) : List V → List PyData → Prop
  | nil : DqKA K H [] []
  | cons {v : V} {vs : List V} {d : PyData} {ds : List PyData} : DqK K H v d → DqKA K H vs ds → DqKA K H (v :: vs) (d :: ds)
end
theorem DqK_ex {K : PySem.W.Frag} {H H' : Hp} (e : Ex H H') : ∀ (d : PyData) (v : V), DqK K H v d → DqK K H' v d
  | .none, _, h => by cases h; exact .non
  | .bool b, _, h => by cases h; exact .bl b
  | .int i, _, h => by cases h; exact .int i
  | .str x, _, h => by cases h; exact .str x
  | .list ds, _, h => by
    cases h with
    | lst hs ha => exact .lst (e _ _ hs) (go e ds _ ha)
  | .tuple ds, _, h => by
    cases h with
    | tup hs ha => exact .tup (hs.imp (e _ _) id) (go e ds _ ha)
  | .dict _, _, h => by cases h
where
  go {K : PySem.W.Frag} {H H' : Hp} (e : Ex H H') : ∀ (ds : List PyData) (vs : List V), DqKA K H vs ds → DqKA K H' vs ds
  | [], _, h => by cases h; exact .nil
  | d :: ds, _, h => by
    cases h with
    | cons a b => exact .cons (DqK_ex e d _ a) (go e ds _ b)
theorem Dq_K {K : PySem.W.Frag} {H : Hp} : ∀ (d : PyData) (v : V), Dq H v d → DqK K H v d
  | .none, _, h => by cases h; exact .non
  | .bool b, _, h => by cases h; exact .bl b
  | .int i, _, h => by cases h; exact .int i
  | .str x, _, h => by cases h; exact .str x
  | .list ds, _, h => by
    cases h with
    | lst hs ha => exact .lst hs (go ds _ ha)
  | .tuple ds, _, h => by
    cases h with
    | tup hs ha => exact .tup (.inl hs) (go ds _ ha)
  | .dict _, _, h => by cases h
where
  go {K : PySem.W.Frag} {H : Hp} : ∀ (ds : List PyData) (vs : List V), DqAll H vs ds → DqKA K H vs ds
  | [], _, h => by cases h; exact .nil
  | d :: ds, _, h => by
    cases h with
    | cons a b => exact .cons (Dq_K d _ a) (go ds _ b)
theorem DqKA_len {K : PySem.W.Frag} {H : Hp} : ∀ {ds : List PyData} {vs : List V}, DqKA K H vs ds → vs.length = ds.length
  | [], _, h => by cases h; rfl
  | d :: ds, _, h => by cases h with | cons a b => simp [DqKA_len b]
theorem DqKA_get {K : PySem.W.Frag} {H : Hp} : ∀ {ds : List PyData} {vs : List V} {i : Nat} {d : PyData}, DqKA K H vs ds → ds[i]? = some d → ∃ v, vs[i]? = some v ∧ DqK K H v d
  | [], _, i, d, h, e => by simp at e
  | x :: ds, _, 0, d, h, e => by
    cases h with | cons a b => simp at e; subst e; exact ⟨_, rfl, a⟩
  | x :: ds, _, i + 1, d, h, e => by
    cases h with | cons a b => simpa using DqKA_get (i := i) b (by simpa using e)
/-- what is a whole number, a truth, a text or nothing -/
def AtomP : PyData → Prop
  | .int _ => True
  | .bool _ => True
  | .none => True
  | .str s => PyData.strOk s = true
  | _ => False
def isP (K : PySem.W.Frag) (d : PyData) : Ty := ⟨fun v B => DqK K B v d, fun e h => DqK_ex e d _ h⟩
section
variable {K : PySem.W.Frag} {E : L2.St → XK} {G : Gm} {te ta tb tl : TE} {tas : TA} {d : PyData} {ds es : List PyData} {i : Int} {b : Bool}
theorem sv_pD (h : Sv te G (isD d)) : Sv te G (isP K d) := fun M0 σ B M H Q q => h M0 σ B M H Q fun v B' e dj p => q v B' e dj (Dq_K d v p)
theorem sv_pA (ha : AtomP d) (h : Sv te G (isP K d)) : Sv te G (isD d) := fun M0 σ B M H Q q => h M0 σ B M H Q fun v B' e dj p => q v B' e dj (by
  have p : DqK K B' v d := p
  show Dq B' v d
  cases d with
  | none => cases p; exact .non
  | bool b => cases p; exact .bl b
  | int i => cases p; exact .int i
  | str x => cases p; exact .str x
  | _ => exact absurd ha (by simp [AtomP]))
theorem sv_pS {e : PyData} (h : Sv te G (isP K d)) (q : d = e) : Sv te G (isP K e) := q ▸ h
theorem sv_pK {v : V} (h : ∀ B, DqK K B v d) : Sv (tC v) G (isP K d) := sv_cV h
theorem jn_st {B M : Hp} {a : Addr} {xs : List V} (dj : Dj B M) (h : B a = some (.tup xs) ∨ KT K a xs) : SqT K (jn B M) a xs := by
  rcases h with h | h
  · exact st_of (jn_B dj h)
  · exact h.st _
theorem sv_lenP (ha : Sv ta G (isP K (.tuple ds))) : Sv (tCB (fun xs H Q => ∃ x n, xs = [x] ∧ LenV K x H n ∧ Q (.int n) H) (tCons ta tNil)) G (isD (.int ds.length)) := fun M0 σ B M H Q q => ha M0 σ B M H _ fun x B1 e1 d1 p1 => by
  cases (show DqK K B1 x (.tuple ds) from p1) with
  | tup hs hh => exact ⟨_, ds.length, rfl, .inr ⟨_, jn_st d1 hs, (DqKA_len hh).symm⟩, q _ B1 e1 d1 (.int _)⟩
theorem sv_lenPL (ha : Sv ta G (isP K (.list ds))) : Sv (tCB (fun xs H Q => ∃ x n, xs = [x] ∧ LenV K x H n ∧ Q (.int n) H) (tCons ta tNil)) G (isD (.int ds.length)) := fun M0 σ B M H Q q => ha M0 σ B M H _ fun x B1 e1 d1 p1 => by
  cases (show DqK K B1 x (.list ds) from p1) with
  | lst hs hh => exact ⟨_, ds.length, rfl, .inl ⟨_, sq_of (jn_B d1 hs), (DqKA_len hh).symm⟩, q _ B1 e1 d1 (.int _)⟩
theorem DqKA_atI {B : Hp} {vs : List V} (h : DqKA K B vs ds) {i : Int} (e : atI ds i = some d) : ∃ v, atI vs i = some v ∧ DqK K B v d := by
  unfold atI at e ⊢
  rw [DqKA_len h]
  cases q : ixN ds.length i with
  | none => rw [q] at e; cases e
  | some j => rw [q] at e; exact DqKA_get h e
theorem sv_ixP (ha : Sv ta G (isP K (.tuple ds))) (hb : Sv tb G (isD (.int i))) (hi : atI ds i = some d) : Sv (tOp (rIx K) ta tb) G (isP K d) := fun M0 σ B M H Q q =>
  ha M0 σ B M H _ fun x B1 e1 d1 p1 => hb M0 σ B1 M (H.ext e1 d1) _ fun y B2 e2 d2 p2 => by
    cases (show DqK K B2 x (.tuple ds) from (isP K (.tuple ds)).mono e2 p1) with
    | tup hs hh =>
      rw [dp_int p2]
      obtain ⟨v, h1, h2⟩ := DqKA_atI hh hi
      exact .inr (.inl ⟨_, _, i, v, rfl, rfl, jn_st d2 hs, h1, q v B2 (e1.trans e2) d2 h2⟩)
theorem sv_ixPL (ha : Sv ta G (isP K (.list ds))) (hb : Sv tb G (isD (.int i))) (hi : atI ds i = some d) : Sv (tOp (rIx K) ta tb) G (isP K d) := fun M0 σ B M H Q q =>
  ha M0 σ B M H _ fun x B1 e1 d1 p1 => hb M0 σ B1 M (H.ext e1 d1) _ fun y B2 e2 d2 p2 => by
    cases (show DqK K B2 x (.list ds) from (isP K (.list ds)).mono e2 p1) with
    | lst hs hh =>
      rw [dp_int p2]
      obtain ⟨v, h1, h2⟩ := DqKA_atI hh hi
      exact .inl ⟨_, _, i, v, rfl, rfl, sq_of (jn_B d2 hs), h1, q v B2 (e1.trans e2) d2 h2⟩
theorem DqK_ty {H : Hp} {v : V} (h : DqK K H v d) : TyX K H v (.type (tyName d)) := by
  cases h with
  | non => exact .base .non
  | bl b => exact .base (.bl b)
  | int i => exact .base (.int i)
  | str x => exact .base (.str x)
  | lst e _ => exact .base (.lst e)
  | tup e _ =>
    rcases e with e | ⟨o, its, n, e, c, _⟩
    · exact .base (.tup e)
    · exact .kTuple e c
theorem sv_isiP {n : String} (ha : Sv ta G (isP K d)) (hb : Sv tb G (isV (.ty n))) (h : kitB (tyName d) n = some b) : Sv (tCB (rIsi K) (tCons ta (tCons tb tNil))) G (isD (.bool b)) := fun M0 σ B M H Q q =>
  ha M0 σ B M H _ fun x B1 e1 d1 p1 => hb M0 σ B1 M (H.ext e1 d1) _ fun y B2 e2 d2 p2 => ⟨x, y, _, _, b, rfl, by rw [show y = .ty n from p2]; exact .ty n, DqK_ty (DqK_ex (e2.trans (jn_ex d2)) d x p1), kit_ty h, q _ B2 (e1.trans e2) d2 (.bl _)⟩
theorem sv_isTupP (ha : Sv ta G (isP K d)) : Sv (tCB (rIsi K) (tCons ta (tCons (tC (.ty "tuple")) tNil))) G (isD (.bool (dTup d))) := sv_isiP ha sv_val (kit_tup d)
theorem sv_isLstP (ha : Sv ta G (isP K d)) : Sv (tCB (rIsi K) (tCons ta (tCons (tC (.ty "list")) tNil))) G (isD (.bool (dLst d))) := sv_isiP ha sv_val (kit_lst d)
theorem arsP {B M : Hp} : ∀ {ds : List PyData} {vs : List V}, ArsOk (ds.map fun d => .im (isP K d)) vs B M → DqKA K B vs ds
  | [], _, h => by cases h; exact .nil
  | d :: ds, _, h => by cases h with | cons a b => exact .cons a (arsP b)
theorem sv_tupP (h : Sa tas G (ds.map fun d => .im (isP K d))) (hz : ds.length ≤ sizeLine) : Sv (tTup tas) G (isP K (.tuple ds)) := fun M0 σ B M H Q q => h M0 σ B M H _ fun vs B1 e1 d1 p1 => by
  have p2 := arsP p1
  refine ⟨by rw [DqKA_len p2]; exact hz, fun t ht => ?_⟩
  rw [upd_new ht]
  exact q _ _ (e1.trans (ex_new ht)) (dj_new d1 ht) (.tup (.inl upd_same) (DqK_ex.go (ex_new ht) ds vs p2))
theorem sa_pms {tr : TA} (h : Sv te G (isP K d)) (hr : Sa tr G (ds.map fun d => .im (isP K d))) : Sa (tCons te tr) G ((d :: ds).map fun d => .im (isP K d)) := sa_im h hr
end
end Mini

namespace Mini
open PySem L2 Evl PyProof.Rows
section
variable {K : PySem.W.Frag} {E : L2.St → XK} {G : Gm} {td ty tl tk : TE} {j l n : Nat} {k : Int} {kvs : List (Int × Int)} {ds : List PyData}
/-- {e: k for k, x in enumerate(xs)}, not stored -/
theorem sv_dcE (h : Rl tl G ds) (kf : PyData → Int) (hj : j < G.length) (hl : l < G.length) (hjl : j ≠ l) (hz : ds.length < 1000000) (hk : ∀ i d, ds[i]? = some d → Sv tk (GvE G j l i d) (isD (.int (kf d)))) :
    Sv (tDc (iEnum K (tCons tl tNil)) (gTup K 2 (gCons (gName j) (gCons (gName l) gNil))) tYes tk (tVar j) [j, l]) G (isDi (dE kf ds ds.length)) := fun M0 σ B M H Q q => h M0 σ B M H _ fun a vs B1 e1 d1 hh q1 => by
  have hlen := DqAll_len q1
  refine ⟨a, vs, rfl, sq_of hh, fun Dl hD => ?_⟩
  have hM := (jn_free hD).2
  refine ⟨fun i m H' => i ≤ vs.length ∧ m = vs.length - i ∧ ∃ B', H' = jn B' (upd M Dl (.dK (dkV (dE kf ds i)))) ∧ Ex B1 B' ∧ Dj B' (upd M Dl (.dK (dkV (dE kf ds i)))), ⟨vs.length, Nat.zero_le _, rfl, B1, by rw [upd_own]; rfl, Ex.refl B1, dj_own d1 (jn_free hD).1⟩, fun i m H' hW => ?_⟩
  obtain ⟨hle, rfl, B', rfl, e, dj⟩ := hW
  have hB' : B' Dl = none := dj_free dj upd_same
  have djM : Dj B' M := fun a u q => by
    have := dj a u q
    by_cases z : a = Dl
    · rw [z]; exact hM
    · rw [upd_ne z] at this; exact this
  have hS : SqL K (jn B' (upd M Dl (.dK (dkV (dE kf ds i))))) a vs := by
    refine sq_of ?_
    have hne : a ≠ Dl := fun z => by rw [z, hD] at hh; cases hh
    unfold jn at hh ⊢
    rw [upd_ne hne]
    cases z : M a with
    | some u => rw [z] at hh; exact hh
    | none => rw [z] at hh; exact e _ _ hh
  by_cases z : i < vs.length
  · refine .inr ⟨⟨vs, vs[i], hS, List.getElem?_eq_getElem z⟩, fun H' => ∃ B', H' = jn B' (upd M Dl (.dK (dkV (dE kf ds (i + 1))))) ∧ Ex B1 B' ∧ Dj B' (upd M Dl (.dK (dkV (dE kf ds (i + 1))))), fun H' p => ⟨vs.length - (i + 1), by omega, by omega, rfl, p⟩, fun v H' hy => ?_⟩
    obtain ⟨t, x, rfl, ht, rfl, hx⟩ := hy
    obtain ⟨d, hd, px⟩ := DqAll_getV q1 (hx vs hS)
    rw [upd_new ht]
    refine ⟨t, _, rfl, st_of (jn_B (dj_new dj ht) upd_same), rfl, _, _, rfl, _, _, rfl, rfl, ?_⟩
    refine ⟨wipe_two2 σ hjl _ _, ?_⟩
    have et : Ex B' (upd B' t (.tup [V.int i, x])) := ex_new ht
    have djt : Dj (upd B' t (.tup [V.int i, x])) (upd M Dl (.dK (dkV (dE kf ds i)))) := dj_new dj ht
    have H2 : Holds M0 (GvE G j l i d) (((L2.wipe σ [j, l]).set j (some (V.int i))).set l (some x)) (upd B' t (.tup [V.int i, x])) (upd M Dl (.dK (dkV (dE kf ds i)))) := by
      have h1 := ((((H.ext e1 d1).ext e djM).wipes [j, l]).more (p := Dl) (o := .dK (dkV (dE kf ds i))) (show jn B' M Dl = none by rw [jn_N hM]; exact hB')).ext et djt
      have h2 := h1.setIm (n := j) (v := V.int i) (P := isD (.int (i : Int))) (by show j < ((G.set l .no).set j .no).length; rw [List.length_set, List.length_set]; exact hj) (.int _)
      exact h2.setIm (by rw [List.length_set]; show l < ((G.set l .no).set j .no).length; rw [List.length_set, List.length_set]; exact hl) (Dq_ex (e.trans et) d x px)
    refine tyes_ite ?_
    refine hk i d hd M0 _ _ _ H2 _ fun y B4 e4 d4 p4 => ?_
    have hjj : (((L2.wipe σ [j, l]).set j (some (V.int i))).set l (some x))[j]? = some (some (V.int i)) := by
      rw [List.getElem?_set_ne (Ne.symm hjl)]
      exact List.getElem?_set_self (by show j < ((σ.set l none).set j none).length; rw [List.length_set, List.length_set, H.len]; exact hj)
    refine ⟨_, hjj, dkV (dE kf ds i), Sum.inl (kf d), dp_int p4, jn_M upd_same, ?_, ?_⟩
    · have := dE_len kf ds i
      unfold dkV
      rw [List.length_map, sizeLine_eq]
      omega
    · have ed : ds.getD i .none = d := by rw [List.getD_eq_getElem?_getD, hd]; rfl
      refine ⟨B4, ?_, (e.trans et).trans e4, ?_⟩
      · rw [upd_own, upd_upd, put_dkV]
        show _ = jn B4 (upd M Dl (.dK (dkV (putI (dE kf ds i) (kf (ds.getD i .none)) i))))
        rw [ed]
      · intro b u q
        have := d4 b u q
        by_cases z : b = Dl
        · rw [z, upd_same] at this; cases this
        · rw [upd_ne z] at this ⊢; exact this
  · have ei : i = vs.length := by omega
    subst ei
    refine .inl ⟨⟨vs, hS, Nat.le_refl _⟩, ?_⟩
    rw [jn_push hM, hlen]
    have hDn : jn B' M Dl = none := by rw [jn_N hM]; exact hB'
    have eN : Ex B' (upd B' Dl (.dK (dkV (dE kf ds ds.length)))) := ex_new hDn
    rw [hlen] at dj
    have djN : Dj (upd B' Dl (.dK (dkV (dE kf ds ds.length)))) M := dj_push dj hM
    exact q _ _ ((e1.trans e).trans eN) djN ⟨Dl, rfl, upd_same⟩
end
/-- a tuple of the module's own top -/
def KTD (K : PySem.W.Frag) (a : Addr) (xs : List V) : Prop := ∃ (its : Array Value) (n : Nat) (sl : Array (Option Value)), K.lookup a = some ⟨.type "tuple", none, .seq its n, sl⟩ ∧ its.size ≤ sizeLine ∧ Vals xs its.toList
theorem KTD.kt {K : PySem.W.Frag} {a : Addr} {xs : List V} (h : KTD K a xs) : KT K a xs := by
  obtain ⟨its, n, sl, h1, h2, h3⟩ := h
  exact ⟨_, its, n, h1, rfl, rfl, h2, h3⟩
theorem KTD.ty {K : PySem.W.Frag} {a : Addr} {xs : List V} (h : KTD K a xs) (H : Hp) : tyV K "tuple" (.ref a) H := by
  obtain ⟨its, n, sl, h1, h2, h3⟩ := h
  exact .inr (.inl ⟨rfl, _, h1, rfl, rfl⟩)
/-- things of their own types in a tuple -/
def isTT (Ps : List Ty) : Ty := ⟨fun v B => ∃ a vs, v = .ref a ∧ B a = some (.tup vs) ∧ AllP B vs Ps, fun e ⟨a, vs, h1, h2, h3⟩ => ⟨a, vs, h1, e _ _ h2, h3.ext e⟩⟩
theorem ars_all {B M : Hp} : ∀ {Ps : List Ty} {vs : List V}, ArsOk (Ps.map fun P => .im P) vs B M → AllP B vs Ps
  | [], _, h => by cases h; exact .nil
  | P :: Ps, _, h => by cases h with | cons a b => exact .cons a (ars_all b)
theorem AllP.at {B : Hp} {vs : List V} {Ps : List Ty} (h : AllP B vs Ps) {i : Nat} {P : Ty} (e : Ps[i]? = some P) : ∃ v, vs[i]? = some v ∧ P.p v B := by
  induction h generalizing i with
  | nil => simp at e
  | @cons u Q us Qs a b ih =>
    cases i with
    | zero => simp at e; subst e; exact ⟨u, rfl, a⟩
    | succ i => exact ih e
section
variable {K : PySem.W.Frag} {E : L2.St → XK} {G : Gm} {te ta tb : TE} {tas : TA} {P : Ty} {Ps : List Ty} {n : Nat} {i : Int} {C : Addr} {fs : List (Str × Ty)} {f : Str} {a : Addr} {x : Str} {ys : List Str}
theorem sv_tt (h : Sa tas G (Ps.map fun P => .im P)) (hz : Ps.length ≤ sizeLine) : Sv (tTup tas) G (isTT Ps) := fun M0 σ B M H Q q => h M0 σ B M H _ fun vs B1 e1 d1 p1 => by
  have p2 := ars_all p1
  refine ⟨by rw [p2.len]; exact hz, fun t ht => ?_⟩
  rw [upd_new ht]
  exact q _ _ (e1.trans (ex_new ht)) (dj_new d1 ht) ⟨t, vs, rfl, upd_same, p2.ext (ex_new ht)⟩
theorem sv_ixTT {m : Nat} (ha : Sv ta G (isTT Ps)) (hb : Sv tb G (isD (.int i))) (hi : i = (m : Int)) (hm : Ps[m]? = some P) : Sv (tOp (rIx K) ta tb) G P := fun M0 σ B M H Q q =>
  ha M0 σ B M H _ fun x B1 e1 d1 p1 => hb M0 σ B1 M (H.ext e1 d1) _ fun y B2 e2 d2 p2 => by
    obtain ⟨a, vs, rfl, hh, q1⟩ := (isTT Ps).mono e2 p1
    rw [dp_int p2]
    obtain ⟨v, h1, h2⟩ := q1.at hm
    exact .inr (.inl ⟨a, vs, i, v, rfl, rfl, st_of (jn_B d2 hh), by rw [hi]; exact atI_nat h1, q v B2 (e1.trans e2) d2 h2⟩)
/-- self.f of an instance that is being made -/
theorem sv_fldOw {p dx : Addr} (h : G[n]? = some (.ow (owI C p dx (flds fs)))) (hf : fs.lookup f = some P) (c : Cls K C) (hn : NoAttr K C f) : Sv (tFld K (tVar n) f) G P := fun M0 σ B M H Q q => by
  obtain ⟨l, ob, a, c1, r, f1⟩ := H.ow n _ h
  obtain ⟨rfl, vs, rfl, hv, _⟩ := r
  obtain ⟨v, hl, pv⟩ := hv.look.1 P hf
  exact ⟨_, a, _, C, dx, vs, v, rfl, jn_M c1, c, hn, hl, q v B (Ex.refl B) H.dj pv⟩
theorem inV_strs (x : Str) (ys : List Str) : inV (.str x) (ys.map V.str) = decide (x ∈ ys) := by
  unfold inV
  induction ys with
  | nil => rfl
  | cons a ys ih =>
    rw [List.map_cons, List.any_cons, ih]
    show ((a == x) || decide (x ∈ ys)) = _
    by_cases e : a = x
    · subst e; simp
    · have e' : ¬ x = a := fun z => e z.symm
      simp [e, e']
/-- s not in a tuple of texts of the module's top -/
theorem sv_notInK (h : KTD K a (ys.map V.str)) (ha : Sv ta G (isD (.str x))) : Sv (tOp (rIn K true) ta (tC (.ref a))) G (isD (.bool (!decide (x ∈ ys)))) := fun M0 σ B M H Q q =>
  ha M0 σ B M H _ fun v B1 e1 d1 p1 => by
    rw [dp_str p1]
    refine ⟨a, ys.map V.str, rfl, .inr (h.kt.st _), rfl, flat_strs ys, ?_⟩
    rw [inV_strs]
    exact q _ B1 e1 d1 (.bl _)
abbrev rTupIx (K : PySem.W.Frag) : V → List V → Hp → VK → Prop := fun x xs H Q => ∃ p, ∃ ys : List Str, ∃ z j, x = .ref p ∧ xs = [.str z] ∧ SqT K H p (ys.map V.str) ∧ ys[j]? = some z ∧ (∀ m, m < j → ys[m]? ≠ some z) ∧ Q (.int (j : Nat)) H
/-- a tuple of texts' .index(s) -/
theorem sv_indexK {m : Nat} (h : KTD K a (ys.map V.str)) (ha : Sv ta G (isD (.str x))) (hm : ys[m]? = some x) (hno : ∀ k, k < m → ys[k]? ≠ some x) : Sv (tBM K "tuple" (rTupIx K) (tC (.ref a)) (tCons ta tNil)) G (isD (.int (m : Int))) := fun M0 σ B M H Q q =>
  ⟨h.ty _, ha M0 σ B M H _ fun v B1 e1 d1 p1 => by
    rw [dp_str p1]
    exact ⟨a, ys, x, m, rfl, rfl, h.kt.st _, hm, hno, q _ B1 e1 d1 (.int _)⟩⟩
end
end Mini

namespace Mini
open PySem L2 Evl PyProof.Rows
theorem tuple_mul1 (l : Addr) (items : Array Value) (n : Nat) (dd : Option Addr) (sl : Array (Option Value)) (u : Tok) :
    Meets (Builtin.«tuple.__mul__» ⟨[.ref l, .int 1 u], []⟩) (fun _ R s => s.heap.get? l = some { cls := .type "tuple", dict := dd, data := .seq items n, slots := sl } ∧
      R (.ok (.ret (Value.ref l))) s) :=
  .of_wp fun prog w A R s h => by
    obtain ⟨hp, g, d, tk, os⟩ := s
    obtain ⟨hl, h⟩ := h
    have f1 := AutoSeq1.idx_int
    have c1 : (items.isEmpty || (1 : Int) == 1) = true := by simp
    wp_walk using wpAny_loadPart' hl
    repeat (first
      | (refine wpAny_ite_false (by decide) ?_; wp_walk using wpAny_loadPart' hl)
      | (refine wpAny_ite_true (by rw [c1]) ?_; wp_walk using wpAny_loadPart' hl))
    exact ⟨_, rfl, h⟩
theorem tuple_mul0 (l : Addr) (items : Array Value) (n : Nat) (dd : Option Addr) (sl : Array (Option Value)) (u : Tok) (hne : items.isEmpty = false) :
    Meets (Builtin.«tuple.__mul__» ⟨[.ref l, .int 0 u], []⟩) (fun _ R s => s.heap.get? l = some { cls := .type "tuple", dict := dd, data := .seq items n, slots := sl } ∧
      R (.ok (.ret (Value.ref s.heap.objs.size))) { s with heap := s.heap.push { cls := Value.type "tuple", data := Data.seq #[] }, toks := s.toks }) :=
  .of_wp fun prog w A R s h => by
    obtain ⟨hp, g, d, tk, os⟩ := s
    obtain ⟨hl, h⟩ := h
    have f1 := AutoSeq1.idx_int
    have c1 : (items.isEmpty || (0 : Int) == 1) = false := by rw [hne]; rfl
    have c2 : (decide ((0 : Int) ≤ 0) || items.isEmpty) = true := by simp
    wp_walk using wpAny_loadPart' hl
    repeat (first
      | (refine wpAny_ite_false (by decide) ?_; wp_walk using wpAny_loadPart' hl)
      | (refine wpAny_ite_false (decide_eq_false (by rw [c1]; exact Bool.false_ne_true)) ?_; wp_walk using wpAny_loadPart' hl)
      | (refine wpAny_ite_true (by rw [c2]) ?_; wp_walk using wpAny_loadPart' hl))
    exact ⟨_, rfl, h⟩
section
variable {X : Cx}
/-- a tuple once, or not at all -/
def rRepS (K : PySem.W.Frag) : R2 := fun x y H Q => ∃ l xs, x = .ref l ∧ SqT K H l xs ∧ xs ≠ [] ∧ ((y = .int 1 ∧ Q (.ref l) H) ∨ (y = .int 0 ∧ ∀ p, H p = none → Q (.ref p) (upd H p (.tup []))))
theorem op_repS : OpR X (binaryOp .Mult) (rRepS X.K) := by
  intro pins s σ H x y v u Q I rx ry h
  obtain ⟨l, xs, e1, hT, hne, hk⟩ := h
  subst e1
  cases rx
  obtain ⟨its, r, ⟨⟨cls, dd, data, sl⟩, ho, hc, n, hd⟩, hs⟩ := I.tuple hT
  simp only at hc hd
  subst hc hd
  have hi : its.toArray.isEmpty = false := by
    cases its with
    | nil => exact absurd (List.length_eq_zero_iff.mp r.length) hne
    | cons a b => rfl
  rcases hk with ⟨ey, q⟩ | ⟨ey, q⟩
  · subst ey
    obtain ⟨t, rfl⟩ := ry
    refine wpAny_binaryOp_repeat_ref (T := "tuple") (U := "int") (by decide) ⟨_, ho, rfl⟩ (fun s' => typeIs_int s' 1 t) noFill_tuple_mul F.fills_int_mul F.slot_int_rmul repeat_tuple F.slot_int_index.lookup ?_
    refine call_meets F.slot_int_rmul (typeIs_int s 1 t) F.entry_int_rmul (F.args_int_rmul_2 _ _) (int_rmul_tuple 1 t l its.toArray n dd sl) ⟨ho, rfl, ⟨_, ho, rfl⟩, ?_⟩
    exact call_meets F.slot_tuple_mul ⟨_, ho, rfl⟩ F.entry_tuple_mul (F.args_tuple_mul_2 _ _) (tuple_mul1 l its.toArray n dd sl t) ⟨ho, .ref l, H, I, rfl, q⟩
  · subst ey
    obtain ⟨t, rfl⟩ := ry
    refine wpAny_binaryOp_repeat_ref (T := "tuple") (U := "int") (by decide) ⟨_, ho, rfl⟩ (fun s' => typeIs_int s' 0 t) noFill_tuple_mul F.fills_int_mul F.slot_int_rmul repeat_tuple F.slot_int_index.lookup ?_
    refine call_meets F.slot_int_rmul (typeIs_int s 0 t) F.entry_int_rmul (F.args_int_rmul_2 _ _) (int_rmul_tuple 0 t l its.toArray n dd sl) ⟨ho, rfl, ⟨_, ho, rfl⟩, ?_⟩
    refine call_meets F.slot_tuple_mul ⟨_, ho, rfl⟩ F.entry_tuple_mul (F.args_tuple_mul_2 _ _) (tuple_mul0 l its.toArray n dd sl t hi) ⟨ho, ?_⟩
    refine ⟨.ref s.heap.objs.size, _, I.laid (t' := s.toks) (o := .tup []) (fun b ob q => Heap.get?_push_of_some _ q) (Nat.le_refl _) ?_, rfl, q _ (I.hok.fresh (Nat.le_refl _))⟩
    exact ⟨Nat.zero_le _, [], .nil, IsTup.new _ _⟩
def uMul2 (K : PySem.W.Frag) : R2 := fun x y H Q => uMul K x y H Q ∨ rRepS K x y H Q
theorem op_uMul2 : OpR X (binaryOp .Mult) (uMul2 X.K) := OpR.or op_uMul op_repS
end
section
variable {K : PySem.W.Frag} {G : Gm} {ta tb : TE} {ds : List PyData} {i : Int}
theorem sv_repT2 (ha : Sv ta G (isD (.tuple ds))) (hb : Sv tb G (isD (.int i))) (hn : ds ≠ []) (h0 : 0 ≤ i) (hz : (ds.length : Int) * i ≤ 1000000) : Sv (tOp (uMul2 K) ta tb) G (isD (.tuple (List.replicate i.toNat ds).flatten)) := by
  by_cases h2 : 2 ≤ i
  · refine sv_op ha hb (rv_or1 ?_)
    intro B M x y dj p1 p2 Q q
    obtain ⟨a, vs, rfl, h1, h3⟩ := dq_tup p1
    have hne : vs ≠ [] := by intro z; subst z; cases h3; exact hn rfl
    rw [dp_int p2]
    refine .inr (.inr ⟨a, i, vs, rfl, rfl, st_of (jn_B dj h1), hne, h2, by rw [DqAll_len h3]; exact hz, fun p hp => ?_⟩)
    rw [upd_new hp]
    exact q _ _ (ex_new hp) (dj_new dj hp) (.tup upd_same (DqAll_ex (ex_new hp) (DqAll_rep h3 _)))
  · refine sv_op ha hb (rv_or2 ?_)
    intro B M x y dj p1 p2 Q q
    obtain ⟨a, vs, rfl, h1, h3⟩ := dq_tup p1
    have hne : vs ≠ [] := by intro z; subst z; cases h3; exact hn rfl
    rw [dp_int p2]
    have hi : i = 1 ∨ i = 0 := by omega
    refine ⟨a, vs, rfl, st_of (jn_B dj h1), hne, ?_⟩
    rcases hi with rfl | rfl
    · refine .inl ⟨rfl, q _ B (Ex.refl B) dj (.tup h1 ?_)⟩
      simpa using h3
    · refine .inr ⟨rfl, fun p hp => ?_⟩
      rw [upd_new hp]
      exact q _ _ (ex_new hp) (dj_new dj hp) (.tup upd_same .nil)
end
end Mini

namespace Mini
open PySem L2 Evl PyProof.Rows
theorem sv_notN {ta : TE} {G : Gm} {d : PyData} (ha : Sv ta G (isD d)) : Sv (tOp (fun x y H Q => y = .non ∧ Q (.bl (!decide (x = .non))) H) ta (tC .non)) G (isD (.bool (match d with | .none => false | _ => true))) := fun M0 σ B M H Q q => ha M0 σ B M H _ fun v B' e dj p => ⟨rfl, by
  refine q _ B' e dj ?_
  cases p with
  | non => exact .bl _
  | _ => exact .bl true⟩
end Mini

namespace Mini
open PySem L2 Evl PyProof.Rows
/-! ### is not True, is not False, of whatever stands -/
abbrev rNotBl : R2 := fun x y H Q => ∃ b, y = .bl b ∧ Q (.bl (!decide (x = .bl b))) H
abbrev rIsBl2 : R2 := fun x y H Q => ∃ b, y = .bl b ∧ Q (.bl (decide (x = .bl b))) H
theorem op_notBl {X : Cx} : OpR X (compareOp .IsNot) rNotBl := by
  intro pins s σ H x y v u Q I rx ry h
  obtain ⟨b, rfl, q⟩ := h
  cases (show u = Value.bool b from ry)
  cases x with
  | bl a =>
    cases (show v = Value.bool a from rx)
    exact isnot_bool ⟨.bl _, H, I, rfl, by cases a <;> cases b <;> simpa using q⟩
  | non => cases rx; exact wpAny_pure ⟨.bl true, H, I, rfl, by simpa using q⟩
  | ref a => cases rx; exact wpAny_pure ⟨.bl true, H, I, rfl, by simpa using q⟩
  | ty n => cases rx; exact wpAny_pure ⟨.bl true, H, I, rfl, by simpa using q⟩
  | int i => obtain ⟨t, rfl⟩ := rx; exact wpAny_pure ⟨.bl true, H, I, rfl, by simpa using q⟩
  | str i => obtain ⟨t, rfl⟩ := rx; exact wpAny_pure ⟨.bl true, H, I, rfl, by simpa using q⟩
  | byt i => obtain ⟨t, rfl⟩ := rx; exact wpAny_pure ⟨.bl true, H, I, rfl, by simpa using q⟩
  | flt i => obtain ⟨t, rfl⟩ := rx; exact wpAny_pure ⟨.bl true, H, I, rfl, by simpa using q⟩
theorem op_isBl2 {X : Cx} : OpR X (compareOp .Is) rIsBl2 := by
  intro pins s σ H x y v u Q I rx ry h
  obtain ⟨b, rfl, q⟩ := h
  cases (show u = Value.bool b from ry)
  cases x with
  | bl a =>
    cases (show v = Value.bool a from rx)
    exact is_bool ⟨.bl _, H, I, rfl, by cases a <;> cases b <;> simpa using q⟩
  | non => cases rx; exact wpAny_pure ⟨.bl false, H, I, rfl, by simpa using q⟩
  | ref a => cases rx; exact wpAny_pure ⟨.bl false, H, I, rfl, by simpa using q⟩
  | ty n => cases rx; exact wpAny_pure ⟨.bl false, H, I, rfl, by simpa using q⟩
  | int i => obtain ⟨t, rfl⟩ := rx; exact wpAny_pure ⟨.bl false, H, I, rfl, by simpa using q⟩
  | str i => obtain ⟨t, rfl⟩ := rx; exact wpAny_pure ⟨.bl false, H, I, rfl, by simpa using q⟩
  | byt i => obtain ⟨t, rfl⟩ := rx; exact wpAny_pure ⟨.bl false, H, I, rfl, by simpa using q⟩
  | flt i => obtain ⟨t, rfl⟩ := rx; exact wpAny_pure ⟨.bl false, H, I, rfl, by simpa using q⟩
/-- this truth value -/
def blB (d : PyData) (b : Bool) : Bool := match d with
  | .bool a => decide (a = b)
  | _ => false
section
variable {K : PySem.W.Frag} {G : Gm} {ta : TE} {d : PyData} {b : Bool}
theorem dq_bl {B : Hp} {v : V} (p : Dq B v d) : decide (v = .bl b) = blB d b := by
  cases p with
  | bl a => cases a <;> cases b <;> rfl
  | _ => rfl
theorem sv_notBl (ha : Sv ta G (isD d)) : Sv (tOp rNotBl ta (tC (.bl b))) G (isD (.bool (!blB d b))) := fun M0 σ B M H Q q => ha M0 σ B M H _ fun v B' e dj p => ⟨b, rfl, by
  rw [dq_bl p]
  exact q _ B' e dj (.bl _)⟩
theorem sv_isBl2 (ha : Sv ta G (isD d)) : Sv (tOp rIsBl2 ta (tC (.bl b))) G (isD (.bool (blB d b))) := fun M0 σ B M H Q q => ha M0 σ B M H _ fun v B' e dj p => ⟨b, rfl, by
  rw [dq_bl p]
  exact q _ B' e dj (.bl _)⟩
end
end Mini

namespace Mini
open PySem L2 Evl PyProof.Rows
/-! ### a, b, .. = values, new lists, .. through a tuple -/
inductive Pend : List (Ty ⊕ List PyData) → List V → Hp → Hp → Hp → Prop where
  | nil {B M} : Pend [] [] B M M
  | im {P ks v vs B M M'} : P.p v B → Pend ks vs B M M' → Pend (.inl P :: ks) (v :: vs) B M M'
  | nl {ds ks p us vs B M M'} : M p = none → DqAll B us ds → Pend ks vs B (upd M p (.lst us)) M' → Pend (.inr ds :: ks) (.ref p :: vs) B M M'
theorem Pend.len {ks vs B M M'} (h : Pend ks vs B M M') : vs.length = ks.length := by
  induction h with
  | nil => rfl
  | im _ _ ih => simp [ih]
  | nl _ _ _ ih => simp [ih]
theorem Pend.ex {ks vs B M M'} (h : Pend ks vs B M M') : Ex M M' := by
  induction h with
  | nil => exact Ex.refl _
  | im _ _ ih => exact ih
  | nl hp _ _ ih => exact (Ex.new hp).trans ih
theorem Pend.ext {ks vs B B' M M'} (h : Pend ks vs B M M') (e : Ex B B') : Pend ks vs B' M M' := by
  induction h with
  | nil => exact .nil
  | im a _ ih => exact .im (Ty.mono _ e a) (ih e)
  | nl hp a _ ih => exact .nl hp (DqAll_ex e a) (ih e)
def Sn (ta : TA) (G : Gm) (ks : List (Ty ⊕ List PyData)) : Prop := ∀ (M0 : Hp) (σ : L2.St) (B M : Hp), Holds M0 G σ B M → ∀ Q : List V → Hp → Prop, (∀ vs B' M', Ex B B' → Dj B' M' → Pend ks vs B' M M' → Q vs (jn B' M')) → ta σ (jn B M) Q
def kSl : Ty ⊕ List PyData → Sl
  | .inl P => .im P
  | .inr ds => .ow (isL ds)
def setAll (G : Gm) : List Nat → List (Ty ⊕ List PyData) → Gm
  | i :: is, k :: ks => setAll (G.set i (kSl k)) is ks
  | _, _ => G
def setSt (σ : L2.St) : List Nat → List V → L2.St
  | i :: is, v :: vs => setSt (σ.set i (some v)) is vs
  | _, _ => σ
def gNames : List Nat → TGs
  | [] => gNil
  | i :: is => gCons (gName i) (gNames is)
section
variable {K : PySem.W.Frag} {E : L2.St → XK} {G : Gm} {te ta tb tc : TE} {tr : TA} {P P' : Ty} {ds : List PyData} {ks : List (Ty ⊕ List PyData)}
theorem sn_nil : Sn tNil G [] := fun M0 σ B M H Q q => q [] B M (Ex.refl B) H.dj .nil
theorem sn_im (h : Sv te G P) (hr : Sn tr G ks) : Sn (tCons te tr) G (.inl P :: ks) := fun M0 σ B M H Q q =>
  h M0 σ B M H _ fun v B1 e1 d1 p1 => hr M0 σ B1 M (H.ext e1 d1) _ fun vs B2 M2 e2 d2 p2 => q _ B2 M2 (e1.trans e2) d2 (.im (P.mono e2 p1) p2)
theorem sn_nl (h : Svl te G ds) (hr : Sn tr G ks) : Sn (tCons te tr) G (.inr ds :: ks) := fun M0 σ B M H Q q =>
  h M0 σ B M H _ fun p us B1 e1 d1 hf ha => by
    rw [upd_own]
    exact hr M0 σ B1 _ ((H.ext e1 d1).more hf) _ fun vs B2 M2 e2 d2 p2 => q _ B2 M2 (e1.trans e2) d2 (.nl (jn_free hf).2 (DqAll_ex e2 ha) p2)
theorem setAll_len : ∀ {is : List Nat} {ks : List (Ty ⊕ List PyData)} {G : Gm}, (setAll G is ks).length = G.length
  | [], [], _ => rfl
  | [], _ :: _, _ => rfl
  | _ :: _, [], _ => rfl
  | i :: is, k :: ks, G => by rw [setAll, setAll_len, List.length_set]
theorem holds_set {M0 : Hp} : ∀ {is : List Nat} {ks : List (Ty ⊕ List PyData)} {vs : List V} {G : Gm} {σ : L2.St} {B M M' : Hp}, Holds M0 G σ B M → Dj B M' → Pend ks vs B M M' → is.length = ks.length → (∀ i ∈ is, i < G.length) → Holds M0 (setAll G is ks) (setSt σ is vs) B M'
  | [], [], _, G, σ, B, M, M', H, d, h, _, _ => by cases h; exact H
  | [], _ :: _, _, _, _, _, _, _, _, _, _, e, _ => by simp at e
  | _ :: _, [], _, _, _, _, _, _, _, _, _, e, _ => by simp at e
  | i :: is, k :: ks, _, G, σ, B, M, M', H, d, h, e, hl => by
    have hi := hl i (List.mem_cons_self ..)
    have hl' : ∀ S : Sl, ∀ j ∈ is, j < (G.set i S).length := fun S j hj => by rw [List.length_set]; exact hl j (List.mem_cons_of_mem _ hj)
    have e' : is.length = ks.length := by simpa using e
    cases h with
    | @im P _ v vs _ _ _ a h =>
      have h2 := H.setIm hi a
      exact holds_set (is := is) h2 d h e' (hl' _)
    | @nl ds _ p us vs _ _ _ hp a h =>
      have hB := dj_free d (h.ex _ _ upd_same)
      have h2 := H.setOw (R := isL ds) hi (by rw [jn_N hp]; exact hB : jn B M p = none) ⟨us, rfl, a⟩
      exact holds_set (is := is) h2 d h e' (hl' _)
theorem gNames_run {Q : L2.St → Hp → Prop} {H : Hp} : ∀ {is : List Nat} {vs : List V} {σ : L2.St}, is.length = vs.length → Q (setSt σ is vs) H → gNames is vs σ H Q
  | [], [], _, _, q => ⟨rfl, q⟩
  | [], _ :: _, _, e, _ => by simp at e
  | _ :: _, [], _, e, _ => by simp at e
  | i :: is, v :: vs, σ, e, q => ⟨v, vs, rfl, gNames_run (is := is) (by simpa using e) q⟩
theorem ss_tupN (is : List Nat) (h : Sn tr G ks) (hn : is.length = ks.length := by rfl) (hl : ∀ i ∈ is, i < G.length := by exact of_decide_eq_true rfl) (hk : ks.length ≤ 100 := by exact Nat.le_of_ble_eq_true rfl) :
    Ss E (tAsg (tTup tr) (gTup K ks.length (gNames is))) G (.nx (setAll G is ks)) := fun M0 D σ B M H q =>
  h M0 σ B M H _ fun vs B1 M1 e1 d1 p1 => by
    have hlen := p1.len
    refine ⟨by have : (sizeLine : Nat) = 16777216 := sizeLine_eq; omega, fun t ht => ?_⟩
    have dM : Dj B1 M := fun a u z => by
      have w := d1 a u z
      cases hm : M a with
      | none => rfl
      | some o => rw [p1.ex a o hm] at w; cases w
    have K1 := holds_set (H.ext e1 dM) d1 p1 hn hl
    rw [upd_new ht]
    refine ⟨t, vs, rfl, st_of (jn_B (dj_new d1 ht) upd_same), hlen, gNames_run (by omega) ?_⟩
    exact q _ _ _ (e1.trans (ex_new ht)) (K1.ext (ex_new ht) (dj_new d1 ht))
/-- xs[m], a, b = three values: the list's item first -/
theorem ss_tupSet {n i j : Nat} {ix : Int} {k : Nat} {d : PyData} {tm : TE} (h : G[n]? = some (.ow (isL ds))) (ha : Sv ta G (isD d)) (hb : Sv tb G P) (hc : Sv tc G P') (hm : ∀ {M0 : Hp} {σ : L2.St} {B M : Hp}, Holds M0 G σ B M → ∀ Q : VK, Q (.int ix) (jn B M) → tm σ (jn B M) Q) (hk : ixN ds.length ix = some k) (hi : i < G.length := by exact Nat.le_of_ble_eq_true rfl) (hj : j < G.length := by exact Nat.le_of_ble_eq_true rfl) :
    Ss E (tAsg (tTup (tCons ta (tCons tb (tCons tc tNil)))) (gTup K 3 (gCons (gSub (tVar n) tm rSetL) (gCons (gName i) (gCons (gName j) gNil))))) G (.nx (((G.set n (.ow (isL (ds.set k d)))).set i (.im P)).set j (.im P'))) := fun M0 D σ B M H q =>
  ha M0 σ B M H _ fun x B1 e1 d1 p1 => hb M0 σ B1 M (H.ext e1 d1) _ fun y B2 e2 d2 p2 => hc M0 σ B2 M ((H.ext e1 d1).ext e2 d2) _ fun z B3 e3 d3 p3 => by
    refine ⟨by show 3 ≤ sizeLine; decide, fun t ht => ?_⟩
    rw [upd_new ht]
    have e4 := e1.trans (e2.trans (e3.trans (ex_new (o := .tup [x, y, z]) ht)))
    have d4 := dj_new (o := .tup [x, y, z]) d3 ht
    have H4 := H.ext e4 d4
    refine ⟨t, _, rfl, st_of (jn_B d4 upd_same), rfl, _, _, rfl, ?_⟩
    obtain ⟨l, ob, a, c, ⟨vs, rfl, r⟩, f⟩ := H4.ow n _ h
    refine ⟨.ref l, a, hm H4 _ ⟨l, vs, ix, k, rfl, rfl, jn_M c, by rw [DqAll_len r]; exact hk, ?_⟩⟩
    refine ⟨_, _, rfl, _, _, rfl, rfl, ?_⟩
    rw [upd_own]
    have e34 := e3.trans (ex_new (o := .tup [x, y, z]) ht)
    have p1' := Dq_ex (e2.trans e34) d x p1
    exact q _ _ _ e4 (((H4.change h a c (R' := isL (ds.set k d)) ⟨_, rfl, DqAll_set p1' k r⟩).setIm (P := P) (by rw [List.length_set]; exact hi) (P.mono e34 p2)).setIm (P := P') (by rw [List.length_set, List.length_set]; exact hj) (P'.mono (ex_new ht) p3))
theorem at_var {n : Nat} {i : Int} (h : G[n]? = some (.im (isD (.int i)))) : ∀ {M0 : Hp} {σ : L2.St} {B M : Hp}, Holds M0 G σ B M → ∀ Q : VK, Q (.int i) (jn B M) → tVar n σ (jn B M) Q := fun {M0 σ B M} H Q q => by
  obtain ⟨v, a, b⟩ := H.im n _ h
  rw [dp_int b] at a
  exact ⟨_, a, q⟩
/-! what raises within a display, an argument -/
theorem sb_lst {C : Addr} (h : Sb te G E C) : Sb (tLst (tCons te tr)) G E C := fun M0 σ B M H Q q => h M0 σ B M H _ q
theorem sb_tup {C : Addr} (h : Sb te G E C) : Sb (tTup (tCons te tr)) G E C := fun M0 σ B M H Q q => h M0 σ B M H _ q
end
end Mini

namespace Mini
open PySem L2 Evl PyProof.Rows
/-! ### a tuple times a number that is below 0 -/
theorem tuple_mulN (l : Addr) (items : Array Value) (n : Nat) (dd : Option Addr) (sl : Array (Option Value)) (x : Int) (u : Tok) (hne : items.isEmpty = false) (c0 : (decide (x < -(2 ^ 63)) || decide (x ≥ 2 ^ 63)) = false) (hx : x < 0) :
    Meets (Builtin.«tuple.__mul__» ⟨[.ref l, .int x u], []⟩) (fun _ R s => s.heap.get? l = some { cls := .type "tuple", dict := dd, data := .seq items n, slots := sl } ∧
      R (.ok (.ret (Value.ref s.heap.objs.size))) { s with heap := s.heap.push { cls := Value.type "tuple", data := Data.seq #[] }, toks := s.toks }) :=
  .of_wp fun prog w A R s h => by
    obtain ⟨hp, g, d, tk, os⟩ := s
    obtain ⟨hl, h⟩ := h
    have f1 := AutoSeq1.idx_int
    have c1 : (items.isEmpty || x == 1) = false := by rw [hne, Bool.false_or]; exact beq_eq_false_iff_ne.mpr (by omega)
    have c2 : (decide (x ≤ 0) || items.isEmpty) = true := by rw [decide_eq_true (by omega)]; rfl
    wp_walk using wpAny_loadPart' hl
    repeat (first
      | (refine wpAny_ite_false (decide_eq_false (by rw [c0]; exact Bool.false_ne_true)) ?_; wp_walk using wpAny_loadPart' hl)
      | (refine wpAny_ite_false (decide_eq_false (by rw [c1]; exact Bool.false_ne_true)) ?_; wp_walk using wpAny_loadPart' hl)
      | (refine wpAny_ite_true (decide_eq_true c2) ?_; wp_walk using wpAny_loadPart' hl))
    exact ⟨_, rfl, h⟩
section
variable {X : Cx}
def rRepN (K : PySem.W.Frag) : R2 := fun x y H Q => ∃ l xs k, x = .ref l ∧ y = .int k ∧ SqT K H l xs ∧ xs ≠ [] ∧ k < 0 ∧ -(2 ^ 63) ≤ k ∧ ∀ p, H p = none → Q (.ref p) (upd H p (.tup []))
theorem op_repN : OpR X (binaryOp .Mult) (rRepN X.K) := by
  intro pins s σ H x y v u Q I rx ry h
  obtain ⟨l, xs, k, e1, e2, hT, hne, hk, hk2, q⟩ := h
  subst e1 e2
  cases rx
  obtain ⟨t, rfl⟩ := ry
  obtain ⟨its, r, ⟨⟨cls, dd, data, sl⟩, ho, hc, n, hd⟩, hs⟩ := I.tuple hT
  simp only at hc hd
  subst hc hd
  have hi : its.toArray.isEmpty = false := by
    cases its with
    | nil => exact absurd (List.length_eq_zero_iff.mp r.length) hne
    | cons a b => rfl
  have a0 : (decide (k < -(2 ^ 63)) || decide (k ≥ 2 ^ 63)) = false := by
    rw [decide_eq_false (by omega), decide_eq_false (by omega)]; rfl
  refine wpAny_binaryOp_repeat_ref (T := "tuple") (U := "int") (by decide) ⟨_, ho, rfl⟩ (fun s' => typeIs_int s' k t) noFill_tuple_mul F.fills_int_mul F.slot_int_rmul repeat_tuple F.slot_int_index.lookup ?_
  refine call_meets F.slot_int_rmul (typeIs_int s k t) F.entry_int_rmul (F.args_int_rmul_2 _ _) (int_rmul_tuple k t l its.toArray n dd sl) ⟨ho, rfl, ⟨_, ho, rfl⟩, ?_⟩
  refine call_meets F.slot_tuple_mul ⟨_, ho, rfl⟩ F.entry_tuple_mul (F.args_tuple_mul_2 _ _) (tuple_mulN l its.toArray n dd sl k t hi a0 hk) ⟨ho, ?_⟩
  refine ⟨.ref s.heap.objs.size, _, I.laid (t' := s.toks) (o := .tup []) (fun b ob q => Heap.get?_push_of_some _ q) (Nat.le_refl _) ?_, rfl, q _ (I.hok.fresh (Nat.le_refl _))⟩
  exact ⟨Nat.zero_le _, [], .nil, IsTup.new _ _⟩
def uMul3 (K : PySem.W.Frag) : R2 := fun x y H Q => uMul2 K x y H Q ∨ rRepN K x y H Q
theorem op_uMul3 : OpR X (binaryOp .Mult) (uMul3 X.K) := OpR.or op_uMul2 op_repN
end
section
variable {K : PySem.W.Frag} {G : Gm} {ta tb : TE} {ds : List PyData} {i j : Int}
theorem sv_repT3 (ha : Sv ta G (isD (.tuple ds))) (hb : Sv tb G (isD (.int i))) (hn : ds ≠ []) (h0 : -(2 ^ 63) ≤ i) (hz : (ds.length : Int) * i ≤ 1000000) : Sv (tOp (uMul3 K) ta tb) G (isD (.tuple (List.replicate i.toNat ds).flatten)) := by
  by_cases h2 : 0 ≤ i
  · by_cases h3 : 2 ≤ i
    · refine sv_op ha hb (r := uMul3 K) (rv_or1 (rv_or1 ?_))
      intro B M x y dj p1 p2 Q q
      obtain ⟨a, vs, rfl, h1, h3'⟩ := dq_tup p1
      have hne : vs ≠ [] := by intro z; subst z; cases h3'; exact hn rfl
      rw [dp_int p2]
      refine .inr (.inr ⟨a, i, vs, rfl, rfl, st_of (jn_B dj h1), hne, h3, by rw [DqAll_len h3']; exact hz, fun p hp => ?_⟩)
      rw [upd_new hp]
      exact q _ _ (ex_new hp) (dj_new dj hp) (.tup upd_same (DqAll_ex (ex_new hp) (DqAll_rep h3' _)))
    · refine sv_op ha hb (r := uMul3 K) (rv_or1 (rv_or2 ?_))
      intro B M x y dj p1 p2 Q q
      obtain ⟨a, vs, rfl, h1, h3'⟩ := dq_tup p1
      have hne : vs ≠ [] := by intro z; subst z; cases h3'; exact hn rfl
      rw [dp_int p2]
      have hi : i = 1 ∨ i = 0 := by omega
      refine ⟨a, vs, rfl, st_of (jn_B dj h1), hne, ?_⟩
      rcases hi with rfl | rfl
      · refine .inl ⟨rfl, q _ B (Ex.refl B) dj (.tup h1 ?_)⟩
        simpa using h3'
      · refine .inr ⟨rfl, fun p hp => ?_⟩
        rw [upd_new hp]
        exact q _ _ (ex_new hp) (dj_new dj hp) (.tup upd_same .nil)
  · refine sv_op ha hb (r := uMul3 K) (rv_or2 ?_)
    intro B M x y dj p1 p2 Q q
    obtain ⟨a, vs, rfl, h1, h3⟩ := dq_tup p1
    have hne : vs ≠ [] := by intro z; subst z; cases h3; exact hn rfl
    rw [dp_int p2]
    refine ⟨a, vs, i, rfl, rfl, st_of (jn_B dj h1), hne, by omega, h0, fun p hp => ?_⟩
    rw [show i.toNat = 0 by omega] at q
    rw [upd_new hp]
    exact q _ _ (ex_new hp) (dj_new dj hp) (.tup upd_same .nil)
theorem sv_mul3 (ha : Sv ta G (isD (.int i))) (hb : Sv tb G (isD (.int j))) (hc : CMul i j) : Sv (tOp (uMul3 K) ta tb) G (isD (.int (i * j))) := sv_op ha hb (rv_or1 (rv_or1 (rv_or1 (rv_I hc))))
theorem svl_rep3 (ha : Rl ta G ds) (hb : Sv tb G (isD (.int i))) (h0 : -(2 ^ 63) ≤ i) (h1 : i < 2 ^ 63) (hz : ds.length * i.toNat ≤ sizeLine) : Svl (tOp (uMul3 K) ta tb) G (List.replicate i.toNat ds).flatten := fun M0 σ B M H Q q =>
  ha M0 σ B M H _ fun a vs B1 e1 d1 hh q1 => hb M0 σ B1 M (H.ext e1 d1) _ fun y B2 e2 d2 p2 => by
    rw [dp_int p2]
    exact .inl (.inl (.inr (.inl ⟨a, i, vs, rfl, rfl, jn_mono e2 d2 _ _ hh, h0, h1, by rw [DqAll_len q1]; exact hz, fun p hp => q p _ B2 (e1.trans e2) d2 hp (DqAll_rep (DqAll_ex e2 q1) _)⟩)))
end
end Mini

namespace Mini
open PySem L2 Evl PyProof.Rows
def noneB (d : PyData) : Bool := match d with
  | .none => true
  | _ => false
theorem sv_isNb {ta : TE} {G : Gm} {d : PyData} (ha : Sv ta G (isD d)) : Sv (tOp (fun x y H Q => y = .non ∧ Q (.bl (decide (x = .non))) H) ta (tC .non)) G (isD (.bool (noneB d))) := by
  cases d <;> exact sv_isN ha
theorem sv_notNb {ta : TE} {G : Gm} {d : PyData} (ha : Sv ta G (isD d)) : Sv (tOp (fun x y H Q => y = .non ∧ Q (.bl (!decide (x = .non))) H) ta (tC .non)) G (isD (.bool (!noneB d))) := by
  cases d <;> exact sv_notN ha
end Mini

namespace Mini
open PySem L2 Evl PyProof.Rows
section
variable {K : PySem.W.Frag} {E : L2.St → XK} {G : Gm} {ds : List PyData} {n : Nat}
/-- xs.reverse(), xs one's own -/
theorem ss_reverse (h : G[n]? = some (.ow (isL ds))) : Ss E (tDrop (tBM0 K "list" rReverse (tVar n))) G (.nx (G.set n (.ow (isL ds.reverse)))) := fun M0 D σ B M H q => by
  obtain ⟨l, ob, a, c, ⟨vs, rfl, r⟩, f⟩ := H.ow n _ h
  refine ⟨.ref l, a, Or.inl ⟨rfl, vs, sq_of (jn_M c)⟩, ?_⟩
  refine ⟨l, vs, rfl, rfl, jn_M c, ?_⟩
  rw [upd_own]
  exact q σ B _ (Ex.refl B) (H.change h a c ⟨_, rfl, DqAll_rev r⟩)
end
/-- a step that is no more -/
theorem itS_stop {S : Type} {f : S → Option S} {s : S} {N : Nat} (h : f (itS f s N) = none) : ∀ j, itS f s (N + j) = itS f s N
  | 0 => rfl
  | j + 1 => by
    show (match f (itS f s (N + j)) with | some s' => s' | none => itS f s (N + j)) = _
    rw [itS_stop h j, h]
end Mini

namespace Mini
open PySem L2 Evl PyProof.Rows
/-! ### targets of loops and comprehensions: names, tuples of targets -/
theorem wipe_set {j : Nat} {x : Option V} : ∀ {vs : List Nat} {σ : L2.St}, j ∈ vs → L2.wipe (σ.set j x) vs = L2.wipe σ vs
  | [], _, h => absurd h (List.not_mem_nil)
  | v :: vs, σ, h => by
    show (L2.wipe (σ.set j x) vs).set v none = (L2.wipe σ vs).set v none
    have step : ∀ (vs : List Nat) (σ : L2.St), ¬ j ∈ vs → L2.wipe (σ.set j x) vs = (L2.wipe σ vs).set j x := fun vs => by
      induction vs with
      | nil => intro σ _; rfl
      | cons w ws ih =>
        intro σ hn
        show (L2.wipe (σ.set j x) ws).set w none = ((L2.wipe σ ws).set w none).set j x
        rw [ih σ (fun z => hn (List.mem_cons_of_mem _ z)), List.set_comm _ _ (fun z => hn (by rw [z]; exact List.mem_cons_self ..))]
    by_cases h1 : j ∈ vs
    · rw [wipe_set h1]
    · have e : j = v := by rcases List.mem_cons.mp h with e | e; exact e; exact absurd e h1
      rw [step vs σ h1, e, List.set_set]
theorem wipeG_len : ∀ (G : Gm) (vs : List Nat), (wipeG G vs).length = G.length
  | _, [] => rfl
  | G, v :: vs => by show ((wipeG G vs).set v .no).length = _; rw [List.length_set, wipeG_len G vs]
def Tg (N : Nat) (js : List Nat) (g : TG) (P : Ty) (f : Gm → Gm) : Prop := ∀ (M0 : Hp) (G : Gm) (σ : L2.St) (B M : Hp) (v : V), G.length = N → Holds M0 G σ B M → P.p v B → ∀ Q : L2.St → Hp → Prop,
  (∀ σ', (∀ vs : List Nat, (∀ j ∈ js, j ∈ vs) → L2.wipe σ' vs = L2.wipe σ vs) → Holds M0 (f G) σ' B M → Q σ' (jn B M)) → g v σ (jn B M) Q
section
variable {K : PySem.W.Frag} {E : L2.St → XK} {tu ts : TS} {te tl ta tb : TE} {tt : TT} {G : Gm} {o : Out} {ds es : List PyData} {j l N n : Nat} {P : Ty} {g g1 g2 g3 : TG} {js js1 js2 js3 : List Nat} {f f1 f2 f3 : Gm → Gm} {d1 d2 d3 : PyData} {P1 P2 P3 : Ty}
theorem tg_name (hj : j < N) : Tg N [j] (gName j) P (fun G => G.set j (.im P)) := fun M0 G σ B M v hl H p Q q => q _ (fun vs h => wipe_set (h j (List.mem_cons_self ..))) (H.setIm (by rw [hl]; exact hj) p)
theorem tg_tup2 (h1 : Tg N js1 g1 (isD d1) f1) (h2 : Tg N js2 g2 (isD d2) f2) (hf : ∀ G : Gm, (f1 G).length = G.length) : Tg N (js1 ++ js2) (gTup K 2 (gCons g1 (gCons g2 gNil))) (isD (.tuple [d1, d2])) (fun G => f2 (f1 G)) := fun M0 G σ B M v hl H p Q q => by
  obtain ⟨a, vs, rfl, hh, q1⟩ := dq_tup p
  cases q1 with
  | cons p1 q1 => cases q1 with
    | cons p2 q1 =>
      cases q1
      refine ⟨a, _, rfl, st_of (jn_B H.dj hh), rfl, _, _, rfl, ?_⟩
      refine h1 M0 G σ B M _ hl H p1 _ fun σ1 w1 H1 => ⟨_, _, rfl, ?_⟩
      refine h2 M0 (f1 G) σ1 B M _ (by rw [hf]; exact hl) H1 p2 _ fun σ2 w2 H2 => ⟨rfl, ?_⟩
      exact q σ2 (fun vs h => (w2 vs fun j hj => h j (List.mem_append.mpr (.inr hj))).trans (w1 vs fun j hj => h j (List.mem_append.mpr (.inl hj)))) H2
theorem tg_tup3 (h1 : Tg N js1 g1 (isD d1) f1) (h2 : Tg N js2 g2 (isD d2) f2) (h3 : Tg N js3 g3 (isD d3) f3) (hf : ∀ G : Gm, (f1 G).length = G.length) (hf2 : ∀ G : Gm, (f2 G).length = G.length) : Tg N (js1 ++ (js2 ++ js3)) (gTup K 3 (gCons g1 (gCons g2 (gCons g3 gNil)))) (isD (.tuple [d1, d2, d3])) (fun G => f3 (f2 (f1 G))) := fun M0 G σ B M v hl H p Q q => by
  obtain ⟨a, vs, rfl, hh, q1⟩ := dq_tup p
  cases q1 with
  | cons p1 q1 => cases q1 with
    | cons p2 q1 => cases q1 with
      | cons p3 q1 =>
        cases q1
        refine ⟨a, _, rfl, st_of (jn_B H.dj hh), rfl, _, _, rfl, ?_⟩
        refine h1 M0 G σ B M _ hl H p1 _ fun σ1 w1 H1 => ⟨_, _, rfl, ?_⟩
        refine h2 M0 (f1 G) σ1 B M _ (by rw [hf]; exact hl) H1 p2 _ fun σ2 w2 H2 => ⟨_, _, rfl, ?_⟩
        refine h3 M0 (f2 (f1 G)) σ2 B M _ (by rw [hf2, hf]; exact hl) H2 p3 _ fun σ3 w3 H3 => ⟨rfl, ?_⟩
        exact q σ3 (fun vs h => ((w3 vs fun j hj => h j (List.mem_append.mpr (.inr (List.mem_append.mpr (.inr hj))))).trans (w2 vs fun j hj => h j (List.mem_append.mpr (.inr (List.mem_append.mpr (.inl hj)))))).trans (w1 vs fun j hj => h j (List.mem_append.mpr (.inl hj)))) H3
/-- over a list that stays, any target -/
theorem ss_forLg (h : Sv tl G (isD (.list ds))) (fd : PyData → Gm → Gm) (Gi : Nat → Gm) (N : Nat) (hN : N ≤ ds.length) (h0 : Le G (Gi 0)) (hj : ∀ i, i ≤ N → (Gi i).length = n) (hg : ∀ d ∈ ds, Tg n js g (isD d) (fd d))
    (hs : ∀ i d, ds[i]? = some d → i < N → Turn E tu (fd d (Gi i)) (Gi (i + 1))) (hd : EndsAs E tu Gi (fun i => fd (ds.getD i .none) (Gi i)) N ds.length o) :
    Ss E (tFor (iList K tl) g tu) G o := fun M0 D σ B M H q =>
  h M0 σ B M H _ fun v B1 e1 dd1 p1 => by
    obtain ⟨a, vs, rfl, ha, hv⟩ := dq_lst p1
    have hlen := DqAll_len hv
    refine ⟨a, rfl, ⟨vs, sq_of (jn_B dd1 ha)⟩, ?_⟩
    have wide : ∀ i σ' H', Pvl M0 B1 Gi N i σ' H' → SqL K H' a vs := fun i σ' H' p => by
      obtain ⟨_, B', M', rfl, e, H'⟩ := p
      exact sq_of (jn_B H'.dj (e _ _ ha))
    refine for_list (xs := vs) (Pvl M0 B1 Gi N) ⟨Nat.zero_le _, B1, M, rfl, Ex.refl B1, (H.ext e1 dd1).le h0⟩ (fun i σ' H' _ p => wide i σ' H' p) (fun i x σ' H' hx p => ?_) (fun σ' H' p => ?_)
    · obtain ⟨hiN, B', M', rfl, e, H'⟩ := p
      obtain ⟨d, hd1, px⟩ := DqAll_getV hv hx
      refine hg d (List.mem_of_getElem? hd1) M0 (Gi i) σ' B' M' x (hj i hiN) H' (Dq_ex e d x px) _ fun σ2 _ H2 => ?_
      refine turn_ok (o := o) hiN H2 e (fun l => hs i d hd1 l) (fun l => ?_) (q.ext e1)
      rcases hd with ⟨b, _⟩ | ⟨_, b⟩
      · have := (List.getElem?_eq_some_iff.mp hx).1; omega
      · have z : ds.getD N .none = d := by rw [← l, List.getD_eq_getElem?_getD, hd1]; rfl
        dsimp only at b
        rw [z, ← l] at b
        exact b
    · obtain ⟨hiN, B', M', rfl, e, H'⟩ := p
      rcases hd with ⟨b, c⟩ | ⟨b, _⟩
      · rw [c] at q
        rw [hlen, ← b] at H'
        exact q σ' B' M' (e1.trans e) H'
      · omega
/-- for i, target in enumerate(a list that stays) -/
theorem ss_forEg (h : Sv tl G (isD (.list ds))) (fd : PyData → Gm → Gm) (Gi : Nat → Gm) (N : Nat) (hN : N ≤ ds.length) (h0 : Le G (Gi 0)) (hn : ∀ i, i ≤ N → (Gi i).length = n) (hj : j < n) (hg : ∀ d ∈ ds, Tg n js g (isD d) (fd d))
    (hs : ∀ i d, ds[i]? = some d → i < N → Turn E tu (fd d ((Gi i).set j (.im (isD (.int (i : Int)))))) (Gi (i + 1)))
    (hd : EndsAs E tu Gi (fun i => fd (ds.getD i .none) ((Gi i).set j (.im (isD (.int (i : Int)))))) N ds.length o) :
    Ss E (tFor (iEnum K (tCons tl tNil)) (gTup K 2 (gCons (gName j) (gCons g gNil))) tu) G o := fun M0 D σ B M H q =>
  h M0 σ B M H _ fun v B1 e1 d1 p1 => by
    obtain ⟨a, vs, rfl, ha, hv⟩ := dq_lst p1
    have hlen := DqAll_len hv
    refine ⟨a, vs, rfl, sq_of (jn_B d1 ha), ?_⟩
    refine ⟨fun i m σ H => m = vs.length - i ∧ i ≤ vs.length ∧ Pvl M0 B1 Gi N i σ H, ⟨vs.length, by simp, Nat.zero_le _, Nat.zero_le _, B1, M, rfl, Ex.refl B1, (H.ext e1 d1).le h0⟩, ?_⟩
    rintro i m σ' H1 ⟨rfl, hi, p⟩
    obtain ⟨hiN, B', M', rfl, e, H'⟩ := p
    have hS : SqL K (jn B' M') a vs := sq_of (jn_B H'.dj (e _ _ ha))
    by_cases hlt : i < vs.length
    · refine .inr ⟨⟨vs, vs[i], hS, List.getElem?_eq_getElem hlt⟩, Pvl M0 B1 Gi N (i + 1), fun σ' H' p' => ⟨vs.length - (i + 1), by omega, rfl, hlt, p'⟩, fun x H2 y => ?_⟩
      obtain ⟨t, x, rfl, ht, rfl, hx⟩ := y
      obtain ⟨d, hd1, px⟩ := DqAll_getV hv (hx vs hS)
      rw [upd_new ht]
      have dj2 := dj_new (o := .tup [.int (i : Nat), x]) H'.dj ht
      have ex2 := ex_new (o := .tup [.int (i : Nat), x]) ht
      refine ⟨t, _, rfl, st_of (jn_B dj2 upd_same), rfl, _, _, rfl, _, _, rfl, ?_⟩
      have H3 := (H'.ext ex2 dj2).setIm (by rw [hn i hiN]; exact hj : j < (Gi i).length) (P := isD (.int (i : Int))) (v := .int (i : Int)) (Dq.int _)
      refine hg d (List.mem_of_getElem? hd1) M0 _ _ _ M' x (by rw [List.length_set]; exact hn i hiN) H3 (Dq_ex (e.trans ex2) d x px) _ fun σ2 _ HH => ⟨rfl, ?_⟩
      refine turn_ok (o := o) hiN HH (e.trans ex2) (fun w => hs i d hd1 w) (fun w => ?_) (q.ext e1)
      rcases hd with ⟨b, _⟩ | ⟨_, b⟩
      · omega
      · have z : ds.getD N .none = d := by rw [← w, List.getD_eq_getElem?_getD, hd1]; rfl
        dsimp only at b
        rw [z, ← w] at b
        exact b
    · refine .inl ⟨⟨vs, hS, by omega⟩, ?_⟩
      rcases hd with ⟨b, c⟩ | ⟨b, _⟩
      · rw [c] at q
        have ei : i = N := by omega
        rw [ei] at H'
        exact q σ' B' M' (e1.trans e) H'
      · omega
/-! comprehensions over any target -/
theorem lc_turnG {M0 B M : Hp} {σ : L2.St} {vs : List Nat} {Dl : Addr} {es : Nat → List PyData} {i : Nat} {d y : PyData} {x : V} {b : Bool} {B' : Hp} {acc : List V} (H : Holds M0 G σ B M) (hM : M Dl = none) (e : Ex B B') (dj : Dj B' (upd M Dl (.lst acc))) (ha : DqAll B' acc (es i)) (hz : (es i).length < sizeLine)
    (hx : Dq B' x d) (hg : Tg G.length js g (isD d) f) (hjs : ∀ j ∈ js, j ∈ vs) (ht : St' tt (f (wipeG G vs)) b) (he : b = true → Sv te (f (wipeG G vs)) (isD y)) (hs : es (i + 1) = if b then es i ++ [y] else es i) :
    g x (L2.wipe σ vs) (jn B' (upd M Dl (.lst acc))) fun σ2 H2 => L2.wipe σ2 vs = L2.wipe σ vs ∧ tt σ2 H2 fun b H3 =>
      if b = true then te σ2 H3 fun y H4 => ∃ acc, H4 Dl = some (.lst acc) ∧ acc.length < sizeLine ∧ Pvc B M Dl es (i + 1) (upd H4 Dl (.lst (acc ++ [y]))) else Pvc B M Dl es (i + 1) H3 := by
  have hB' : B' Dl = none := dj_free dj upd_same
  have djM : Dj B' M := fun a u q => by
    have := dj a u q
    by_cases z : a = Dl
    · rw [z]; exact hM
    · rw [upd_ne z] at this; exact this
  have h1 := ((H.ext e djM).wipes vs).more (p := Dl) (o := .lst acc) (show jn B' M Dl = none by rw [jn_N hM]; exact hB')
  refine hg M0 _ _ _ _ x (wipeG_len G vs) h1 hx _ fun σ2 w2 H2 => ?_
  have ww : ∀ (vs : List Nat) (σ : L2.St), L2.wipe (L2.wipe σ vs) vs = L2.wipe σ vs := fun vs => by
    induction vs with
    | nil => intro σ; rfl
    | cons v vs ih =>
      intro σ
      show (L2.wipe ((L2.wipe σ vs).set v none) vs).set v none = (L2.wipe σ vs).set v none
      by_cases hv : v ∈ vs
      · rw [wipe_set hv, ih]
      · have st : ∀ (ws : List Nat) (σ : L2.St), ¬ v ∈ ws → L2.wipe (σ.set v none) ws = (L2.wipe σ ws).set v none := fun ws => by
          induction ws with
          | nil => intro σ _; rfl
          | cons w ws ih2 =>
            intro σ hn
            show (L2.wipe (σ.set v none) ws).set w none = ((L2.wipe σ ws).set w none).set v none
            rw [ih2 σ (fun z => hn (List.mem_cons_of_mem _ z)), List.set_comm _ _ (fun z => hn (by rw [z]; exact List.mem_cons_self ..))]
        rw [st vs _ hv, ih, List.set_set]
  refine ⟨by rw [w2 vs hjs]; exact ww vs σ, ?_⟩
  refine ht M0 _ _ _ H2 _ fun B3 e3 d3 => ?_
  cases b with
  | true =>
    rw [if_pos rfl]
    refine he rfl M0 _ _ _ (H2.ext e3 d3) _ fun v B4 e4 d4 p4 => ?_
    refine ⟨acc, jn_M upd_same, by rw [DqAll_len ha]; exact hz, ?_⟩
    rw [upd_own, upd_upd]
    refine ⟨B4, acc ++ [v], rfl, (e.trans e3).trans e4, ?_, ?_⟩
    · intro a u q
      have := d4 a u q
      by_cases z : a = Dl
      · rw [z, upd_same] at this; cases this
      · rw [upd_ne z] at this ⊢; exact this
    · rw [hs, if_pos rfl]
      exact DqAll_append (DqAll_ex (e3.trans e4) ha) (.cons p4 .nil)
  | false =>
    rw [if_neg Bool.false_ne_true]
    refine ⟨B3, acc, rfl, e.trans e3, d3, ?_⟩
    rw [hs, if_neg Bool.false_ne_true]
    exact DqAll_ex e3 ha
theorem take_filter {α β : Type} (b : α → Bool) (y : α → β) (ds : List α) (i : Nat) (d : α) (h : ds[i]? = some d) : ((ds.take (i + 1)).filter b).map y = if b d then ((ds.take i).filter b).map y ++ [y d] else ((ds.take i).filter b).map y := by
  rw [List.take_succ, h, List.filter_append]
  show (_ ++ List.filter b [d]).map y = _
  cases hb : b d with
  | true => rw [List.filter_cons_of_pos hb, List.map_append]; rfl
  | false => rw [List.filter_cons_of_neg (by rw [hb]; simp), List.filter_nil, List.append_nil]; rfl
/-- [y for target in a list if b] -/
theorem svl_lcG {vs : List Nat} (h : Rl tl G ds) (fd : PyData → Gm → Gm) (b : PyData → Bool) (y : PyData → PyData) (hz : ds.length < 10000000) (hg : ∀ d ∈ ds, Tg G.length js g (isD d) (fd d)) (hjs : ∀ j ∈ js, j ∈ vs) (ht : ∀ d ∈ ds, St' tt (fd d (wipeG G vs)) (b d)) (he : ∀ d ∈ ds, b d = true → Sv te (fd d (wipeG G vs)) (isD (y d))) :
    Svl (tLc (iList K tl) g tt te vs) G ((ds.filter b).map y) := fun M0 σ B M H Q q => h M0 σ B M H _ fun a us B1 e1 dd1 hh q1 => by
  have hlen := DqAll_len q1
  let es : Nat → List PyData := fun i => ((ds.take i).filter b).map y
  refine ⟨a, rfl, ⟨us, sq_of hh⟩, fun Dl hD => ?_⟩
  have hM := (jn_free hD).2
  have hl : ∀ i, (es i).length ≤ i := fun i => by
    show (((ds.take i).filter b).map y).length ≤ i
    rw [List.length_map]
    have := List.length_filter_le b (ds.take i)
    rw [List.length_take] at this
    omega
  refine lc_list (xs := us) (Pvc B1 M Dl es) ⟨B1, [], by rw [upd_own], Ex.refl B1, dj_own dd1 (jn_free hD).1, .nil⟩ (fun i H' _ p => ?_) (fun i x H' hx p => ?_) (fun H' p => ?_)
  · obtain ⟨B', acc, rfl, e, dj, _⟩ := p
    refine sq_of ?_
    have hne : a ≠ Dl := fun z => by rw [z, hD] at hh; cases hh
    unfold jn at hh ⊢
    rw [upd_ne hne]
    cases z : M a with
    | some u => rw [z] at hh; exact hh
    | none => rw [z] at hh; exact e _ _ hh
  · obtain ⟨B', acc, rfl, e, dj, ha⟩ := p
    obtain ⟨d, hd, px⟩ := DqAll_getV q1 hx
    have hi := (List.getElem?_eq_some_iff.mp hd).1
    have hm := List.mem_of_getElem? hd
    exact lc_turnG (H.ext e1 dd1) hM e dj ha (by have := hl i; rw [sizeLine_eq]; omega) (Dq_ex e d x px) (hg d hm) hjs (ht d hm) (he d hm) (take_filter b y ds i d hd)
  · rw [hlen] at p
    have ee : es ds.length = (ds.filter b).map y := by show ((ds.take ds.length).filter b).map y = _; rw [List.take_length]
    exact lc_end hM (Ex.refl _) (fun p vs B' e dj hf hv => by rw [ee] at hv; exact q p vs B' (e1.trans e) dj hf hv) H' p
theorem svl_lcGm {vs : List Nat} (h : Rl tl G ds) (fd : PyData → Gm → Gm) (y : PyData → PyData) (hz : ds.length < 10000000) (hg : ∀ d ∈ ds, Tg G.length js g (isD d) (fd d)) (hjs : ∀ j ∈ js, j ∈ vs) (he : ∀ d ∈ ds, Sv te (fd d (wipeG G vs)) (isD (y d))) :
    Svl (tLc (iList K tl) g tYes te vs) G (ds.map y) := by
  have z := svl_lcG (K := K) (vs := vs) h fd (fun _ => true) y hz hg hjs (fun _ _ => st_yes) (fun d hd _ => he d hd)
  rw [List.filter_eq_self.mpr (fun _ _ => rfl)] at z
  exact z
/-- xs.extend(a list), xs one's own -/
theorem ss_extend (h : G[n]? = some (.ow (isL ds))) (he : Rl te G es) (hz : ds.length + es.length ≤ sizeLine) : Ss E (tDrop (tBM K "list" rExtend (tVar n) (tCons te tNil))) G (.nx (G.set n (.ow (isL (ds ++ es))))) := fun M0 D σ B M H q => by
  obtain ⟨l, ob, a, c, ⟨vs, rfl, r⟩, f⟩ := H.ow n _ h
  refine ⟨.ref l, a, Or.inl ⟨rfl, vs, sq_of (jn_M c)⟩, ?_⟩
  refine he M0 σ B M H _ fun b us B' e dj hb hd => ?_
  refine ⟨l, b, vs, us, rfl, rfl, jn_M c, hb, by rw [DqAll_len r, DqAll_len hd]; exact hz, ?_⟩
  rw [upd_own]
  exact q σ B' _ e ((H.ext e dj).change h a c ⟨_, rfl, DqAll_append (DqAll_ex e r) hd⟩)
end
end Mini

namespace Mini
open PySem L2 Evl PyProof.Rows
section
variable {K : PySem.W.Frag} {E : L2.St → XK} {G : Gm} {te ta tb tv : TE} {C : Addr} {n : Nat} {f : Str} {ds : List PyData} {d1 d2 : PyData} {i1 i2 : Int} {k1 k2 : Nat}
/-- self.f = e, and e raises -/
theorem ss_fldBad {to : TE} (h : Sb tv G E C) : Ss E (sFld K to tv f) G (.bad C G) := fun M0 D σ B M H q => h M0 σ B M H _ fun B' e d => q σ B' M e (H.ext e d)
/-- a, b = two values or new lists, side by side -/
theorem ss_parS {ta : TA} {kk1 kk2 : Ty ⊕ List PyData} {i j : Nat} (h : Sn ta G [kk1, kk2]) (hi : i < G.length := by exact Nat.le_of_ble_eq_true rfl) (hj : j < G.length := by exact Nat.le_of_ble_eq_true rfl) : Ss E (tPar i j ta) G (.nx (setAll G [i, j] [kk1, kk2])) := fun M0 D σ B M H q =>
  h M0 σ B M H _ fun vs B1 M1 e1 d1 p1 => by
    have dM : Dj B1 M := fun a u z => by
      have w := d1 a u z
      cases hm : M a with
      | none => rfl
      | some o => rw [p1.ex a o hm] at w; cases w
    have K1 := holds_set (is := [i, j]) (H.ext e1 dM) d1 p1 rfl (fun k hk => by
      rcases List.mem_cons.mp hk with rfl | hk
      · exact hi
      · rcases List.mem_cons.mp hk with rfl | hk
        · exact hj
        · cases hk)
    have hl := p1.len
    match vs, hl with
    | [u, v], _ => exact ⟨u, v, rfl, q _ _ _ e1 K1⟩
/-- an argument raises -/
theorem sb_mkA {D : Addr} {sp : Sp} {tr : TA} (h : Sb te G E C) : Sb (tMk D sp E (tCons te tr)) G E C := fun M0 σ B M H Q q => h M0 σ B M H _ q
/-- xs[i], xs[j] = two values: xs one's own, i and j written -/
theorem ss_tupSet2 (h : G[n]? = some (.ow (isL ds))) (ha : Sv ta G (isD d1)) (hb : Sv tb G (isD d2)) {t1 t2 : TE} (h1 : Sv t1 G (isD (.int i1))) (h2 : ∀ {M0 : Hp} {σ : L2.St} {B M : Hp}, ∀ Q : VK, Q (.int i2) (jn B M) → t2 σ (jn B M) Q) (h1' : ∀ {M0 : Hp} {σ : L2.St} {B M : Hp}, ∀ Q : VK, Q (.int i1) (jn B M) → t1 σ (jn B M) Q) (hk1 : ixN ds.length i1 = some k1) (hk2 : ixN ds.length i2 = some k2) :
    Ss E (tAsg (tTup (tCons ta (tCons tb tNil))) (gTup K 2 (gCons (gSub (tVar n) t1 rSetL) (gCons (gSub (tVar n) t2 rSetL) gNil)))) G (.nx (G.set n (.ow (isL ((ds.set k1 d1).set k2 d2))))) := fun M0 D σ B M H q =>
  ha M0 σ B M H _ fun x B1 e1 dj1 p1 => hb M0 σ B1 M (H.ext e1 dj1) _ fun y B2 e2 dj2 p2 => by
    refine ⟨by show 2 ≤ sizeLine; decide, fun t ht => ?_⟩
    rw [upd_new ht]
    have e4 := e1.trans (e2.trans (ex_new (o := .tup [x, y]) ht))
    have dj4 := dj_new (o := .tup [x, y]) dj2 ht
    have H4 := H.ext e4 dj4
    have ex2 := ex_new (o := .tup [x, y]) ht
    refine ⟨t, _, rfl, st_of (jn_B dj4 upd_same), rfl, _, _, rfl, ?_⟩
    obtain ⟨l, ob, a, c, ⟨vs, rfl, r⟩, fr⟩ := H4.ow n _ h
    refine ⟨.ref l, a, h1' (M0 := M0) (σ := σ) _ ⟨l, vs, i1, k1, rfl, rfl, jn_M c, by rw [DqAll_len r]; exact hk1, ?_⟩⟩
    refine ⟨_, _, rfl, ?_⟩
    rw [upd_own]
    have p1' := Dq_ex (e2.trans ex2) d1 x p1
    have H5 := H4.change h a c (R' := isL (ds.set k1 d1)) ⟨_, rfl, DqAll_set p1' k1 r⟩
    refine ⟨.ref l, a, h2 (M0 := M0) (σ := σ) _ ⟨l, vs.set k1 x, i2, k2, rfl, rfl, jn_M upd_same, by rw [List.length_set, DqAll_len r]; exact hk2, ?_⟩⟩
    refine ⟨rfl, ?_⟩
    rw [upd_own]
    have hn : n < G.length := (List.getElem?_eq_some_iff.mp h).1
    have H6 := H5.change (n := n) (R := isL (ds.set k1 d1)) (R' := isL ((ds.set k1 d1).set k2 d2)) (List.getElem?_set_self hn) a upd_same ⟨_, rfl, DqAll_set (Dq_ex ex2 d2 y p2) k2 (DqAll_set p1' k1 r)⟩
    rw [List.set_set] at H6
    exact q _ _ _ e4 H6
theorem at_int {i : Int} : ∀ {M0 : Hp} {σ : L2.St} {B M : Hp}, ∀ Q : VK, Q (.int i) (jn B M) → tC (.int i) σ (jn B M) Q := fun Q q => q
theorem at_neg {i : Int} : ∀ {M0 : Hp} {σ : L2.St} {B M : Hp}, ∀ Q : VK, Q (.int (-i)) (jn B M) → tUn (rU fun i => .int (-i)) (tC (.int i)) σ (jn B M) Q := fun Q q => ⟨i, rfl, q⟩
end
end Mini

namespace Mini
open PySem L2 Evl PyProof.Rows

/-! ### enumerate of a text -/
def Ites (x : Str) : It := ⟨fun i _ => i < x.cps.size, fun i H v H' => ∃ T c, v = .ref T ∧ H T = none ∧ H' = upd H T (.tup [.int (i : Nat), .str ⟨#[c]⟩]) ∧ x.cps[i]? = some c, fun i _ => x.cps.size ≤ i⟩
theorem turn_enumS {P : Program} {w : World} {K : PySem.W.Frag} {elts : List Expr} {kk : Nat} {tpos : Pos} (x : Str) (t : Tok) (e it : Addr) :
    L2.Turn P w K (.Tuple elts kk tpos) (Ites x) [e, it] e (fun i h => (∃ old, IsEnum h e it ((i : Nat) : Int) old) ∧ h.IsStrIter it (strIterType x) x t i ∧ e ≠ it ∧ i ≤ x.cps.size) where
  mem := by simp
  obj := fun i h st b hb => by
    obtain ⟨⟨old, he⟩, ⟨o, ho, hc, hd⟩, _⟩ := st
    have e' : b = e ∨ b = it := by simpa using hb
    rcases e' with z | z
    · rw [z]; exact ⟨_, he, fun v q => nomatch q⟩
    · rw [z]; exact ⟨o, ho, fun v q => by rw [hd] at q; cases q⟩
  keep := fun i h h' st k => let ⟨⟨old, he⟩, ⟨o, ho, r⟩, hne⟩ := st; ⟨⟨old, k e (by simp) _ he⟩, ⟨o, k it (by simp) o ho, r⟩, hne⟩
  item := by
    intro X hP hw hK hc i pins s σ H E I hf st hg
    subst hP hw hK
    obtain ⟨⟨old, he⟩, hit, hne, hle⟩ := st
    have D : Draws X.prog X.w X.A.in1 it [it] x.cps.size (fun i v => ∃ c u, x.cps[i]? = some c ∧ v = .str ⟨#[c]⟩ u) (fun i h => h.IsStrIter it (strIterType x) x t i) := by
      unfold strIterType
      split
      · exact Draws.strAscii (A := X.A.in1) (show X.A.in1.handled = none from I.ok.hd hc) it x t
      · exact Draws.strWide (A := X.A.in1) (show X.A.in1.handled = none from I.ok.hd hc) it x t
    have hel : e < s.heap.objs.size := Heap.lt_size he
    have hil : it < s.heap.objs.size := by obtain ⟨_, q, _⟩ := hit; exact Heap.lt_size q
    refine wpAny_pyNext_enum_itemD D he hit hg hne (by simpa using hne) fun v h' tk hP ho hit' hT hsz hk => ?_
    obtain ⟨c, u, hcx, rfl⟩ := hP
    refine ⟨_, rfl, wpAny_letOwnedTupleGo_enum (s := { s with heap := h', toks := tk + 1 }) ho fun h'' he' sb => ?_⟩
    have hT2 : h''.get? s.heap.objs.size = some { cls := .type "tuple", data := .seq #[.int i tk, .str ⟨#[c]⟩ u] } := (sb.2 _ (Nat.ne_of_gt hel)).trans hT
    have new : ObjOk X.prog X.w (upd H s.heap.objs.size (.tup [.int (i : Nat), .str ⟨#[c]⟩])) h'' s.heap.objs.size (.tup [.int (i : Nat), .str ⟨#[c]⟩]) :=
      ⟨by show 2 ≤ sizeLine; decide, [.int i tk, .str ⟨#[c]⟩ u], .cons ⟨_, rfl⟩ (.cons ⟨_, rfl⟩ .nil), ⟨_, hT2, rfl, _, rfl⟩⟩
    have I1 : Inv X pins σ (upd H s.heap.objs.size (.tup [.int (i : Nat), .str ⟨#[c]⟩])) { s with heap := h'', toks := tk + 1 } :=
      I.turnedNew (ch := [e, it]) (fun b ob hb q => (sb.2 b (fun z => hb (by simp [z]))).trans (hk b ob (fun z => hb (by simp [z])) (fun z => hb (by simp [z])) q)) hf (Nat.le_refl _) new
    refine ⟨.ref s.heap.objs.size, _, I1, rfl, ⟨_, c, rfl, I.hok.fresh (Nat.le_refl _), rfl, hcx⟩, ⟨⟨.str ⟨#[c]⟩ u, ?_⟩, ?_, hne, hg⟩, fun b hb => ?_⟩
    · have e1 : ((i + 1 : Nat) : Int) = (i : Int) + 1 := by omega
      rw [e1]; exact he'
    · obtain ⟨o, ho2, r⟩ := hit'
      exact ⟨o, (sb.2 it (Ne.symm hne)).trans ho2, r⟩
    · have hb' : b < s.heap.objs.size := by
        have e' : b = e ∨ b = it := by simpa using hb
        rcases e' with z | z
        · rw [z]; exact hel
        · rw [z]; exact hil
      rw [upd_ne (Nat.ne_of_lt hb')]
      exact (hf b hb).1
  done := by
    intro X hP hw hK hc i pins s σ H E I hf st hg
    subst hP hw hK
    obtain ⟨⟨old, he⟩, hit, hne, hle⟩ := st
    have D : Draws X.prog X.w X.A.in1 it [it] x.cps.size (fun i v => ∃ c u, x.cps[i]? = some c ∧ v = .str ⟨#[c]⟩ u) (fun i h => h.IsStrIter it (strIterType x) x t i) := by
      unfold strIterType
      split
      · exact Draws.strAscii (A := X.A.in1) (show X.A.in1.handled = none from I.ok.hd hc) it x t
      · exact Draws.strWide (A := X.A.in1) (show X.A.in1.handled = none from I.ok.hd hc) it x t
    obtain ⟨f0, f1, f2, f3, f4, f5⟩ := hf it (by simp)
    obtain rfl : i = x.cps.size := Nat.le_antisymm hle hg
    exact wpAny_pyNext_enum_endD D he hit fun h' eb => ⟨rfl, I.turned (t' := s.toks) (fun b o hb q => eb b o hb q) f0 f1 f3 f4 f5⟩
  self := fun A i s Q E st h => let ⟨⟨_, he⟩, _⟩ := st; wpAny_pyIter_enum he h
def iEnumS (ta : TA) : TI := fun σ H R => ta σ H fun vs H1 => ∃ x, vs = [.str x] ∧ R (Ites x) H1
theorem pi_enumS {X : Cx} {e : Expr} {ta : TA} {p pos tpos : Pos} {elts : List Expr} {kk : Nat} (hg : Gl X "enumerate") (hm : X.mg "enumerate" = none) (ha : PA X [e] ta) (hs : starEach [e] X.env = [(false, eval e X.env)] := by rfl) :
    PI X (.Tuple elts kk tpos) (.Call (.Name "enumerate" p) [e] [] pos) (iEnumS ta) := by
  refine ⟨fun pins s σ H R I h => ?_⟩
  refine Call_ (ld_blt I hg hm boot_enumerate (PyProof.Rows.callWith_type1 (thn (ha.run pos pins s σ H _ I h) fun us s1 ⟨vs, H1, I1, r1, q1⟩ => ?_) hs rfl))
  obtain ⟨x, ex, q⟩ := q1
  subst ex
  cases r1 with
  | cons r rr =>
    cases rr
    obtain ⟨t, rfl⟩ := r
    refine call_enumerate_str fun h' he hit hsz hk => wpAny_pyIter_enum he ?_
    have I2 : Inv X pins σ H1 { s1 with heap := h' } := I1.kept (t' := s1.toks) hk
    refine ⟨s1.heap.objs.size + 1, [s1.heap.objs.size + 1, s1.heap.objs.size], _, _, H1, rfl, I2, turn_enumS x t (s1.heap.objs.size + 1) s1.heap.objs.size, ⟨⟨.none, he⟩, hit, Nat.succ_ne_self _, Nat.zero_le _⟩, fun b hb => ?_, q⟩
    have e' : b = s1.heap.objs.size + 1 ∨ b = s1.heap.objs.size := by simpa using hb
    have hle : s1.heap.objs.size ≤ b := by
      rcases e' with z | z
      · rw [z]; omega
      · rw [z]; exact Nat.le_refl _
    exact I1.fpOk hle (I1.hok.fresh hle)
end Mini

namespace Mini
open PySem L2 Evl PyProof.Rows

/-! ### texts: slices, items, joins -/
def uSlS (K : PySem.W.Frag) : V → Option Int → Option Int → Hp → VK → Prop := fun x lo hi H Q => uSl K x lo hi H Q ∨ rSlS x lo hi H Q
theorem sl_uSlS {X : Cx} : SlR X (uSlS X.K) := SlR.or sl_uSl sl_str
def rJoin (K : PySem.W.Frag) : V → List V → Hp → VK → Prop := fun x xs H Q => ∃ a p, ∃ ys : List Str, x = .str a ∧ xs = [.ref p] ∧ (SqL K H p (ys.map V.str) ∨ SqT K H p (ys.map V.str)) ∧
      (ys.map (·.length)).sum + ys.length * a.length ≤ 16777216 ∧ Q (.str (Txt.join a ys)) H
theorem DqAll_strs {H : Hp} : ∀ {ns : List Str} {vs : List V}, DqAll H vs (ns.map PyData.str) → vs = ns.map V.str
  | [], _, h => by cases h; rfl
  | n :: ns, _, h => by
    cases h with
    | cons a b => cases a; rw [DqAll_strs b]; rfl
section
variable {K : PySem.W.Frag} {E : L2.St → XK} {G : Gm} {ta tb tl te td ty tk tv : TE} {j l n : Nat} {ds : List PyData} {z w : Str} {i : Int}
theorem sv_catS (ha : Sv ta G (isD (.str z))) (hb : Sv tb G (isD (.str w))) (hz : z.length + w.length ≤ sizeLine) : Sv (tOp (uAdd K) ta tb) G (isD (.str (z ++ w))) := fun M0 σ B M H Q q =>
  ha M0 σ B M H _ fun x B1 e1 d1 p1 => hb M0 σ B1 M (H.ext e1 d1) _ fun y B2 e2 d2 p2 => by
    rw [dp_str p1, dp_str p2]
    exact .inr (.inr (.inr ⟨z, w, rfl, rfl, hz, q _ B2 (e1.trans e2) d2 (.str _)⟩))
theorem sv_lenS (ha : Sv ta G (isD (.str z))) (hz : z.length ≤ sizeLine) : Sv (tCB (fun xs H Q => ∃ x n, xs = [x] ∧ LenV K x H n ∧ Q (.int n) H) (tCons ta tNil)) G (isD (.int ((z.length : Nat) : Int))) := fun M0 σ B M H Q q =>
  ha M0 σ B M H _ fun x B1 e1 d1 p1 => ⟨x, z.length, rfl, by rw [dp_str p1]; exact ⟨hz, rfl⟩, q _ B1 e1 d1 (.int _)⟩
theorem sv_ixS {c : Nat} (ha : Sv ta G (isD (.str z))) (hb : Sv tb G (isD (.int i))) (hz : z.length ≤ sizeLine) (hi : atI z.cps.toList i = some c) : Sv (tOp (rIx K) ta tb) G (isD (.str ⟨#[c]⟩)) := fun M0 σ B M H Q q =>
  ha M0 σ B M H _ fun x B1 e1 d1 p1 => hb M0 σ B1 M (H.ext e1 d1) _ fun y B2 e2 d2 p2 => by
    rw [dp_str p1, dp_int p2]
    exact .inr (.inr ⟨z, i, c, rfl, rfl, hz, hi, q _ B2 (e1.trans e2) d2 (.str _)⟩)
theorem sv_sliceX {to th : TO} {lo hi : Option Int} (ha : Sv ta G (isD (.str z))) (hl : So to G lo) (hu : So th G hi) (hz : z.length ≤ sizeLine) : Sv (tSl (uSlS K) ta to th) G (isD (.str (cutS z lo hi))) := fun M0 σ B M H Q q =>
  ha M0 σ B M H _ fun x B1 e1 d1 p1 => hl M0 σ B1 M (H.ext e1 d1) _ fun B2 e2 d2 => hu M0 σ B2 M ((H.ext e1 d1).ext e2 d2) _ fun B3 e3 d3 => by
    rw [dp_str p1]
    exact .inr ⟨z, rfl, hz, q _ B3 ((e1.trans e2).trans e3) d3 (.str _)⟩
theorem sv_sliceTX {to th : TO} {lo hi : Option Int} (ha : Sv ta G (isD (.tuple ds))) (hl : So to G lo) (hu : So th G hi) : Sv (tSl (uSlS K) ta to th) G (isD (.tuple (cutD ds lo hi))) := fun M0 σ B M H Q q =>
  ha M0 σ B M H _ fun x B1 e1 d1 p1 => hl M0 σ B1 M (H.ext e1 d1) _ fun B2 e2 d2 => hu M0 σ B2 M ((H.ext e1 d1).ext e2 d2) _ fun B3 e3 d3 => by
    obtain ⟨a, vs, rfl, hh, q1⟩ := dq_tup ((isD (.tuple ds)).mono (e2.trans e3) p1)
    refine .inl (.inr ⟨a, vs, rfl, st_of (jn_B d3 hh), fun z => ?_, fun _ p hp => ?_⟩)
    · refine q _ B3 ((e1.trans e2).trans e3) d3 (.tup hh ?_)
      have w := DqAll_cut q1 lo hi
      unfold cutV at w
      rw [z.1, z.2, List.drop_zero, Nat.sub_zero, List.take_length] at w
      exact w
    · rw [upd_new hp]
      exact q _ _ (((e1.trans e2).trans e3).trans (ex_new hp)) (dj_new d3 hp) (.tup upd_same (DqAll_ex (ex_new hp) (DqAll_cut q1 lo hi)))
theorem sv_join {xs : List Str} (ha : Rl tl G (xs.map PyData.str)) (hz : (xs.map (·.length)).sum + xs.length * z.length ≤ 16777216) : Sv (tM1 (rJoin K) (tC (.str z)) tl) G (isD (.str (Txt.join z xs))) := fun M0 σ B M H Q q =>
  ⟨⟨z, rfl⟩, ha M0 σ B M H _ fun a vs B1 e1 d1 hh q1 => ⟨z, a, xs, rfl, rfl, .inl (by rw [← DqAll_strs q1]; exact sq_of hh), hz, q _ B1 e1 d1 (.str _)⟩⟩
/-- a comprehension over a text -/
theorem svl_lcS (h : Sv tl G (isD (.str z))) (g : Nat → PyData) (hj : j < G.length) (hz : z.cps.toList.length < 10000000) (he : ∀ c, c ∈ z.cps.toList → Sv te (Gv G j (.str ⟨#[c]⟩)) (isD (g c))) : Svl (tLc (iStr tl) (gName j) tYes te [j]) G (z.cps.toList.map g) := fun M0 σ B M H Q q => h M0 σ B M H _ fun v B1 e1 d1 p1 => by
  refine ⟨z, dp_str p1, fun Dl hD => ?_⟩
  have hM := (jn_free hD).2
  refine lc_it (walk_str (z := z)) (Pvc B1 M Dl fun i => (z.cps.toList.take i).map g) ⟨B1, [], by rw [upd_own], Ex.refl B1, dj_own d1 (jn_free hD).1, .nil⟩ (fun _ _ _ _ => trivial) (fun i x H' H'' hi p hy => ?_) (fun H' p => ?_)
  · obtain ⟨rfl, c, hc, rfl⟩ := hy
    obtain ⟨B', acc, rfl, e, dj, ha⟩ := p
    have hc' : z.cps.toList[i]? = some c := by rw [Array.getElem?_toList]; exact hc
    have hi' := (List.getElem?_eq_some_iff.mp hc').1
    refine lc_turn (es := fun i => (z.cps.toList.take i).map g) (b := true) (d := .str ⟨#[c]⟩) (y := g c) (H.ext e1 d1) hj hM e dj ha ?_ (.str _) st_yes (fun _ => he c (List.mem_of_getElem? hc')) ?_
    · show ((z.cps.toList.take i).map g).length < _
      rw [List.length_map, List.length_take, sizeLine_eq]; omega
    · rw [if_pos rfl]
      show (z.cps.toList.take (i + 1)).map g = (z.cps.toList.take i).map g ++ [g c]
      rw [List.take_succ, hc', List.map_append]; rfl
  · rw [← Array.length_toList] at p
    have := lc_end (es := fun i => (z.cps.toList.take i).map g) (i := z.cps.toList.length) hM (Ex.refl _) (fun p vs B' e dj hf hv => q p vs B' (e1.trans e) dj hf (by rw [List.take_length] at hv; exact hv)) H' p
    exact this

/-! ### dicts of data -/
def keyD : Key → PyData
  | .inl i => .int i
  | .inr s => .str s
def isDf (ks : List Key) (f : Key → PyData) : Ty := ⟨fun v B => ∃ a us, v = .ref a ∧ B a = some (.dK us) ∧ us.map (·.1) = ks ∧ ∀ p ∈ us, Dq B p.2 (f p.1),
  fun e ⟨a, us, h1, h2, h3, h4⟩ => ⟨a, us, h1, e _ _ h2, h3, fun p hp => Dq_ex e _ _ (h4 p hp)⟩⟩
theorem putK_new {us : List (Key × V)} {k : Key} {v : V} (h : k ∉ us.map (·.1)) : putK us k v = us ++ [(k, v)] := by
  unfold putK
  rw [if_neg]
  intro z
  obtain ⟨p, hp, e⟩ := List.any_eq_true.mp z
  exact h (List.mem_map.mpr ⟨p, hp, of_decide_eq_true e⟩)
theorem dp_key {B : Hp} {k : Key} {v : V} (h : (isD (keyD k)).p v B) : v = kV k := by
  cases k with
  | inl i => exact dp_int h
  | inr s => exact dp_str h
theorem sv_dgetF {ks : List Key} {f : Key → PyData} {k : Key} (hd : Sv td G (isDf ks f)) (hk : Sv ty G (isD (keyD k))) (hm : k ∈ ks) : Sv (tDGet td ty) G (isD (f k)) := fun M0 σ B M H Q q => hd M0 σ B M H _ fun v B1 e1 d1 p1 => by
  obtain ⟨a, us, rfl, h1, h2, h3⟩ := p1
  refine hk M0 σ B1 M (H.ext e1 d1) _ fun y B2 e2 d2 p2 => ?_
  rw [dp_key p2]
  have hf : (us.find? fun kv => decide (kv.1 = k)).isSome = true := by
    rw [List.find?_isSome]
    obtain ⟨p, hp, e⟩ := List.mem_map.mp (h2 ▸ hm)
    exact ⟨p, hp, decide_eq_true e⟩
  obtain ⟨p, hp⟩ := Option.isSome_iff_exists.mp hf
  have e0 := List.find?_some hp
  have ek : p.1 = k := of_decide_eq_true e0
  refine ⟨a, p.2, rfl, .inl ⟨us, k, .inl (jn_B d2 (e2 _ _ h1)), rfl, ?_⟩, ?_⟩
  · unfold valV; rw [hp]; rfl
  · exact q _ B2 (e1.trans e2) d2 (ek ▸ Dq_ex e2 _ _ (h3 p (List.mem_of_find?_eq_some hp)))
/-- what the dict is after some turns -/
def Pvd (B M : Hp) (Dl : Addr) (ks : List Key) (f : Key → PyData) (H : Hp) : Prop := ∃ B' us, H = jn B' (upd M Dl (.dK us)) ∧ Ex B B' ∧ Dj B' (upd M Dl (.dK us)) ∧ us.map (·.1) = ks ∧ ∀ p ∈ us, Dq B' p.2 (f p.1)
theorem dc_put {B M B3 : Hp} {Dl : Addr} {us : List (Key × V)} {ks : List Key} {f : Key → PyData} {k : Key} {v : V} (e : Ex B B3) (d : Dj B3 (upd M Dl (.dK us))) (h : us.map (·.1) = ks) (hn : k ∉ ks) (hf : ∀ p ∈ us, Dq B3 p.2 (f p.1)) (hv : Dq B3 v (f k)) :
    Pvd B M Dl (ks ++ [k]) f (upd (jn B3 (upd M Dl (.dK us))) Dl (.dK (putK us k v))) := by
  refine ⟨B3, us ++ [(k, v)], ?_, e, ?_, ?_, ?_⟩
  · rw [upd_own, upd_upd, putK_new (by rw [h]; exact hn)]
  · intro a u q
    have := d a u q
    by_cases z : a = Dl
    · rw [z, upd_same] at this; cases this
    · rw [upd_ne z] at this ⊢; exact this
  · rw [List.map_append, h]; rfl
  · intro p hp
    rcases List.mem_append.mp hp with z | z
    · exact hf p z
    · rw [List.mem_singleton] at z; rw [z]; exact hv
theorem dc_end {M0 B M : Hp} {Dl : Addr} {ks : List Key} {f : Key → PyData} {H : Hp} {σ : L2.St} {D : Ends} (h : Holds M0 G σ B M) (hM : M Dl = none) (hn : n < G.length) (p : Pvd B M Dl ks f H) (q : ∀ B', Ex B B' → ∀ σ' M', Holds M0 (G.set n (.im (isDf ks f))) σ' B' M' → D.nx σ' (jn B' M')) : D.nx (σ.set n (some (.ref Dl))) H := by
  obtain ⟨B', us, rfl, e, dj, h1, h2⟩ := p
  have hB' : B' Dl = none := dj_free dj upd_same
  have djM : Dj B' M := fun a u q => by
    have := dj a u q
    by_cases z : a = Dl
    · rw [z]; exact hM
    · rw [upd_ne z] at this; exact this
  rw [jn_push hM]
  have hDn : jn B' M Dl = none := by rw [jn_N hM]; exact hB'
  have eN : Ex B' (upd B' Dl (.dK us)) := ex_new hDn
  have djN : Dj (upd B' Dl (.dK us)) M := dj_push dj hM
  exact q _ (e.trans eN) _ _ (((h.ext e djM).ext eN djN).setIm hn ⟨Dl, us, rfl, upd_same, h1, fun p hp => Dq_ex eN _ _ (h2 p hp)⟩)
/-- y = {k: v for k in ints} -/
theorem ss_setDcL {ns : List Int} {f : Key → PyData} (h : Rl tl G (ns.map PyData.int)) (hnd : ns.Nodup) (hn : n < G.length) (hj : j < G.length) (hz : ns.length < 1000000) (hv : ∀ k ∈ ns, Sv tv (Gv G j (.int k)) (isD (f (.inl k)))) :
    Ss E (tAsg (tDc (iList K tl) (gName j) tYes (tVar j) tv [j]) (gName n)) G (.nx (G.set n (.im (isDf (ns.map Sum.inl) f)))) := fun M0 D σ B M H q => h M0 σ B M H _ fun a vs B1 e1 d1 hh q1 => by
  have hvs := DqAll_ints q1
  subst hvs
  refine ⟨a, rfl, ⟨_, sq_of hh⟩, fun Dl hD => ?_⟩
  have hM := (jn_free hD).2
  refine ⟨fun i m H' => i ≤ ns.length ∧ m = ns.length - i ∧ Pvd B1 M Dl ((ns.take i).map Sum.inl) f H', ⟨ns.length, Nat.zero_le _, rfl, B1, [], by rw [upd_own], Ex.refl B1, dj_own d1 (jn_free hD).1, rfl, fun p hp => by cases hp⟩, fun i m H' hW => ?_⟩
  obtain ⟨hle, rfl, B', us, rfl, e, dj, h1, h2⟩ := hW
  have hB' : B' Dl = none := dj_free dj upd_same
  have djM : Dj B' M := fun a u q => by
    have := dj a u q
    by_cases z : a = Dl
    · rw [z]; exact hM
    · rw [upd_ne z] at this; exact this
  have hS : SqL K (jn B' (upd M Dl (.dK us))) a (ns.map V.int) := by
    refine sq_of ?_
    have hne : a ≠ Dl := fun z => by rw [z, hD] at hh; cases hh
    unfold jn at hh ⊢
    rw [upd_ne hne]
    cases z : M a with
    | some u => rw [z] at hh; exact hh
    | none => rw [z] at hh; exact e _ _ hh
  by_cases z : i < ns.length
  · have hg : (ns.map V.int)[i]? = some (V.int ns[i]) := by rw [List.getElem?_map, List.getElem?_eq_getElem z]; rfl
    refine .inr ⟨⟨_, V.int ns[i], hS, hg⟩, fun H' => Pvd B1 M Dl ((ns.take (i + 1)).map Sum.inl) f H', fun H' p => ⟨ns.length - (i + 1), by omega, by omega, rfl, p⟩, fun x H' hy => ?_⟩
    obtain ⟨rfl, hx⟩ := hy
    obtain rfl : x = V.int ns[i] := by have := hx _ hS; rw [hg] at this; exact (Option.some.inj this).symm
    refine ⟨wipe_one σ j _, ?_⟩
    have H2 : Holds M0 (Gv G j (.int ns[i])) ((L2.wipe σ [j]).set j (some (V.int ns[i]))) B' (upd M Dl (.dK us)) := by
      have h1 := ((((H.ext e1 d1).ext e djM).wipes [j]).more (p := Dl) (o := .dK us) (show jn B' M Dl = none by rw [jn_N hM]; exact hB'))
      exact h1.setIm (by show j < (G.set j .no).length; rw [List.length_set]; exact hj) (.int _)
    refine tyes_ite ?_
    have hjj : ((L2.wipe σ [j]).set j (some (V.int ns[i])))[j]? = some (some (V.int ns[i])) := List.getElem?_set_self (by show j < (σ.set j none).length; rw [List.length_set, H.len]; exact hj)
    refine ⟨_, hjj, ?_⟩
    refine hv _ (List.getElem_mem z) M0 _ _ _ H2 _ fun y B4 e4 d4 p4 => ?_
    refine ⟨us, Sum.inl ns[i], rfl, jn_M upd_same, ?_, ?_⟩
    · have : (us.map (·.1)).length = ((ns.take i).map (Sum.inl : Int → Key)).length := by rw [h1]
      rw [List.length_map, List.length_map, List.length_take] at this
      rw [sizeLine_eq]
      omega
    · have et : (ns.take (i + 1)).map (Sum.inl : Int → Key) = (ns.take i).map Sum.inl ++ [Sum.inl ns[i]] := by rw [List.take_succ, List.getElem?_eq_getElem z, List.map_append]; rfl
      rw [et]
      refine dc_put (e.trans e4) d4 h1 ?_ (fun p hp => Dq_ex e4 _ _ (h2 p hp)) p4
      intro hm
      obtain ⟨y, hy, e⟩ := List.mem_map.mp hm
      have e : y = ns[i] := Sum.inl.inj e
      obtain ⟨k, hk, ek⟩ := List.mem_iff_getElem.mp hy
      rw [List.length_take] at hk
      rw [List.getElem_take] at ek
      have := nd_get hnd (i := k) (j := i) (by omega) z (ek.trans e)
      omega
  · have ei : i = ns.length := by omega
    subst ei
    refine .inl ⟨⟨_, hS, by rw [List.length_map]; exact Nat.le_refl _⟩, ?_⟩
    rw [List.take_length] at h1
    exact dc_end (H.ext e1 d1) hM hn ⟨B', us, rfl, e, dj, h1, h2⟩ fun B'' e'' σ' M' H' => q σ' B'' M' (e1.trans e'') H'
end
end Mini

namespace Mini
open PySem L2 Evl PyProof.Rows

def signK (c : Nat) : Key := Sum.inr ⟨#[c]⟩
theorem signK_inj {a b : Nat} (h : signK a = signK b) : a = b := by
  have := Sum.inr.inj h
  injection this with h
  injection h with h
  injection h
section
variable {K : PySem.W.Frag} {E : L2.St → XK} {G : Gm} {ta tb tl te td ty tk tv : TE} {j l n : Nat} {ds : List PyData} {z w : Str} {i : Int}
/-- y = {sign: number for number, sign in enumerate(text)} -/
theorem ss_setDcS {f : Key → PyData} (h : Sv tl G (isD (.str z))) (hnd : z.cps.toList.Nodup) (hn : n < G.length) (hj : j < G.length) (hl : l < G.length) (hjl : j ≠ l) (hz : z.cps.toList.length < 1000000) (hv : ∀ (i : Nat) c, z.cps.toList[i]? = some c → f (signK c) = .int (i : Int)) :
    Ss E (tAsg (tDc (iEnumS (tCons tl tNil)) (gTup K 2 (gCons (gName j) (gCons (gName l) gNil))) tYes (tVar l) (tVar j) [j, l]) (gName n)) G (.nx (G.set n (.im (isDf (z.cps.toList.map signK) f)))) := fun M0 D σ B M H q => h M0 σ B M H _ fun v B1 e1 d1 p1 => by
  refine ⟨z, by rw [dp_str p1], fun Dl hD => ?_⟩
  have hM := (jn_free hD).2
  have hsz : z.cps.size = z.cps.toList.length := (Array.length_toList).symm
  refine ⟨fun i m H' => i ≤ z.cps.toList.length ∧ m = z.cps.toList.length - i ∧ Pvd B1 M Dl ((z.cps.toList.take i).map signK) f H', ⟨z.cps.toList.length, Nat.zero_le _, rfl, B1, [], by rw [upd_own], Ex.refl B1, dj_own d1 (jn_free hD).1, rfl, fun p hp => by cases hp⟩, fun i m H' hW => ?_⟩
  obtain ⟨hle, rfl, B', us, rfl, e, dj, h1, h2⟩ := hW
  have hB' : B' Dl = none := dj_free dj upd_same
  have djM : Dj B' M := fun a u q => by
    have := dj a u q
    by_cases z : a = Dl
    · rw [z]; exact hM
    · rw [upd_ne z] at this; exact this
  by_cases hi : i < z.cps.toList.length
  · refine .inr ⟨by show i < z.cps.size; omega, fun H' => Pvd B1 M Dl ((z.cps.toList.take (i + 1)).map signK) f H', fun H' p => ⟨z.cps.toList.length - (i + 1), by omega, by omega, rfl, p⟩, fun x H' hy => ?_⟩
    obtain ⟨t, c, rfl, ht, rfl, hx⟩ := hy
    have hc : z.cps.toList[i]? = some c := by rw [Array.getElem?_toList]; exact hx
    rw [upd_new ht]
    refine ⟨t, _, rfl, st_of (jn_B (dj_new dj ht) upd_same), rfl, _, _, rfl, _, _, rfl, rfl, ?_⟩
    refine ⟨wipe_two2 σ hjl _ _, ?_⟩
    have et : Ex B' (upd B' t (.tup [V.int i, .str ⟨#[c]⟩])) := ex_new ht
    have djt : Dj (upd B' t (.tup [V.int i, .str ⟨#[c]⟩])) (upd M Dl (.dK us)) := dj_new dj ht
    refine tyes_ite ?_
    have hlen : ∀ τ : L2.St, τ.length = σ.length → ∀ u v : V, ((τ.set j (some u)).set l (some v))[j]? = some (some u) := fun τ ht u v => by
      rw [List.getElem?_set_ne (Ne.symm hjl)]
      exact List.getElem?_set_self (by rw [ht, H.len]; exact hj)
    have hw : (L2.wipe σ [j, l]).length = σ.length := by show ((σ.set l none).set j none).length = _; rw [List.length_set, List.length_set]
    have hjj := hlen _ hw (V.int i) (.str ⟨#[c]⟩)
    have hll : (((L2.wipe σ [j, l]).set j (some (V.int i))).set l (some (.str ⟨#[c]⟩)))[l]? = some (some (.str ⟨#[c]⟩)) := List.getElem?_set_self (by rw [List.length_set, hw, H.len]; exact hl)
    refine ⟨_, hll, _, hjj, us, signK c, rfl, jn_M upd_same, ?_, ?_⟩
    · have : (us.map (·.1)).length = ((z.cps.toList.take i).map signK).length := by rw [h1]
      rw [List.length_map, List.length_map, List.length_take] at this
      rw [sizeLine_eq]
      omega
    · have et2 : (z.cps.toList.take (i + 1)).map signK = (z.cps.toList.take i).map signK ++ [signK c] := by rw [List.take_succ, hc, List.map_append]; rfl
      show Pvd B1 M Dl ((z.cps.toList.take (i + 1)).map signK) f _
      rw [et2]
      refine dc_put (e.trans et) djt h1 ?_ (fun p hp => Dq_ex et _ _ (h2 p hp)) (by rw [hv i c hc]; exact .int _)
      intro hm
      obtain ⟨y, hy, e⟩ := List.mem_map.mp hm
      have e : y = c := signK_inj e
      obtain ⟨k, hk, ek⟩ := List.mem_iff_getElem.mp hy
      rw [List.length_take] at hk
      rw [List.getElem_take] at ek
      have hci : z.cps.toList[i] = c := by rw [List.getElem?_eq_getElem hi] at hc; exact Option.some.inj hc
      have := (List.getElem_inj (h₀ := by omega) (h₁ := hi) hnd).mp (ek.trans (e.trans hci.symm))
      omega
  · have ei : i = z.cps.toList.length := by omega
    subst ei
    refine .inl ⟨by show z.cps.size ≤ _; omega, ?_⟩
    rw [List.take_length] at h1
    exact dc_end (H.ext e1 d1) hM hn ⟨B', us, rfl, e, dj, h1, h2⟩ fun B'' e'' σ' M' H' => q σ' B'' M' (e1.trans e'') H'
end

/-! ### sorted(set(tuple of ints)) -/
theorem sorted_uniq : ∀ {a b : List Int}, a.Pairwise (· < ·) → b.Pairwise (· < ·) → (∀ k, k ∈ a ↔ k ∈ b) → a = b
  | [], [], _, _, _ => rfl
  | [], y :: b, _, _, h => absurd ((h y).mpr (List.mem_cons_self ..)) (List.not_mem_nil)
  | x :: a, [], _, _, h => absurd ((h x).mp (List.mem_cons_self ..)) (List.not_mem_nil)
  | x :: a, y :: b, ha, hb, h => by
    have ha' := List.pairwise_cons.mp ha
    have hb' := List.pairwise_cons.mp hb
    have e : x = y := by
      rcases List.mem_cons.mp ((h x).mp (List.mem_cons_self ..)) with z | z
      · exact z
      · rcases List.mem_cons.mp ((h y).mpr (List.mem_cons_self ..)) with w | w
        · exact w.symm
        · have := hb'.1 x z
          have := ha'.1 y w
          omega
    subst e
    have : a = b := sorted_uniq ha'.2 hb'.2 fun k => by
      constructor
      · intro hk
        have := ha'.1 k hk
        rcases List.mem_cons.mp ((h k).mp (List.mem_cons_of_mem _ hk)) with z | z
        · omega
        · exact z
      · intro hk
        have := hb'.1 k hk
        rcases List.mem_cons.mp ((h k).mpr (List.mem_cons_of_mem _ hk)) with z | z
        · omega
        · exact z
    rw [this]
def insI (x : Int) : List Int → List Int
  | [] => [x]
  | y :: r => if x < y then x :: y :: r else if x = y then y :: r else y :: insI x r
theorem insI_mem {x k : Int} : ∀ {l : List Int}, k ∈ insI x l ↔ k = x ∨ k ∈ l
  | [] => by simp [insI]
  | y :: r => by
    unfold insI
    by_cases c : x < y
    · rw [if_pos c]; simp
    · rw [if_neg c]
      by_cases d : x = y
      · rw [if_pos d, List.mem_cons, d]
        constructor
        · rintro (z | z)
          · exact .inl z
          · exact .inr (.inr z)
        · rintro (z | z | z)
          · exact .inl z
          · exact .inl z
          · exact .inr z
      · rw [if_neg d, List.mem_cons, insI_mem (l := r), List.mem_cons]
        constructor
        · rintro (z | z | z)
          · exact .inr (.inl z)
          · exact .inl z
          · exact .inr (.inr z)
        · rintro (z | z | z)
          · exact .inr (.inl z)
          · exact .inl z
          · exact .inr (.inr z)
theorem insI_sorted {x : Int} : ∀ {l : List Int}, l.Pairwise (· < ·) → (insI x l).Pairwise (· < ·)
  | [], _ => List.pairwise_singleton _ _
  | y :: r, h => by
    have h' := List.pairwise_cons.mp h
    unfold insI
    by_cases c : x < y
    · rw [if_pos c]
      refine List.pairwise_cons.mpr ⟨fun k hk => ?_, h⟩
      rcases List.mem_cons.mp hk with z | z
      · omega
      · have := h'.1 k z; omega
    · rw [if_neg c]
      by_cases d : x = y
      · rw [if_pos d]; exact h
      · rw [if_neg d]
        refine List.pairwise_cons.mpr ⟨fun k hk => ?_, insI_sorted h'.2⟩
        rcases insI_mem.mp hk with z | z
        · omega
        · exact h'.1 k z
def srt (ns : List Int) : List Int := ns.foldr insI []
theorem srt_mem {ns : List Int} {k : Int} : k ∈ srt ns ↔ k ∈ ns := by
  unfold srt
  induction ns with
  | nil => rfl
  | cons x ns ih => rw [List.foldr_cons, insI_mem, ih, List.mem_cons]
theorem srt_sorted : ∀ (ns : List Int), (srt ns).Pairwise (· < ·)
  | [] => .nil
  | x :: ns => insI_sorted (srt_sorted ns)
theorem srt_nodup (ns : List Int) : (srt ns).Nodup := (srt_sorted ns).imp fun h => by omega
theorem insI_len {x : Int} : ∀ {l : List Int}, (insI x l).length ≤ l.length + 1
  | [] => Nat.le_refl _
  | y :: r => by
    unfold insI
    split
    · exact Nat.le_refl _
    · split
      · exact Nat.le_succ _
      · have := insI_len (x := x) (l := r)
        rw [List.length_cons, List.length_cons]; omega
theorem srt_len : ∀ (ns : List Int), (srt ns).length ≤ ns.length
  | [] => Nat.le_refl _
  | x :: ns => by
    have := srt_len ns
    have := insI_len (x := x) (l := srt ns)
    show (insI x (srt ns)).length ≤ _
    rw [List.length_cons]; omega
/-- set(t), t a tuple of ints -/
def tSetT (w : World) (K : PySem.W.Frag) (ta : TE) : TE := fun σ H Q => ta σ H fun x H1 => ∃ (l : Addr) (ns : List Int), x = .ref l ∧ SqT K H1 l (ns.map V.int) ∧ ns.length ≤ 1000 ∧
  ∀ p c, H1 p = none → c ≤ ns.length → Q (.ref p) (upd H1 p (SetO w p (fun j => decide (j ∈ ns)) c))
theorem pe_setT {X : Cx} {a : Expr} {ta : TE} {p pos : Pos} (hc : X.calm = true) (hg : Gl X "set") (hm : X.mg "set" = none) (ha : PE X a ta) (hst : starEach [a] X.env = (false, eval a X.env) :: starEach [] X.env := by rfl) :
    PE X (.Call (.Name "set" p) [a] [] pos) (tSetT X.w X.K ta) := by
  refine ⟨fun pins s σ H Q I h => ?_⟩
  refine Call_ (ld_blt I hg hm boot_set (callWith_type1 (args_cons (thn (ha.run pins s σ H _ I h) fun v s1 hh => args_nil ?_) hst) hst))
  obtain ⟨x, H1, I1, r1, l, ns, rfl, hq, hl, q1⟩ := hh
  obtain rfl : v = Value.ref l := r1
  obtain ⟨its, rv, pt, hz⟩ := I1.tuple hq
  have hi : IntsAre its.toArray.toList ns := ints_of_vals rv
  have hd := I1.ok.hd hc
  refine call_set_tupI ns hd (show s1.heap.IsTuple l its.toArray from pt) hi (by unfold scanBound; omega) fun h' tk c R1 hcn k => ?_
  have hn : H1 s1.heap.objs.size = none := I1.hok.fresh (Nat.le_refl _)
  exact ⟨.ref s1.heap.objs.size, _, I1.laid (t' := tk) (h' := h') k (Nat.le_refl _) (setO_new (P := X.prog) (H := upd H1 s1.heap.objs.size (SetO X.w s1.heap.objs.size (fun j => decide (j ∈ ns)) c)) R1), rfl, q1 _ c hn hcn⟩
theorem svl_sortSet {w : World} {K : PySem.W.Frag} {G : Gm} {ta : TE} {ns : List Int} (ha : Sv ta G (isD (.tuple (ns.map .int)))) (hz : ns.length < 64) :
    Svl (tCB (rSortedSet w) (tCons (tSetT w K ta) tNil)) G ((srt ns).map PyData.int) := fun M0 σ B M H Q q => ha M0 σ B M H _ fun x B1 e1 d1 p1 => by
  obtain ⟨l, vs, rfl, hh, q1⟩ := dq_tup p1
  have hvs := DqAll_ints q1
  subst hvs
  refine ⟨l, ns, rfl, st_of (jn_B d1 hh), by omega, fun p c hp hc => ?_⟩
  refine ⟨p, _, c, rfl, by rw [upd_same], by omega, fun out p2 h1 h2 h3 hp2 => ?_⟩
  have eo : out = srt ns := sorted_uniq h1 (srt_sorted ns) fun k => by rw [h2 k, srt_mem]; exact decide_eq_true_iff
  subst eo
  rw [upd_new hp] at hp2 ⊢
  exact q p2 _ _ (e1.trans (ex_new hp)) (dj_new d1 hp) hp2 (DqAll_ofInts _)
end Mini

namespace Mini
open PySem L2 Evl PyProof.Rows

/-! ### a pair of data, some of it the module's, unpacked -/
section
variable {K : PySem.W.Frag} {E : L2.St → XK} {G : Gm} {te ta tb : TE} {i j : Nat} {d1 d2 : PyData}
theorem ss_unpP2 (h : Sv te G (isP K (.tuple [d1, d2]))) (hi : i < G.length := by exact Nat.le_of_ble_eq_true rfl) (hj : j < G.length := by exact Nat.le_of_ble_eq_true rfl) :
    Ss E (tAsg te (gTup K 2 (gCons (gName i) (gCons (gName j) gNil)))) G (.nx ((G.set i (.im (isP K d1))).set j (.im (isP K d2)))) := fun M0 D σ B M H q => by
  refine h M0 σ B M H _ fun v B' e dj p => ?_
  cases (show DqK K B' v (.tuple [d1, d2]) from p) with
  | tup hs hh =>
    cases hh with
    | cons p1 h2 => cases h2 with
      | cons p2 h2 =>
        cases h2
        refine ⟨_, _, rfl, jn_st dj hs, rfl, _, _, rfl, _, _, rfl, rfl, ?_⟩
        exact q _ B' M e (((H.ext e dj).setIm (P := isP K d1) hi p1).setIm (P := isP K d2) (by rw [List.length_set]; exact hj) p2)
end

/-! ### words as texts of signs -/
def signs : Str := "0123456789ABCDEFGHIJKLMNOPQRSTUVWXYZabcdefghijklmnopqrstuvwx"
def SLc : List Nat := [48, 49, 50, 51, 52, 53, 54, 55, 56, 57] ++ (List.range 26).map (· + 65) ++ (List.range 24).map (· + 97)
theorem SL_eq : signs.cps.toList = SLc := by decide +kernel
theorem SL_len : SLc.length = 60 := by decide +kernel
theorem SL_nd : SLc.Nodup := by decide +kernel
def sgC (i : Int) : Nat := SLc.getD i.toNat 0
def sg (w : List Int) : Str := ⟨(w.map sgC).toArray⟩
def InR (w : List Int) : Prop := ∀ v ∈ w, 0 ≤ v ∧ v < 60
theorem sg_list (w : List Int) : (sg w).cps.toList = w.map sgC := rfl
theorem sg_len (w : List Int) : (sg w).length = w.length := by
  show ((w.map sgC).toArray).size = _
  rw [List.size_toArray, List.length_map]
theorem sgC_lt (i : Int) : sgC i < 200 := by
  unfold sgC
  have h : ∀ c ∈ SLc, c < 200 := by decide +kernel
  rw [List.getD_eq_getElem?_getD]
  cases e : SLc[i.toNat]? with
  | none => show 0 < 200; decide
  | some c => exact h c (List.mem_of_getElem? e)
theorem sg_ok (w : List Int) : PyData.strOk (sg w) = true := by
  show ((w.map sgC).toArray).all (· < 0x110000) = true
  rw [List.all_toArray, List.all_map, List.all_eq_true]
  intro i _
  have := sgC_lt i
  exact decide_eq_true (by omega)
theorem sg_append (a b : List Int) : sg a ++ sg b = sg (a ++ b) := by
  apply TL.ext_tl
  rw [TL.tl_append]
  show a.map sgC ++ b.map sgC = (a ++ b).map sgC
  rw [List.map_append]
theorem sgC_at {i : Int} (h0 : 0 ≤ i) (h1 : i < 60) : SLc[i.toNat]? = some (sgC i) := by
  have h : i.toNat < SLc.length := by rw [SL_len]; omega
  unfold sgC
  rw [List.getD_eq_getElem?_getD, List.getElem?_eq_getElem h]; rfl
theorem idx_sgC {i : Int} (h0 : 0 ≤ i) (h1 : i < 60) : (SLc.idxOf (sgC i) : Int) = i := by
  have h : ∀ k : Fin 60, SLc.idxOf (SLc.getD k.val 0) = k.val := by decide +kernel
  have := h ⟨i.toNat, by omega⟩
  show ((SLc.idxOf (SLc.getD i.toNat 0) : Nat) : Int) = i
  have e : SLc.idxOf (SLc.getD i.toNat 0) = i.toNat := this
  rw [e]; omega
theorem sg_inj {a b : List Int} (ha : InR a) (hb : InR b) (h : sg a = sg b) : a = b := by
  have h : a.map sgC = b.map sgC := by
    have := congrArg TL.tl h
    exact this
  have back : ∀ {w : List Int}, InR w → (w.map sgC).map (fun c => ((SLc.idxOf c : Nat) : Int)) = w := fun {w} hw => by
    rw [List.map_map]
    conv => rhs; rw [← List.map_id w]
    exact List.map_congr_left fun v hv => idx_sgC (hw v hv).1 (hw v hv).2
  rw [← back ha, ← back hb, h]
theorem sg_eq_iff {a b : List Int} (ha : InR a) (hb : InR b) : (sg a == sg b) = decide (a = b) := by
  by_cases e : a = b
  · rw [e, decide_eq_true rfl]; exact beq_self_eq_true _
  · rw [decide_eq_false e]
    exact beq_false_of_ne fun h => e (sg_inj ha hb h)
theorem cutS_take (w : List Int) {k : Nat} : cutS (sg w) none (some (k : Int)) = sg (w.take k) := by
  unfold cutS
  rw [sg_list, sg_len]
  show (⟨((w.map sgC).drop 0 |>.take (HT.sIx w.length w.length (some (k : Int)) - 0)).toArray⟩ : Str) = ⟨((w.take k).map sgC).toArray⟩
  congr 2
  have e := cut_take (ds := w.map sgC) (i := (k : Int)) (by omega)
  unfold cutD at e
  rw [List.length_map] at e
  rw [List.map_take]
  rw [Int.toNat_natCast] at e
  exact e
theorem cutS_drop (w : List Int) {k : Nat} : cutS (sg w) (some (k : Int)) none = sg (w.drop k) := by
  unfold cutS
  rw [sg_list, sg_len]
  congr 2
  have e := cut_drop (ds := w.map sgC) (i := (k : Int)) (by omega)
  unfold cutD at e
  rw [List.length_map] at e
  rw [List.map_drop]
  rw [Int.toNat_natCast] at e
  exact e
theorem join_sg (w : List Int) : Txt.join "" (w.map fun i => (⟨#[sgC i]⟩ : Str)) = sg w := by
  rw [TL.join_eq]
  apply TL.ext_tl
  rw [TL.tl_join, List.map_map]
  show TL.joinL (TL.tl "") (w.map fun i => [sgC i]) = w.map sgC
  have e0 : TL.tl "" = [] := by decide +kernel
  rw [e0]
  induction w with
  | nil => rfl
  | cons i w ih =>
    cases w with
    | nil => rfl
    | cons k w =>
      show [sgC i] ++ ([] ++ TL.joinL [] ((k :: w).map fun i => [sgC i])) = _
      rw [ih]; rfl
/-- a word, plain or as a text of signs -/
def SqD (b : Bool) (w : List Int) : PyData := if b then .str (sg w) else .tuple (w.map .int)
def pairQ (b : Bool) (x y : List Int) : PyData := .tuple [SqD b x, SqD b y]
def stT (K : PySem.W.Frag) (b : Bool) (x y : List Int) : Ty := if b then isP K (pairQ true x y) else isD (pairQ false x y)
section
variable {K : PySem.W.Frag} {G : Gm} {ta tb : TE} {b : Bool} {v w : List Int}
theorem sv_lenQ (ha : Sv ta G (isP K (SqD b w))) (hz : w.length ≤ sizeLine) : Sv (tCB (fun xs H Q => ∃ x n, xs = [x] ∧ LenV K x H n ∧ Q (.int n) H) (tCons ta tNil)) G (isD (.int ((w.length : Nat) : Int))) := by
  cases b with
  | true => exact sv_is (sv_lenS (sv_pA (show AtomP (.str (sg w)) from sg_ok w) ha) (by rw [sg_len]; exact hz)) (by rw [sg_len])
  | false => exact sv_is (sv_lenP (ds := w.map .int) ha) (by rw [List.length_map])
theorem sv_catQ (ha : Sv ta G (isD (SqD b v))) (hb : Sv tb G (isD (SqD b w))) (hz : v.length + w.length ≤ sizeLine) : Sv (tOp (uAdd K) ta tb) G (isD (SqD b (v ++ w))) := by
  cases b with
  | true => exact sv_is (sv_catS (z := sg v) (w := sg w) ha hb (by rw [sg_len, sg_len]; exact hz)) (by rw [sg_append]; rfl)
  | false => exact sv_is (sv_catT (ds := v.map .int) (es := w.map .int) ha hb (by rw [List.length_map, List.length_map]; exact hz)) (by rw [← List.map_append]; rfl)
theorem sv_takeQ {k : Nat} (ha : Sv ta G (isD (SqD b w))) (hk : Sv tb G (isD (.int (k : Int)))) (hz : w.length ≤ sizeLine) : Sv (tSl (uSlS K) ta tNoPart (tPart tb)) G (isD (SqD b (w.take k))) := by
  cases b with
  | true => exact sv_is (sv_sliceX (z := sg w) ha so_none (so_some hk) (by rw [sg_len]; exact hz)) (by rw [cutS_take]; rfl)
  | false => exact sv_is (sv_sliceTX (ds := w.map .int) ha so_none (so_some hk)) (by rw [cut_take _ (by omega), Int.toNat_natCast, ← List.map_take]; rfl)
theorem sv_dropQ {k : Nat} (ha : Sv ta G (isD (SqD b w))) (hk : Sv tb G (isD (.int (k : Int)))) (hz : w.length ≤ sizeLine) : Sv (tSl (uSlS K) ta (tPart tb) tNoPart) G (isD (SqD b (w.drop k))) := by
  cases b with
  | true => exact sv_is (sv_sliceX (z := sg w) ha (so_some hk) so_none (by rw [sg_len]; exact hz)) (by rw [cutS_drop]; rfl)
  | false => exact sv_is (sv_sliceTX (ds := w.map .int) ha (so_some hk) so_none) (by rw [cut_drop _ (by omega), Int.toNat_natCast, ← List.map_drop]; rfl)
theorem sv_st0 {m : Nat} {x y : List Int} (h : G[m]? = some (.im (stT K b x y))) : Sv (tOp (rIx K) (tVar m) (tC (.int 0))) G (isD (SqD b x)) := by
  cases b with
  | true => exact sv_pA (show AtomP (.str (sg x)) from sg_ok x) (sv_ixP (ds := [SqD true x, SqD true y]) (i := ((0 : Nat) : Int)) (sv_var h) sv_int (atI_nat rfl))
  | false => exact sv_ixT (ds := [SqD false x, SqD false y]) (i := ((0 : Nat) : Int)) (sv_var h) sv_int (atI_nat rfl)
theorem sv_st1 {m : Nat} {x y : List Int} (h : G[m]? = some (.im (stT K b x y))) : Sv (tOp (rIx K) (tVar m) (tC (.int 1))) G (isD (SqD b y)) := by
  cases b with
  | true => exact sv_pA (show AtomP (.str (sg y)) from sg_ok y) (sv_ixP (ds := [SqD true x, SqD true y]) (i := ((1 : Nat) : Int)) (sv_var h) sv_int (atI_nat rfl))
  | false => exact sv_ixT (ds := [SqD false x, SqD false y]) (i := ((1 : Nat) : Int)) (sv_var h) sv_int (atI_nat rfl)
end
end Mini

namespace Mini
open PySem L2 Evl PyProof.Rows
/-- a call without arguments -/
theorem pe_fn0 {X : Cx} {k : Nat} {x : Str} {sp : Sp} {E : L2.St → XK} {p pos : Pos} (c : FnC X.prog X.w X.K X.mg X.base k x sp) {j : Nat} (hr : Room j X.A) (hx : ∀ σ, PassesAt (L2.CX X.prog X.w) X σ (E σ)) (hk : k ≤ j := by decide) (hg : Gl X x := by rfl)
    (hdb : (x == ("__debug__" : Str)) = false := by decide) : PE X (.Call (.Name x p) [] [] pos) (tCallS sp E tNil) := by
  obtain ⟨f, fd, ps, F, hm, kp, hb⟩ := c.ex
  refine ⟨fun pins s σ H Q I h => ?_⟩
  refine wpAny_Call_Name_kw (ld_glob I hg hm ?_ hdb)
  exact PySem.W.callWith_K0 I.kIn kp (run_fnS (us := []) F (hr.mono hk) hb (hx σ) I .nil h)
end Mini

namespace K60
open PySem L2 Evl Mini PyProof.Rows
def top (i : Nat) : Stmt := PySem.Challenge.pw_alikeread_k60_steps_and_rests.main.body.getD i (.Pass ⟨0, 0, 0, 0⟩)
abbrev veT : List Value := [.type "ValueError", .type "Exception", .type "BaseException", .type "object"]
structure Txt (K : PySem.W.Frag) (mg : Str → Option Value) (cAE cBB cBT cBN cBR cTL cBk cPr aE0 aEV aSI aBG : Addr) : Prop where
  no_isinstance : mg "isinstance" = none
  no_int : mg "int" = none
  no_bool : mg "bool" = none
  no_tuple : mg "tuple" = none
  no_list : mg "list" = none
  no_all : mg "all" = none
  no_len : mg "len" = none
  no_abs : mg "abs" = none
  no_range : mg "range" = none
  no_min : mg "min" = none
  no_set : mg "set" = none
  no_str : mg "str" = none
  no_enumerate : mg "enumerate" = none
  no_sorted : mg "sorted" = none
  no_sum : mg "sum" = none
  c_MOST_LETTERS : GC mg "MOST_LETTERS" (.int 60)
  c_MOST_WORDS : GC mg "MOST_WORDS" (.int 60)
  c_LONGEST_WORD : GC mg "LONGEST_WORD" (.int 5000)
  c_SIGNS : GC mg "SIGNS" (.str "0123456789ABCDEFGHIJKLMNOPQRSTUVWXYZabcdefghijklmnopqrstuvwx")
  e_AlikeError : ErrC K mg "AlikeError" cAE veT
  e_BadBook : ErrC K mg "BadBook" cBB veT
  e_BadRest : ErrC K mg "BadRest" cBT veT
  e_BadNumber : ErrC K mg "BadNumber" cBN veT
  e_BadRow : ErrC K mg "BadRow" cBR veT
  e_TooLong : ErrC K mg "TooLong" cTL veT
  kt_aE0 : KTD K aE0 []
  c_EVEN : GC mg "EVEN" (.ref aEV)
  kt_aEV : KTD K aEV [.str "even", .ref aE0]
  c_SIDES : GC mg "SIDES" (.ref aSI)
  kt_aSI : KTD K aSI [.str "first", .str "second"]
  c_BEGIN : GC mg "BEGIN" (.ref aBG)
  kt_aBG : KTD K aBG [.str "", .str ""]
  cl_cBk : Cls K cBk
  n_cBk_letters : NoAttr K cBk "letters"
  n_cBk_size : NoAttr K cBk "size"
  n_cBk__words : NoAttr K cBk "_words"
  cl_cPr : Cls K cPr
  n_cPr_first : NoAttr K cPr "first"
  n_cPr_second : NoAttr K cPr "second"
  n_cPr_letters : NoAttr K cPr "letters"
  x_cBB : ExcC K cBB
  m_cBB : PySem.W.exmOne K (.ref cBB) (.ref cAE) = some true
  x_cBT : ExcC K cBT
  m_cBT : PySem.W.exmOne K (.ref cBT) (.ref cAE) = some true
  x_cBN : ExcC K cBN
  m_cBN : PySem.W.exmOne K (.ref cBN) (.ref cAE) = some true
  x_cBR : ExcC K cBR
  m_cBR : PySem.W.exmOne K (.ref cBR) (.ref cAE) = some true
  x_cTL : ExcC K cTL
  m_cTL : PySem.W.exmOne K (.ref cTL) (.ref cAE) = some true
  k_cBB_cBB : PySem.W.kitOne K (.ref cBB) (.ref cBB) = some true
  k_cBB_cBT : PySem.W.kitOne K (.ref cBB) (.ref cBT) = some false
  k_cBB_cBN : PySem.W.kitOne K (.ref cBB) (.ref cBN) = some false
  k_cBB_cBR : PySem.W.kitOne K (.ref cBB) (.ref cBR) = some false
  k_cBB_cTL : PySem.W.kitOne K (.ref cBB) (.ref cTL) = some false
  k_cBT_cBB : PySem.W.kitOne K (.ref cBT) (.ref cBB) = some false
  k_cBT_cBT : PySem.W.kitOne K (.ref cBT) (.ref cBT) = some true
  k_cBT_cBN : PySem.W.kitOne K (.ref cBT) (.ref cBN) = some false
  k_cBT_cBR : PySem.W.kitOne K (.ref cBT) (.ref cBR) = some false
  k_cBT_cTL : PySem.W.kitOne K (.ref cBT) (.ref cTL) = some false
  k_cBN_cBB : PySem.W.kitOne K (.ref cBN) (.ref cBB) = some false
  k_cBN_cBT : PySem.W.kitOne K (.ref cBN) (.ref cBT) = some false
  k_cBN_cBN : PySem.W.kitOne K (.ref cBN) (.ref cBN) = some true
  k_cBN_cBR : PySem.W.kitOne K (.ref cBN) (.ref cBR) = some false
  k_cBN_cTL : PySem.W.kitOne K (.ref cBN) (.ref cTL) = some false
  k_cBR_cBB : PySem.W.kitOne K (.ref cBR) (.ref cBB) = some false
  k_cBR_cBT : PySem.W.kitOne K (.ref cBR) (.ref cBT) = some false
  k_cBR_cBN : PySem.W.kitOne K (.ref cBR) (.ref cBN) = some false
  k_cBR_cBR : PySem.W.kitOne K (.ref cBR) (.ref cBR) = some true
  k_cBR_cTL : PySem.W.kitOne K (.ref cBR) (.ref cTL) = some false
  k_cTL_cBB : PySem.W.kitOne K (.ref cTL) (.ref cBB) = some false
  k_cTL_cBT : PySem.W.kitOne K (.ref cTL) (.ref cBT) = some false
  k_cTL_cBN : PySem.W.kitOne K (.ref cTL) (.ref cBN) = some false
  k_cTL_cBR : PySem.W.kitOne K (.ref cTL) (.ref cBR) = some false
  k_cTL_cTL : PySem.W.kitOne K (.ref cTL) (.ref cTL) = some true
section
variable {P : Program} {w : World} {K : PySem.W.Frag} {mg : Str → Option Value} {base : Heap} {cAE cBB cBT cBN cBR cTL cBk cPr aE0 aEV aSI aBG : Addr}
/-! ### _law_draws -/
def S_law_draws (K : PySem.W.Frag) : Fs := ⟨{x : List Int × Int // x.1.length ≤ 63 ∧ 0 ≤ x.2 ∧ x.2 ≤ 1000}, 2, fun x => [.im (isS K x.1.1), .im (isD (.int x.1.2))], fun _ => rfl, fun x => .ol ((drawsF x.1.1 x.1.2).map .int)⟩
abbrev st__law_draws : Stmt := top 43
theorem sc__law_draws : FnScope ["script", "many", "draws", "seed", "cell", "number", "k"] ["script", "many"] (defScope st__law_draws) := ⟨rfl, rfl, rfl, by decide +kernel, rfl, by decide +kernel, by decide +kernel⟩
theorem ok__law_draws {f : Addr} {fd : FuncData} (T : Txt K mg cAE cBB cBT cBN cBR cTL cBk cPr aE0 aEV aSI aBG)  (F : Fun K "_law_draws" "_law_draws" st__law_draws f fd) : FnOk P w K mg base (L2.CX P w) 1 f fd ["script", "many"] (spF (S_law_draws K)) := by
  refine fn_ok F sc__law_draws rfl fun cdv A outer s H E hr => ?_
  have tk : Takes (cxD P w K mg base ["script", "many", "draws", "seed", "cell", "number", "k"] "_law_draws" st__law_draws f cdv A outer s H E) (fun cls d _ H => E cls d H) := takes_of rfl rfl rfl rfl
  have hx := pxM tk
  have nd := sc__law_draws.nd
  refine ⟨_, (pss_cons (ps_set (i := 2) nd rfl (Or.inl rfl) (pe_lst pa_nil))
 (pss_cons (ps_set (i := 3) nd rfl (Or.inl rfl) pe_int)
 (pss_cons (ps_for (passes_of rfl) rfl (pi_list (pe_slice sl_uSl (pv 0) po_none (po_some pe_int))) (pg_name (i := 4) nd rfl (Or.inl rfl)) (pss_cons (ps_set (i := 5) nd rfl (Or.inl rfl) (pe_callB call_abs (by rfl) T.no_abs (by decide +kernel) (pa_cons (pv 4) pa_nil)))
 (pss_cons (ps_set (i := 3) nd rfl (Or.inl rfl) (pe_op op_mod (pe_callTy call_int1 (by rfl) T.no_int (by decide +kernel) (pa_cons (pe_op op_uAdd (pe_op op_uAdd (pe_op op_uMul (pv 3) pe_int) (pv 5)) pe_int) pa_nil)) pe_int))
 (pss_one (ps_if (pt_cmpR op_ge (pv 5) (pe_op op_pow pe_int pe_int) (nomark _)) (pss_one (ps_for (passes_of rfl) rfl (pi_range1 (by rfl) T.no_range (pa_cons pe_int pa_nil)) (pg_name (i := 6) nd rfl (Or.inl rfl)) (pss_one (ps_if (pt_cmpR op_gt (pv 5) pe_int (nomark _)) (pss_cons (ps_expr (pe_bm PySem.F.plainAttrs_list PySem.F.slot_list_append PySem.F.type_list_append mt_append (pv 2) (pa_cons (pe_op op_mod (pe_callTy call_int1 (by rfl) T.no_int (by decide +kernel) (pa_cons (pv 5) pa_nil)) pe_int) pa_nil)))
 (pss_one (ps_set (i := 5) nd rfl (Or.inl rfl) (pe_op op_fdiv (pv 5) pe_int)))) pss_nil)))) (pss_one (ps_expr (pe_bm PySem.F.plainAttrs_list PySem.F.slot_list_append PySem.F.type_list_append mt_append (pv 2) (pa_cons (pe_op op_mod (pe_op op_fdiv (pe_callTy call_int1 (by rfl) T.no_int (by decide +kernel) (pa_cons (pe_op op_uAdd (pe_op op_uMul (pv 3) pe_int) pe_int) pa_nil)) pe_int) pe_int) pa_nil)))))))))
 (pss_cons (ps_for (passes_of rfl) rfl (pi_range1 (by rfl) T.no_range (pa_cons (pv 1) pa_nil)) (pg_name (i := 6) nd rfl (Or.inl rfl)) (pss_one (ps_if (pt_cmpR op_lt (pe_callB call_len (by rfl) T.no_len (by decide +kernel) (pa_cons (pv 2) pa_nil)) (pv 1) (nomark _)) (pss_cons (ps_set (i := 3) nd rfl (Or.inl rfl) (pe_op op_mod (pe_callTy call_int1 (by rfl) T.no_int (by decide +kernel) (pa_cons (pe_op op_uAdd (pe_op op_uAdd (pe_op op_uMul (pv 3) pe_int) (pv 6)) pe_int) pa_nil)) pe_int))
 (pss_one (ps_expr (pe_bm PySem.F.plainAttrs_list PySem.F.slot_list_append PySem.F.type_list_append mt_append (pv 2) (pa_cons (pe_op op_mod (pe_op op_fdiv (pe_callTy call_int1 (by rfl) T.no_int (by decide +kernel) (pa_cons (pv 3) pa_nil)) pe_int) pe_int) pa_nil))))) pss_nil)))
 (pss_one (ps_ret (pe_slice sl_uSl (pv 2) po_none (po_some (pv 1))))))))), ?_⟩
  intro x
  obtain ⟨⟨ns0, many⟩, hl0, hm0, hm1⟩ := x
  have hm0 : 0 ≤ many := hm0
  have hm1 : many ≤ 1000 := hm1
  have hl0 : ns0.length ≤ 63 := hl0
  generalize hns : cutD ns0 none (some 63) = ns
  have hl : ns.length ≤ 63 := by rw [← hns, cut_take _ (by decide), List.length_take]; omega
  have hz : (sizeLine : Nat) = 16777216 := sizeLine_eq
  refine .ol ?_
  refine ss_seq (ss_setL (svl_lst (ds := []) sa_nil (Nat.zero_le _))) ?_
  refine ss_seq (ss_set sv_int) ?_
  -- the cells
  let Gc : Nat → Gm := fun i => [.im (isS K ns0), .im (isD (.int many)), .ow (isL ((cellsS ns i).1.map .int)), .im (isD (.int (cellsS ns i).2)), .no, .no, .no]
  refine ss_seq (G1 := Gc ns.length) ?_ ?_
  · have hd : Sv (tSl (uSl K) (tVar 0) tNoPart (tPart (tC (.int 63)))) (List.set (List.set (startG 7 [.im (isS K ns0), .im (isD (.int many))]) 2 (.ow (isL []))) 3 (.im (isD (.int 7)))) (isD (.list (ns.map .int))) := by
      rw [← hns]
      exact sv_svl (svl_sliceS (sv_var rfl) so_none (so_some sv_int))
    refine ss_forL hd Gc (ns.map PyData.int).length (Nat.le_refl _) (Le.refl _) (fun i _ => Nat.le_of_ble_eq_true rfl) (fun i d hd hi => ?_) (.inl ⟨rfl, by rw [List.length_map]⟩)
    obtain ⟨c, hc, rfl⟩ : ∃ c, ns[i]? = some c ∧ d = .int c := by
      rw [List.getElem?_map] at hd
      cases h : ns[i]? with
      | none => rw [h] at hd; cases hd
      | some c => rw [h] at hd; exact ⟨c, rfl, (Option.some.inj hd).symm⟩
    have hi' : i < ns.length := by rw [List.length_map] at hi; exact hi
    have hlen := cellsS_len (ns := ns) i (by omega)
    refine .inl (ss_nxLe (G1 := ([.im (isS K ns0), .im (isD (.int many)), .ow (isL ((cellsS ns (i + 1)).1.map .int)), .im (isD (.int (cellsS ns (i + 1)).2)), .no, .no, .no] : Gm)) ?_ (Le.refl _))
    rw [cellsS_succ hc]
    generalize hsd : cellsS ns i = s0 at hlen
    have hG : Gc i = [.im (isS K ns0), .im (isD (.int many)), .ow (isL (s0.1.map .int)), .im (isD (.int s0.2)), .no, .no, .no] := by show [_, _, _, _, _, _, _] = _; rw [hsd]
    rw [hG]
    refine ss_seq (ss_set (sv_abs (sv_var rfl))) ?_
    refine ss_seq (ss_set (sv_mod (sv_int1 (sv_add (sv_add (sv_mul (sv_var rfl) sv_int (.inr ⟨by decide, by decide⟩)) (sv_var rfl)) sv_int)) sv_int (by decide))) ?_
    have ht : ∀ {G : Gm}, G[5]? = some (.im (isD (.int (absI c)))) → St' (tTest (tOp (rI0 fun i j => .bl (decide (j ≤ i))) (tVar 5) (tOp (rI CPow fun i j => .int (i ^ j.toNat)) (tC (.int 10)) (tC (.int 18))))) G (decide (10 ^ 18 ≤ absI c)) := fun h =>
      st_test (sv_cmp (g := fun i j => decide (j ≤ i)) (sv_var h) (sv_pow sv_int sv_int ⟨by decide, by decide, by decide⟩))
    by_cases hb : 10 ^ 18 ≤ absI c
    · refine ss_if1 (st_is (ht rfl) (decide_eq_true hb)) ?_
      have e : cellS s0 c = ((itN digS 60 (s0.1, absI c)).1, seedS s0.2 c) := if_pos hb
      rw [e]
      let Gd : Nat → Gm := fun k => [.im (isS K ns0), .im (isD (.int many)), .ow (isL ((itN digS k (s0.1, absI c)).1.map .int)), .im (isD (.int (seedS s0.2 c))), .no, .im (isD (.int (itN digS k (s0.1, absI c)).2)), .no]
      refine ss_nxLe (ss_forR (o := .nx (Gd 60)) sv_int (by decide) Gd 60 (Nat.le_refl _) (Le.eq (Le.eq (Le.eq (Le.eq (Le.no (Le.eq (Le.eq Le.nil))))))) (fun _ _ => Nat.le_of_ble_eq_true rfl) (fun k hk => ?_) (.inl ⟨rfl, rfl⟩)) (Le.eq (Le.eq (Le.eq (Le.eq (Le.eq (Le.no (Le.eq Le.nil)))))))
      show Turn _ _ _ [.im (isS K ns0), .im (isD (.int many)), .ow (isL ((digS (itN digS k (s0.1, absI c))).1.map .int)), .im (isD (.int (seedS s0.2 c))), .no, .im (isD (.int (digS (itN digS k (s0.1, absI c))).2)), .no]
      have hlen2 : (itN digS k (s0.1, absI c)).1.length ≤ s0.1.length + k := itN_len (n := k) (s := (s0.1, absI c))
      have hG2 : Gd k = [.im (isS K ns0), .im (isD (.int many)), .ow (isL ((itN digS k (s0.1, absI c)).1.map .int)), .im (isD (.int (seedS s0.2 c))), .no, .im (isD (.int (itN digS k (s0.1, absI c)).2)), .no] := rfl
      rw [hG2]
      generalize itN digS k (s0.1, absI c) = s1 at hlen2 ⊢
      have t2 : ∀ {G : Gm}, G[5]? = some (.im (isD (.int s1.2))) → St' (tTest (tOp (rI0 fun i j => .bl (decide (j < i))) (tVar 5) (tC (.int 0)))) G (decide (0 < s1.2)) := fun h => st_test (sv_cmp (g := fun i j => decide (j < i)) (sv_var h) sv_int)
      by_cases hp : 0 < s1.2
      · have e2 : digS s1 = (s1.1 ++ [s1.2 % 1009], s1.2 / 1009) := if_pos hp
        rw [e2]
        refine .inl (ss_nxLe (ss_if1 (st_is (t2 rfl) (decide_eq_true hp)) (ss_seq (ss_append (d := .int (s1.2 % 1009)) rfl (sv_mod (sv_int1 (sv_var rfl)) sv_int (by decide)) (by rw [List.length_map]; omega)) (ss_set (sv_div (sv_var rfl) sv_int ⟨by decide, by decide⟩)))) ?_)
        have e3 : (s1.1 ++ [s1.2 % 1009]).map PyData.int = s1.1.map PyData.int ++ [PyData.int (s1.2 % 1009)] := by simp
        show Le _ [.im (isS K ns0), .im (isD (.int many)), .ow (isL ((s1.1 ++ [s1.2 % 1009]).map .int)), .im (isD (.int (seedS s0.2 c))), .no, .im (isD (.int (s1.2 / 1009))), .no]
        rw [e3]
        exact Le.eq (Le.eq (Le.eq (Le.eq (Le.eq (Le.eq (Le.no Le.nil))))))
      · have e2 : digS s1 = s1 := if_neg hp
        rw [e2]
        exact .inl (ss_nxLe (ss_if0 (st_is (t2 rfl) (decide_eq_false hp)) ss_next) (Le.eq (Le.eq (Le.eq (Le.eq (Le.eq (Le.eq (Le.no Le.nil))))))))
    · refine ss_if0 (st_is (ht rfl) (decide_eq_false hb)) ?_
      have e : cellS s0 c = (s0.1 ++ [(seedS s0.2 c * 16807 + 5) / 3 % 65521], seedS s0.2 c) := if_neg hb
      rw [e]
      have e3 : (s0.1 ++ [(seedS s0.2 c * 16807 + 5) / 3 % 65521]).map PyData.int = s0.1.map PyData.int ++ [PyData.int ((seedS s0.2 c * 16807 + 5) / 3 % 65521)] := by simp
      show Ss _ _ _ (.nx [.im (isS K ns0), .im (isD (.int many)), .ow (isL ((s0.1 ++ [(seedS s0.2 c * 16807 + 5) / 3 % 65521]).map .int)), .im (isD (.int (seedS s0.2 c))), .no, .no, .no])
      rw [e3]
      refine ss_nxLe (ss_append (d := .int ((seedS s0.2 c * 16807 + 5) / 3 % 65521)) rfl (sv_mod (sv_div (sv_int1 (sv_add (sv_mul (sv_var rfl) sv_int (.inr ⟨by decide, by decide⟩)) sv_int)) sv_int ⟨by decide, by decide⟩) sv_int (by decide)) (by rw [List.length_map]; omega)) ?_
      exact Le.eq (Le.eq (Le.eq (Le.eq (Le.no (Le.no (Le.eq Le.nil))))))
  -- the rest
  let Gf : Nat → Gm := fun k => [.im (isS K ns0), .im (isD (.int many)), .ow (isL ((fillsS ns many k).1.map .int)), .im (isD (.int (fillsS ns many k).2)), .no, .no, .no]
  refine ss_seq (G1 := Gf many.toNat) ?_ ?_
  · refine ss_forR (sv_var rfl) (by omega) Gf many.toNat (Nat.le_refl _) (Le.refl _) (fun _ _ => Nat.le_of_ble_eq_true rfl) (fun k hk => ?_) (.inl ⟨rfl, rfl⟩)
    have hlen := fillsS_len ns many k
    show Turn _ _ _ [.im (isS K ns0), .im (isD (.int many)), .ow (isL ((fillsS ns many (k + 1)).1.map .int)), .im (isD (.int (fillsS ns many (k + 1)).2)), .no, .no, .no]
    rw [fillsS_succ]
    have hG : Gf k = [.im (isS K ns0), .im (isD (.int many)), .ow (isL ((fillsS ns many k).1.map .int)), .im (isD (.int (fillsS ns many k).2)), .no, .no, .no] := rfl
    rw [hG]
    generalize fillsS ns many k = s1 at hlen ⊢
    have t2 : ∀ {G : Gm}, G[2]? = some (.ow (isL (s1.1.map .int))) → G[1]? = some (.im (isD (.int many))) → St' (tTest (tOp (rI0 fun i j => .bl (decide (i < j))) (tCB (fun xs H Q => ∃ x n, xs = [x] ∧ LenV K x H n ∧ Q (.int n) H) (tCons (tVar 2) tNil)) (tVar 1))) G (decide ((s1.1.length : Int) < many)) := fun h h' =>
      st_is (st_test (sv_cmp (g := fun i j => decide (i < j)) (sv_lenL (rl_ow h)) (sv_var h'))) (by rw [List.length_map])
    by_cases hp : (s1.1.length : Int) < many
    · have e2 : fillS many s1 k = (s1.1 ++ [(s1.2 * 69621 + (k : Int) + 1) % 2147483647 / 7 % 65521], (s1.2 * 69621 + (k : Int) + 1) % 2147483647) := if_pos hp
      rw [e2]
      refine .inl (ss_nxLe (ss_if1 (st_is (t2 rfl rfl) (decide_eq_true hp)) (ss_seq (ss_set (sv_mod (sv_int1 (sv_add (sv_add (sv_mul (sv_var rfl) sv_int (.inr ⟨by decide, by decide⟩)) (sv_var rfl)) sv_int)) sv_int (by decide))) (ss_append (d := .int ((s1.2 * 69621 + (k : Int) + 1) % 2147483647 / 7 % 65521)) rfl (sv_mod (sv_div (sv_int1 (sv_var rfl)) sv_int ⟨by decide, by decide⟩) sv_int (by decide)) (by rw [List.length_map]; omega)))) ?_)
      have e3 : (s1.1 ++ [(s1.2 * 69621 + (k : Int) + 1) % 2147483647 / 7 % 65521]).map PyData.int = s1.1.map PyData.int ++ [PyData.int ((s1.2 * 69621 + (k : Int) + 1) % 2147483647 / 7 % 65521)] := by simp
      show Le _ [.im (isS K ns0), .im (isD (.int many)), .ow (isL ((s1.1 ++ [(s1.2 * 69621 + (k : Int) + 1) % 2147483647 / 7 % 65521]).map .int)), .im (isD (.int ((s1.2 * 69621 + (k : Int) + 1) % 2147483647))), .no, .no, .no]
      rw [e3]
      exact Le.eq (Le.eq (Le.eq (Le.eq (Le.eq (Le.eq (Le.no Le.nil))))))
    · have e2 : fillS many s1 k = s1 := if_neg hp
      rw [e2]
      exact .inl (ss_nxLe (ss_if0 (st_is (t2 rfl rfl) (decide_eq_false hp)) ss_next) (Le.eq (Le.eq (Le.eq (Le.eq (Le.eq (Le.eq (Le.no Le.nil))))))))
  · refine ss_retL (svl_is (svl_slice (rl_ow rfl) so_none (so_some (sv_var rfl))) ?_)
    show cutD _ none (some many) = (drawsF ns0 many).map PyData.int
    unfold drawsF
    rw [hns, cut_take _ hm0, cut_take _ hm0, List.map_take]

/-! ### is_count, is_below, are_below -/
def countB (d : PyData) : Bool := match d with
  | .int i => decide (0 ≤ i)
  | _ => false
def S_is_count : Fs := ⟨PyData, 1, fun x => [.im (isD x)], fun _ => rfl, fun x => .ok (isD (.bool (countB x)))⟩
abbrev st_is_count : Stmt := top 9
theorem sc_is_count : FnScope ["value"] ["value"] (defScope st_is_count) := ⟨rfl, rfl, rfl, by decide +kernel, rfl, by decide +kernel, by decide +kernel⟩
theorem ok_is_count {f : Addr} {fd : FuncData} (T : Txt K mg cAE cBB cBT cBN cBR cTL cBk cPr aE0 aEV aSI aBG)  (F : Fun K "is_count" "is_count" st_is_count f fd) : FnOk P w K mg base (L2.CX P w) 1 f fd ["value"] (spF (S_is_count)) := by
  refine fn_ok F sc_is_count rfl fun cdv A outer s H E hr => ?_
  have tk : Takes (cxD P w K mg base ["value"] "is_count" st_is_count f cdv A outer s H E) (fun cls d _ H => E cls d H) := takes_of rfl rfl rfl rfl
  have hx := pxM tk
  have nd := sc_is_count.nd
  refine ⟨_, (pss_one (ps_ret (pe_and (pe_callB call_isi (by rfl) T.no_isinstance (by decide +kernel) (pa_cons (pv 0) (pa_cons (pe_bltn (by rfl) T.no_int (by decide +kernel) (v := .ty "int") rfl) pa_nil))) (pe_and (pe_not (pe_callB call_isi (by rfl) T.no_isinstance (by decide +kernel) (pa_cons (pv 0) (pa_cons (pe_bltn (by rfl) T.no_bool (by decide +kernel) (v := .ty "bool") rfl) pa_nil)))) (pe_one (pe_cmpR op_ge (pv 0) pe_int (nomark _))))))), ?_⟩
  intro x
  refine .ok (ss_ret ?_)
  refine sv_is (sv_and (c := dInt x && (!dBool x && countB x)) (sv_isInt (sv_var rfl)) fun h1 => sv_is (sv_and (sv_not (sv_isBool (sv_var rfl))) fun h2 => ?_) (by rw [h1]; rfl)) (by cases x <;> simp [dInt, dBool, countB])
  cases x with
  | int i => exact sv_cmp (g := fun i j => decide (j ≤ i)) (sv_var rfl) sv_int
  | _ => first | (simp [dInt] at h1; done) | (simp [dBool] at h2; done)
def S_is_below : Fs := ⟨PyData × Int, 2, fun x => [.im (isD x.1), .im (isD (.int x.2))], fun _ => rfl, fun x => .ok (isD (.bool (belowB x.1 x.2)))⟩
abbrev st_is_below : Stmt := top 10
theorem sc_is_below : FnScope ["value", "end"] ["value", "end"] (defScope st_is_below) := ⟨rfl, rfl, rfl, by decide +kernel, rfl, by decide +kernel, by decide +kernel⟩
theorem ok_is_below {f : Addr} {fd : FuncData} (T : Txt K mg cAE cBB cBT cBN cBR cTL cBk cPr aE0 aEV aSI aBG) (F_is_count : FnC P w K mg base 1 "is_count" (spF (S_is_count))) (F : Fun K "is_below" "is_below" st_is_below f fd) : FnOk P w K mg base (L2.CX P w) 2 f fd ["value", "end"] (spF (S_is_below)) := by
  refine fn_ok F sc_is_below rfl fun cdv A outer s H E hr => ?_
  have tk : Takes (cxD P w K mg base ["value", "end"] "is_below" st_is_below f cdv A outer s H E) (fun cls d _ H => E cls d H) := takes_of rfl rfl rfl rfl
  have hx := pxM tk
  have nd := sc_is_below.nd
  refine ⟨_, (pss_one (ps_ret (pe_and (pe_fn F_is_count hr hx (pa_cons (pv 0) pa_nil)) (pe_one (pe_cmpR op_lt (pv 0) (pv 1) (nomark _)))))), ?_⟩
  intro x
  obtain ⟨d, n⟩ := x
  refine .ok (ss_ret ?_)
  refine sv_is (sv_and (c := belowB d n) (sv_call (S := S_is_count) (sa_im (sv_var rfl) sa_nil) d rfl rfl) fun h1 => ?_) (by cases d <;> simp [countB, belowB])
  cases d with
  | int i => exact sv_is (sv_cmp (g := fun i j => decide (i < j)) (sv_var rfl) (sv_var rfl)) (by simp [countB] at h1; simp [belowB, h1])
  | _ => simp [countB] at h1
def S_are_below : Fs := ⟨{x : PyData × Int // Fit x.1}, 2, fun x => [.im (isD x.1.1), .im (isD (.int x.1.2))], fun _ => rfl, fun x => .ok (isD (.bool (tupB (fun e => belowB e x.1.2) x.1.1)))⟩
abbrev st_are_below : Stmt := top 11
theorem sc_are_below : FnScope ["value", "end", "item"] ["value", "end"] (defScope st_are_below) := ⟨rfl, rfl, rfl, by decide +kernel, rfl, by decide +kernel, by decide +kernel⟩
theorem ok_are_below {f : Addr} {fd : FuncData} (T : Txt K mg cAE cBB cBT cBN cBR cTL cBk cPr aE0 aEV aSI aBG)  (F : Fun K "are_below" "are_below" st_are_below f fd) : FnOk P w K mg base (L2.CX P w) 1 f fd ["value", "end"] (spF (S_are_below)) := by
  refine fn_ok F sc_are_below rfl fun cdv A outer s H E hr => ?_
  have tk : Takes (cxD P w K mg base ["value", "end", "item"] "are_below" st_are_below f cdv A outer s H E) (fun cls d _ H => E cls d H) := takes_of rfl rfl rfl rfl
  have hx := pxM tk
  have nd := sc_are_below.nd
  refine ⟨_, (pss_cons (ps_if (pt_not (pt_val (pe_callB call_isi (by rfl) T.no_isinstance (by decide +kernel) (pa_cons (pv 0) (pa_cons (pe_bltn (by rfl) T.no_tuple (by decide +kernel) (v := .ty "tuple") rfl) pa_nil))))) (pss_one (ps_ret pe_bl)) pss_nil)
 (pss_one (ps_ret (pe_callB (cr_all rfl) (by rfl) T.no_all (by decide +kernel) (pa_cons (pe_lc (own := [("item", 2)]) (g := gName 2) (tt := tYes) rfl nd (pi_tup (pv 0)) (blkOk_by (N := ["value", "end", "item"]) (sc := defScope st_are_below) (by decide +kernel)) (fun _ _ _ _ _ => pg_name (i := 2) nd rfl (Or.inl rfl)) (fun _ _ _ _ _ => pts_nil) (fun _ _ _ _ _ => (pe_and (pe_callB (r := rIsi K) call_isi (by rfl) T.no_isinstance (by decide +kernel) (pa_cons (pv 2) (pa_cons (pe_bltn (by rfl) T.no_int (by decide +kernel) (v := .ty "int") rfl) pa_nil))) (pe_and (pe_cmpR Mini.op_notBl (pv 2) pe_bl (nomark _)) (pe_and (pe_cmpR Mini.op_notBl (pv 2) pe_bl (nomark _)) (pe_one (pe_chain op_le op_lt pe_int (pv 2) (pv 1)))))))) pa_nil))))), ?_⟩
  intro x
  obtain ⟨⟨d, n⟩, hf⟩ := x
  cases d with
  | tuple ds =>
    refine .ok (ss_seq (ss_if0 (st_is (st_not (st_B (sv_isTup (sv_var rfl)))) rfl) ss_next) ?_)
    refine ss_ret (sv_is (sv_all (bs := ds.map fun e => belowB e n) (rl_svl ?_)) (by rw [all_map_id]; rfl))
    refine svl_is (svl_lcMapT (sv_var rfl) (fun e => .bool (belowB e n)) (Nat.le_of_ble_eq_true rfl) hf fun e _ => ?_) (by rw [List.map_map]; rfl)
    refine sv_is (sv_and (c := !blB e true && (!blB e false && belowB e n)) (sv_isInt (sv_var rfl)) fun h1 => sv_and (sv_notBl (sv_var rfl)) fun h2 => sv_and (sv_notBl (sv_var rfl)) fun h3 => ?_) (by cases e with | bool b => cases b <;> rfl | _ => simp [dInt, blB, belowB])
    cases e with
    | int i => exact sv_chain (g := fun i j => decide (i ≤ j)) (g' := fun i j => decide (i < j)) sv_int (sv_var rfl) fun _ => sv_var rfl
    | bool b => cases b <;> simp [blB] at h2 h3
    | _ => simp [dInt] at h1
  | _ => exact .ok (ss_seqRt (ss_if1 (st_is (st_not (st_B (sv_isTup (sv_var rfl)))) rfl) (ss_ret sv_bl)))
/-! ### _is_word -/
def S_is_word : Fs := ⟨{x : PyData × Int // Fit x.1}, 2, fun x => [.im (isD x.1.1), .im (isD (.int x.1.2))], fun _ => rfl, fun x => .ok (isD (.bool (isWordB x.1.1 x.1.2)))⟩
abbrev st__is_word : Stmt := top 17
theorem sc__is_word : FnScope ["value", "letters"] ["value", "letters"] (defScope st__is_word) := ⟨rfl, rfl, rfl, by decide +kernel, rfl, by decide +kernel, by decide +kernel⟩
theorem ok__is_word {f : Addr} {fd : FuncData} (T : Txt K mg cAE cBB cBT cBN cBR cTL cBk cPr aE0 aEV aSI aBG) (F_are_below : FnC P w K mg base 1 "are_below" (spF (S_are_below))) (F : Fun K "_is_word" "_is_word" st__is_word f fd) : FnOk P w K mg base (L2.CX P w) 2 f fd ["value", "letters"] (spF (S_is_word)) := by
  refine fn_ok F sc__is_word rfl fun cdv A outer s H E hr => ?_
  have tk : Takes (cxD P w K mg base ["value", "letters"] "_is_word" st__is_word f cdv A outer s H E) (fun cls d _ H => E cls d H) := takes_of rfl rfl rfl rfl
  have hx := pxM tk
  have nd := sc__is_word.nd
  refine ⟨_, (pss_one (ps_ret (pe_and (pe_fn F_are_below hr hx (pa_cons (pv 0) (pa_cons (pv 1) pa_nil))) (pe_one (pe_chain op_le op_le pe_int (pe_callB call_len (by rfl) T.no_len (by decide +kernel) (pa_cons (pv 0) pa_nil)) (pe_gc T.c_LONGEST_WORD)))))), ?_⟩
  intro x
  obtain ⟨⟨d, n⟩, hf⟩ := x
  refine .ok (ss_ret ?_)
  refine sv_and (sv_call (S := S_are_below) (sa_im (sv_var rfl) (sa_im (sv_var rfl) sa_nil)) ⟨(d, n), hf⟩ rfl rfl) fun h1 => ?_
  cases d with
  | tuple ds => exact sv_chain (g := fun i j => decide (i ≤ j)) (g' := fun i j => decide (i ≤ j)) sv_int (sv_lenT (sv_var rfl)) fun _ => sv_int
  | _ => simp [tupB] at h1

/-! ### _are_words -/
def S_are_words : Fs := ⟨{x : (PyData ⊕ List PyData) × Int // Fits (datOf x.1)}, 2, fun x => [argOf x.1.1, .im (isD (.int x.1.2))], fun _ => rfl, fun x => .ok (isD (.bool (areWordsB (datOf x.1.1) x.1.2)))⟩
abbrev st__are_words : Stmt := top 18
theorem sc__are_words : FnScope ["value", "letters", "word"] ["value", "letters"] (defScope st__are_words) := ⟨rfl, rfl, rfl, by decide +kernel, rfl, by decide +kernel, by decide +kernel⟩
theorem ok__are_words {f : Addr} {fd : FuncData} (T : Txt K mg cAE cBB cBT cBN cBR cTL cBk cPr aE0 aEV aSI aBG) (F__is_word : FnC P w K mg base 2 "_is_word" (spF (S_is_word))) (F : Fun K "_are_words" "_are_words" st__are_words f fd) : FnOk P w K mg base (L2.CX P w) 3 f fd ["value", "letters"] (spF (S_are_words)) := by
  refine fn_ok F sc__are_words rfl fun cdv A outer s H E hr => ?_
  have tk : Takes (cxD P w K mg base ["value", "letters", "word"] "_are_words" st__are_words f cdv A outer s H E) (fun cls d _ H => E cls d H) := takes_of rfl rfl rfl rfl
  have hx := pxM tk
  have nd := sc__are_words.nd
  refine ⟨_, (pss_cons (ps_if (PW.pt (pw_or (pt_not (pt_val (pe_callB call_isi (by rfl) T.no_isinstance (by decide +kernel) (pa_cons (pv 0) (pa_cons (pe_bltn (by rfl) T.no_list (by decide +kernel) (v := .ty "list") rfl) pa_nil))))) (pw_or1 (pt_cmpR op_gt (pe_callB call_len (by rfl) T.no_len (by decide +kernel) (pa_cons (pv 0) pa_nil)) (pe_gc T.c_MOST_WORDS) (nomark _))))) (pss_one (ps_ret pe_bl)) pss_nil)
 (pss_one (ps_ret (pe_callB (cr_all rfl) (by rfl) T.no_all (by decide +kernel) (pa_cons (pe_lc (own := [("word", 2)]) (g := gName 2) (tt := tYes) rfl nd (pi_list (pv 0)) (blkOk_by (N := ["value", "letters", "word"]) (sc := defScope st__are_words) (by decide +kernel)) (fun _ _ _ _ _ => pg_name (i := 2) nd rfl (Or.inl rfl)) (fun _ _ _ _ _ => pts_nil) (fun _ _ _ _ _ => (pe_fn F__is_word hr px0 (pa_cons (pv 2) (pa_cons (pv 1) pa_nil))))) pa_nil))))), ?_⟩
  intro x
  obtain ⟨⟨a, n⟩, hf⟩ := x
  have hf : Fits (datOf a) := hf
  show Mini.Ans _ _ (entG (argOf a :: [.im (isD (.int n))]) ++ [.no]) (.ok (isD (.bool (areWordsB (datOf a) n))))
  rw [ent_slOf]
  cases hd : datOf a with
  | list ds =>
    rw [hd] at hf
    have h1 : ∀ x : Sl, Rl (tVar 0) [slOf a, .im (isD (.int n)), x] ds := fun x => rl_slOf hd rfl
    by_cases hl : ds.length ≤ 60
    · refine .ok (ss_seq (G1 := [slOf a, .im (isD (.int n)), .no]) (ss_if0 (st_is (st_or (c := decide (60 < (ds.length : Int))) (st_not (st_B (sv_isLstR (h1 _)))) fun _ => st_test (sv_cmp (g := fun i j => decide (j < i)) (sv_lenL (h1 _)) sv_int)) (by simp; omega)) ss_next) ?_)
      refine ss_ret (sv_is (sv_all (bs := ds.map fun e => isWordB e n) (rl_svl ?_)) (by rw [all_map_id]; simp [areWordsB, hl]))
      refine svl_is (svl_lcMap (h1 _) (fun e => .bool (isWordB e n)) (Nat.le_of_ble_eq_true rfl) hf.1 fun e he => ?_) (by rw [List.map_map]; rfl)
      exact sv_call (S := S_is_word) (sa_im (sv_var rfl) (sa_im (sv_var rfl) sa_nil)) ⟨(e, n), hf.2 e he⟩ rfl rfl
    · exact .ok (ss_seqRt (ss_if1 (st_is (st_or (c := decide (60 < (ds.length : Int))) (st_not (st_B (sv_isLstR (h1 _)))) fun _ => st_test (sv_cmp (g := fun i j => decide (j < i)) (sv_lenL (h1 _)) sv_int)) (by simp; omega)) (ss_ret (sv_is sv_bl (by simp [areWordsB, hl])))))
  | _ =>
    have h1 : Sv (tVar 0) [slOf a, .im (isD (.int n)), .no] (isD (datOf a)) := sv_slOf (fun ds z => by rw [hd] at z; cases z) rfl
    rw [hd] at h1
    exact .ok (ss_seqRt (ss_if1 (st_is (st_or (c := true) (st_not (st_B (sv_isLst h1))) fun z => by simp [dLst] at z) rfl) (ss_ret sv_bl)))

/-! ### Book.__init__ -/
/-- the words handed in, whoever owns them: a book of them, or an error -/
def S_Book (cBB : Addr) : Ini := ⟨{x : PyData × (PyData ⊕ List PyData) // Fits (datOf x.2)}, 2, fun x => [.im (isD x.1.1), argOf x.1.2], fun _ => rfl,
  fun x => match x.1.1, datOf x.1.2 with
    | .int m, .list ds => if belowB (.int m) 61 && areWordsB (.list ds) m then .inl (bookF (.int m) ds) else .inr cBB
    | _, _ => .inr cBB⟩
abbrev st_Book_init : Stmt := inClass (top 19) 0
theorem sc_Book_init : FnScope ["self", "letters", "words"] ["self", "letters", "words"] (defScope st_Book_init) := ⟨rfl, rfl, rfl, by decide +kernel, rfl, by decide +kernel, by decide +kernel⟩
theorem ok_Book_init {f : Addr} {fd : FuncData} (T : Txt K mg cAE cBB cBT cBN cBR cTL cBk cPr aE0 aEV aSI aBG) (F_is_below : FnC P w K mg base 2 "is_below" (spF (S_is_below))) (F__are_words : FnC P w K mg base 3 "_are_words" (spF (S_are_words))) (F : Fun K "__init__" "Book.__init__" st_Book_init f fd) : FnOk P w K mg base (L2.CX P w) 4 f fd ["self", "letters", "words"] (spN cBk (S_Book cBB)) := by
  refine ini_ok F sc_Book_init rfl fun cdv A outer s H E hr => ?_
  have tk : Takes (cxD P w K mg base ["self", "letters", "words"] "Book.__init__" st_Book_init f cdv A outer s H E) (fun cls d _ H => E cls d H) := takes_of rfl rfl rfl rfl
  have hx := pxM tk
  have nd := sc_Book_init.nd
  refine ⟨_, (pss_cons (ps_if (pt_not (pt_val (pe_fn F_is_below hr hx (pa_cons (pv 1) (pa_cons (pe_op op_uAdd (pe_gc T.c_MOST_LETTERS) pe_int) pa_nil))))) (pss_one (ps_rs rfl tk (pmk_err T.e_BadBook))) pss_nil)
 (pss_cons (ps_if (pt_not (pt_val (pe_fn F__are_words hr hx (pa_cons (pv 2) (pa_cons (pv 1) pa_nil))))) (pss_one (ps_rs rfl tk (pmk_err T.e_BadBook))) pss_nil)
 (pss_cons (ps_fld (pv 0) (pv 1) rfl)
 (pss_cons (ps_fld (pv 0) (pe_callB call_len (by rfl) T.no_len (by decide +kernel) (pa_cons (pv 2) pa_nil)) rfl)
 (pss_one (ps_fld (pv 0) (pe_callTy call_list_of (by rfl) T.no_list (by decide +kernel) (pa_cons (pv 2) pa_nil)) rfl)))))), ?_⟩
  intro x
  obtain ⟨⟨d, a⟩, hf⟩ := x
  have hf : Fits (datOf a) := hf
  have eG : ∀ p dx, (Sl.ow (owI cBk p dx (flds [])) :: startG 2 [.im (isD d), argOf a]) = [.ow (owI cBk p dx (flds [])), .im (isD d), slOf a] := fun p dx => by cases a <;> rfl
  have t1 : ∀ {x : Sl}, Sv (tCallS (spF S_is_below) (fun _ => E) (tCons (tVar 1) (tCons (tOp (uAdd K) (tC (.int 60)) (tC (.int 1))) tNil))) [x, .im (isD d), slOf a] (isD (.bool (belowB d 61))) := fun {x} =>
    sv_call (S := S_is_below) (sa_im (sv_var rfl) (sa_im (sv_add sv_int sv_int) sa_nil)) (d, 61) rfl rfl
  by_cases c1 : belowB d 61 = true
  · obtain ⟨m, rfl⟩ : ∃ m, d = .int m := by cases d <;> first | exact ⟨_, rfl⟩ | (simp [belowB] at c1; done)
    have t2 : ∀ {x : Sl}, Sv (tCallS (spF S_are_words) (fun _ => E) (tCons (tVar 2) (tCons (tVar 1) tNil))) [x, .im (isD (.int m)), slOf a] (isD (.bool (areWordsB (datOf a) m))) := fun {x} =>
      sv_call (S := S_are_words) (sa_slOf rfl (sa_im (sv_var rfl) sa_nil)) ⟨(a, m), hf⟩ rfl rfl
    by_cases c2 : areWordsB (datOf a) m = true
    · obtain ⟨ds, hd⟩ : ∃ ds, datOf a = .list ds := by cases h : datOf a <;> first | exact ⟨_, rfl⟩ | (rw [h] at c2; simp [areWordsB] at c2; done)
      have hr : (S_Book cBB).res ⟨(.int m, a), hf⟩ = .inl (bookF (.int m) ds) := by
        show (match (PyData.int m), datOf a with
          | .int m, .list ds => if (belowB (.int m) 61 && areWordsB (.list ds) m) = true then Sum.inl (bookF (.int m) ds) else Sum.inr cBB
          | _, _ => Sum.inr cBB) = _
        rw [hd] at c2 ⊢
        show (if (belowB (.int m) 61 && areWordsB (.list ds) m) = true then _ else _) = _
        rw [c1, c2]; rfl
      rw [hr]
      intro p dx
      apply ini_good
      · show Ss _ _ (Sl.ow (owI cBk p dx (flds [])) :: startG 2 [.im (isD (.int m)), argOf a]) _
        rw [eG]
        refine ss_seq (ss_if0 (st_is (st_not (st_B t1)) (by rw [c1]; rfl)) ss_next) ?_
        refine ss_seq (ss_if0 (st_is (st_not (st_B t2)) (by rw [c2]; rfl)) ss_next) ?_
        refine ss_seq (ss_fld (fs := []) rfl (sv_var rfl) rfl (Nat.le_of_ble_eq_true rfl) T.cl_cBk T.n_cBk_letters) ?_
        refine ss_seq (ss_fld (fs := [("letters", isD (.int m))]) rfl (sv_lenL (rl_slOf hd rfl)) rfl (Nat.le_of_ble_eq_true rfl) T.cl_cBk T.n_cBk_size) ?_
        exact ss_fld (fs := [("letters", isD (.int m)), ("size", isD (.int ds.length))]) rfl (sv_svl (svl_list (rl_slOf hd rfl))) rfl (Nat.le_of_ble_eq_true rfl) T.cl_cBk T.n_cBk__words
      · rfl
    · have hr : (S_Book cBB).res ⟨(.int m, a), hf⟩ = .inr cBB := by
        show (match (PyData.int m), datOf a with
          | .int m, .list ds => if (belowB (.int m) 61 && areWordsB (.list ds) m) = true then Sum.inl (bookF (.int m) ds) else Sum.inr cBB
          | _, _ => Sum.inr cBB) = _
        have c2' := Bool.not_eq_true _ ▸ c2
        cases h : datOf a with
        | list ds =>
          rw [h] at c2'
          show (if (belowB (.int m) 61 && areWordsB (.list ds) m) = true then _ else _) = _
          rw [c2', Bool.and_false]; rfl
        | _ => rfl
      rw [hr]
      intro p dx
      apply ini_bad (F' := flds [])
      · show Ss _ _ (Sl.ow (owI cBk p dx (flds [])) :: startG 2 [.im (isD (.int m)), argOf a]) _
        rw [eG]
        refine ss_seq (ss_if0 (st_is (st_not (st_B t1)) (by rw [c1]; rfl)) ss_next) ?_
        exact ss_seqBad (ss_if1 (st_is (st_not (st_B t2)) (by simp [c2])) ss_rs)
      · rfl
  · have hr : (S_Book cBB).res ⟨(d, a), hf⟩ = .inr cBB := by
      have c1' : belowB d 61 = false := Bool.not_eq_true _ ▸ c1
      show (match d, datOf a with
        | .int m, .list ds => if (belowB (.int m) 61 && areWordsB (.list ds) m) = true then Sum.inl (bookF (.int m) ds) else Sum.inr cBB
        | _, _ => Sum.inr cBB) = _
      cases d with
      | int m => cases h : datOf a with
        | list ds =>
          show (if (belowB (.int m) 61 && areWordsB (.list ds) m) = true then _ else _) = _
          rw [c1', Bool.false_and]; rfl
        | _ => rfl
      | _ => rfl
    rw [hr]
    intro p dx
    apply ini_bad (F' := flds [])
    · show Ss _ _ (Sl.ow (owI cBk p dx (flds [])) :: startG 2 [.im (isD d), argOf a]) _
      rw [eG]
      exact ss_seqBad (ss_if1 (st_is (st_not (st_B t1)) (by simp [c1])) ss_rs)
    · rfl

/-! ### Book.words -/
def S_words (cBk : Addr) : Fs := ⟨PyData × List PyData, 1, fun x => [.im (isI cBk (bookF x.1 x.2))], fun _ => rfl, fun x => .ol x.2⟩
abbrev st_Book_words : Stmt := inClass (top 19) 1
theorem sc_Book_words : FnScope ["self"] ["self"] (defScope st_Book_words) := ⟨rfl, rfl, rfl, by decide +kernel, rfl, by decide +kernel, by decide +kernel⟩
theorem ok_Book_words {f : Addr} {fd : FuncData} (T : Txt K mg cAE cBB cBT cBN cBR cTL cBk cPr aE0 aEV aSI aBG)  (F : Fun K "words" "Book.words" st_Book_words f fd) : FnOk P w K mg base (L2.CX P w) 1 f fd ["self"] (spF (S_words cBk)) := by
  refine fn_ok F sc_Book_words rfl fun cdv A outer s H E hr => ?_
  have tk : Takes (cxD P w K mg base ["self"] "Book.words" st_Book_words f cdv A outer s H E) (fun cls d _ H => E cls d H) := takes_of rfl rfl rfl rfl
  have hx := pxM tk
  have nd := sc_Book_words.nd
  refine ⟨_, (pss_one (ps_ret (pe_callTy call_list_of (by rfl) T.no_list (by decide +kernel) (pa_cons (pe_fld (pv 0) rfl) pa_nil)))), ?_⟩
  intro x
  exact .ol (ss_retL (svl_list (rl_sv (sv_fld (sv_var rfl) rfl T.cl_cBk T.n_cBk__words))))
def goodBook (d e : PyData) : Bool := match d, e with
  | .int m, .list ds => belowB (.int m) 61 && areWordsB (.list ds) m
  | _, _ => false
theorem book_good {x : (S_Book cBB).α} (h : goodBook x.1.1 (datOf x.1.2) = true) : ∃ m ds, x.1.1 = .int m ∧ datOf x.1.2 = .list ds ∧ (S_Book cBB).res x = .inl (bookF (.int m) ds) := by
  obtain ⟨⟨d, a⟩, hf⟩ := x
  dsimp only at h ⊢
  cases d with
  | int m =>
    cases hd : datOf a with
    | list ds =>
      rw [hd] at h
      refine ⟨m, ds, rfl, rfl, ?_⟩
      show (match (PyData.int m), datOf a with
        | .int m, .list ds => if (belowB (.int m) 61 && areWordsB (.list ds) m) = true then Sum.inl (bookF (.int m) ds) else Sum.inr cBB
        | _, _ => Sum.inr cBB) = _
      rw [hd]
      exact if_pos h
    | _ => rw [hd] at h; simp [goodBook] at h
  | _ => simp [goodBook] at h
theorem good_wD {m : Int} {W : List (List Int)} (h0 : 0 ≤ m) (h1 : m < 61) (h : GoodW W m) : goodBook (.int m) (.list (wD W)) = true := by
  show (belowB (.int m) 61 && areWordsB (.list (wD W)) m) = true
  rw [(belowB_int m 61).mpr ⟨h0, h1⟩, (areWords_iff W m).mpr h]; rfl
theorem res_good {cBB : Addr} {m : Int} {ds : List PyData} (x : (S_Book cBB).α) (h1 : x.1.1 = .int m) (h2 : datOf x.1.2 = .list ds) (h : goodBook (.int m) (.list ds) = true) : (S_Book cBB).res x = .inl (bookF (.int m) ds) := by
  obtain ⟨m', ds', e1, e2, e3⟩ := book_good (cBB := cBB) (x := x) (by rw [h1, h2]; exact h)
  rw [h1] at e1
  rw [h2] at e2
  cases e1
  cases e2
  exact e3

/-! ### pairs -/
def pairF (cBk : Addr) (m1 : Int) (d1 : List PyData) (m2 : Int) (d2 : List PyData) : Fl := flds [("first", isI cBk (bookF (.int m1) d1)), ("second", isI cBk (bookF (.int m2) d2)), ("letters", isD (.int m1))]
theorem pairF_no {cBk : Addr} {m1 m2 : Int} {d1 d2 : List PyData} {f : Str} (h : ([("first", isI cBk (bookF (.int m1) d1)), ("second", isI cBk (bookF (.int m2) d2)), ("letters", isD (.int m1))] : List (Str × Ty)).lookup f = none) : ∀ vs B, (pairF cBk m1 d1 m2 d2).r vs B → vs.lookup f = none := fun vs B r => (FldsOk.look r).2 h

def S_Pair (cBk cBB : Addr) : Ini := ⟨(Int × List PyData) × (Int × List PyData), 2, fun x => [.im (isI cBk (bookF (.int x.1.1) x.1.2)), .im (isI cBk (bookF (.int x.2.1) x.2.2))], fun _ => rfl,
  fun x => if x.1.1 = x.2.1 then .inl (pairF cBk x.1.1 x.1.2 x.2.1 x.2.2) else .inr cBB⟩
abbrev st_Pair_init : Stmt := inClass (top 20) 0
theorem sc_Pair_init : FnScope ["self", "first", "second"] ["self", "first", "second"] (defScope st_Pair_init) := ⟨rfl, rfl, rfl, by decide +kernel, rfl, by decide +kernel, by decide +kernel⟩
theorem ok_Pair_init {f : Addr} {fd : FuncData} (T : Txt K mg cAE cBB cBT cBN cBR cTL cBk cPr aE0 aEV aSI aBG)  (F : Fun K "__init__" "Pair.__init__" st_Pair_init f fd) : FnOk P w K mg base (L2.CX P w) 1 f fd ["self", "first", "second"] (spN cPr (S_Pair cBk cBB)) := by
  refine ini_ok F sc_Pair_init rfl fun cdv A outer s H E hr => ?_
  have tk : Takes (cxD P w K mg base ["self", "first", "second"] "Pair.__init__" st_Pair_init f cdv A outer s H E) (fun cls d _ H => E cls d H) := takes_of rfl rfl rfl rfl
  have hx := pxM tk
  have nd := sc_Pair_init.nd
  refine ⟨_, (pss_cons (ps_if (pt_cmpR (op_neD hr.units) (pe_fld (pv 1) rfl) (pe_fld (pv 2) rfl) (nomark _)) (pss_one (ps_rs rfl tk (pmk_err T.e_BadBook))) pss_nil)
 (pss_cons (ps_fld (pv 0) (pv 1) rfl)
 (pss_cons (ps_fld (pv 0) (pv 2) rfl)
 (pss_one (ps_fld (pv 0) (pe_fld (pv 1) rfl) rfl))))), ?_⟩
  intro x
  obtain ⟨⟨m1, d1⟩, ⟨m2, d2⟩⟩ := x
  have t1 : ∀ {y : Sl}, St' (tTest (tOp (rNeD K) (tFld K (tVar 1) "letters") (tFld K (tVar 2) "letters"))) [y, .im (isI cBk (bookF (.int m1) d1)), .im (isI cBk (bookF (.int m2) d2))] (!decide (m1 = m2)) := fun {y} =>
    st_test (sv_neI (sv_fld (sv_var rfl) rfl T.cl_cBk T.n_cBk_letters) (sv_fld (sv_var rfl) rfl T.cl_cBk T.n_cBk_letters))
  by_cases c : m1 = m2
  · have hr : (S_Pair cBk cBB).res ((m1, d1), (m2, d2)) = .inl (pairF cBk m1 d1 m2 d2) := if_pos c
    rw [hr]
    intro p dx
    apply ini_good
    · show Ss _ _ (Sl.ow (owI cPr p dx (flds [])) :: [.im (isI cBk (bookF (.int m1) d1)), .im (isI cBk (bookF (.int m2) d2))]) _
      refine ss_seq (ss_if0 (st_is t1 (by simp [c])) ss_next) ?_
      refine ss_seq (ss_fld (fs := []) rfl (sv_var rfl) rfl (Nat.le_of_ble_eq_true rfl) T.cl_cPr T.n_cPr_first) ?_
      refine ss_seq (ss_fld (fs := [("first", isI cBk (bookF (.int m1) d1))]) rfl (sv_var rfl) rfl (Nat.le_of_ble_eq_true rfl) T.cl_cPr T.n_cPr_second) ?_
      exact ss_fld (fs := [("first", isI cBk (bookF (.int m1) d1)), ("second", isI cBk (bookF (.int m2) d2))]) rfl (sv_fld (sv_var rfl) rfl T.cl_cBk T.n_cBk_letters) rfl (Nat.le_of_ble_eq_true rfl) T.cl_cPr T.n_cPr_letters
    · rfl
  · have hr : (S_Pair cBk cBB).res ((m1, d1), (m2, d2)) = .inr cBB := if_neg c
    rw [hr]
    intro p dx
    apply ini_bad (F' := flds [])
    · show Ss _ _ (Sl.ow (owI cPr p dx (flds [])) :: [.im (isI cBk (bookF (.int m1) d1)), .im (isI cBk (bookF (.int m2) d2))]) _
      exact ss_seqBad (ss_if1 (st_is t1 (by simp [c])) ss_rs)
    · rfl

/-! ### Book.word, Pair.is_even -/
def S_word (cBk cBN : Addr) : Fs := ⟨(PyData × List PyData) × PyData, 2, fun x => [.im (isI cBk (bookF x.1.1 x.1.2)), .im (isD x.2)], fun _ => rfl,
  fun x => if belowB x.2 x.1.2.length then .ok (isD (match x.2 with | .int i => x.1.2.getD i.toNat .none | _ => .none)) else .bad cBN⟩
abbrev st_Book_word : Stmt := inClass (top 19) 2
theorem sc_Book_word : FnScope ["self", "number"] ["self", "number"] (defScope st_Book_word) := ⟨rfl, rfl, rfl, by decide +kernel, rfl, by decide +kernel, by decide +kernel⟩
theorem ok_Book_word {f : Addr} {fd : FuncData} (T : Txt K mg cAE cBB cBT cBN cBR cTL cBk cPr aE0 aEV aSI aBG) (F_is_below : FnC P w K mg base 2 "is_below" (spF (S_is_below))) (F : Fun K "word" "Book.word" st_Book_word f fd) : FnOk P w K mg base (L2.CX P w) 3 f fd ["self", "number"] (spF (S_word cBk cBN)) := by
  refine fn_ok F sc_Book_word rfl fun cdv A outer s H E hr => ?_
  have tk : Takes (cxD P w K mg base ["self", "number"] "Book.word" st_Book_word f cdv A outer s H E) (fun cls d _ H => E cls d H) := takes_of rfl rfl rfl rfl
  have hx := pxM tk
  have nd := sc_Book_word.nd
  refine ⟨_, (pss_cons (ps_if (pt_not (pt_val (pe_fn F_is_below hr hx (pa_cons (pv 1) (pa_cons (pe_fld (pv 0) rfl) pa_nil))))) (pss_one (ps_rs rfl tk (pmk_err T.e_BadNumber))) pss_nil)
 (pss_one (ps_ret (pe_ix ix_seq (pe_fld (pv 0) rfl) (pv 1) (fun _ _ => rfl))))), ?_⟩
  intro x
  obtain ⟨⟨m, ds⟩, d⟩ := x
  have t1 : Sv (tCallS (spF S_is_below) (fun _ => E) (tCons (tVar 1) (tCons (tFld K (tVar 0) "size") tNil))) [.im (isI cBk (bookF m ds)), .im (isD d)] (isD (.bool (belowB d ds.length))) :=
    sv_call (S := S_is_below) (sa_im (sv_var rfl) (sa_im (sv_fld (sv_var rfl) rfl T.cl_cBk T.n_cBk_size) sa_nil)) (d, ds.length) rfl rfl
  by_cases c1 : belowB d ds.length = true
  · obtain ⟨i, rfl⟩ : ∃ i, d = .int i := by cases d <;> first | exact ⟨_, rfl⟩ | (simp [belowB] at c1; done)
    have hi : 0 ≤ i ∧ i < ds.length := by simpa [belowB] using c1
    show Mini.Ans _ _ _ (if belowB (.int i) ds.length = true then .ok (isD (ds.getD i.toNat .none)) else .bad cBN)
    rw [if_pos c1]
    refine .ok (ss_seq (ss_if0 (st_is (st_not (st_B t1)) (by simp [c1])) ss_next) (ss_ret ?_))
    refine sv_ixL (rl_sv (sv_fld (sv_var rfl) rfl T.cl_cBk T.n_cBk__words)) (sv_var rfl) (at_getD hi.1 hi.2)
  · show Mini.Ans _ _ _ (if belowB d ds.length = true then _ else .bad cBN)
    rw [if_neg c1]
    exact .bad (ss_seqBad (ss_if1 (st_is (st_not (st_B t1)) (by simp [c1])) ss_rs))

def S_is_even (cBk cPr : Addr) : Fs := ⟨Int × List PyData × List PyData, 1, fun x => [.im (isI cPr (pairF cBk x.1 x.2.1 x.1 x.2.2))], fun _ => rfl, fun x => .ok (isD (.bool (decide ((x.2.1.length : Int) = (x.2.2.length : Int)))))⟩
abbrev st_Pair_is_even : Stmt := inClass (top 20) 2
theorem sc_Pair_is_even : FnScope ["self"] ["self"] (defScope st_Pair_is_even) := ⟨rfl, rfl, rfl, by decide +kernel, rfl, by decide +kernel, by decide +kernel⟩
theorem ok_Pair_is_even {f : Addr} {fd : FuncData} (T : Txt K mg cAE cBB cBT cBN cBR cTL cBk cPr aE0 aEV aSI aBG)  (F : Fun K "is_even" "Pair.is_even" st_Pair_is_even f fd) : FnOk P w K mg base (L2.CX P w) 1 f fd ["self"] (spF (S_is_even cBk cPr)) := by
  refine fn_ok F sc_Pair_is_even rfl fun cdv A outer s H E hr => ?_
  have tk : Takes (cxD P w K mg base ["self"] "Pair.is_even" st_Pair_is_even f cdv A outer s H E) (fun cls d _ H => E cls d H) := takes_of rfl rfl rfl rfl
  have hx := pxM tk
  have nd := sc_Pair_is_even.nd
  refine ⟨_, (pss_one (ps_ret (pe_cmpR (op_eqD hr.units) (pe_fld (pe_fld (pv 0) rfl) rfl) (pe_fld (pe_fld (pv 0) rfl) rfl) (nomark _)))), ?_⟩
  intro x
  obtain ⟨m, A, B⟩ := x
  refine .ok (ss_ret (sv_eqI (sv_fld (sv_fld (sv_var rfl) rfl T.cl_cPr T.n_cPr_first) rfl T.cl_cBk T.n_cBk_size) (sv_fld (sv_fld (sv_var rfl) rfl T.cl_cPr T.n_cPr_second) rfl T.cl_cBk T.n_cBk_size)))

end
end K60

namespace K60
open PySem L2 Evl Mini PyProof.Rows
theorem sv_neQ {K : PySem.W.Frag} {G : Gm} {ta tb : TE} {b : Bool} {v w : List Int} (ha : Sv ta G (isD (SqD b v))) (hb : Sv tb G (isD (SqD b w))) (hv : b = true → InR v ∧ InR w) : Sv (tOp (rNeD K) ta tb) G (isD (.bool (!decide (v = w)))) := by
  cases b with
  | true => exact sv_is (sv_neS (x := sg v) (y := sg w) ha hb (sg_ok v) (sg_ok w)) (by rw [sg_eq_iff (hv rfl).1 (hv rfl).2])
  | false => exact sv_is (sv_ne (d := .tuple (v.map .int)) (e := .tuple (w.map .int)) ha hb (shaped_tints v) (shaped_tints w)) (by rw [eqv_tints])
section
variable {P : Program} {w : World} {K : PySem.W.Frag} {mg : Str → Option Value} {base : Heap} {cAE cBB cBT cBN cBR cTL cBk cPr aE0 aEV aSI aBG : Addr}
/-! ### is_rest_ahead -/
def sidesL : List Str := ["first", "second"]
def sideB (a : PyData) : Bool := match a with
  | .str s => decide (s ∈ sidesL)
  | _ => false
def isRestB (d : PyData) (m : Int) : Bool := match d with
  | .tuple [a, b] => sideB a && isWordB b m
  | _ => false
def restFit (d : PyData) : Prop := match d with
  | .tuple [a, b] => (∀ s, a = .str s → PyData.strOk s = true) ∧ Fit b
  | _ => True
theorem two_of {ds : List PyData} (h : ds.length = 2) : ∃ a b, ds = [a, b] := by
  cases ds with
  | nil => simp at h
  | cons a ds => cases ds with
    | nil => simp at h
    | cons b ds => cases ds with
      | nil => exact ⟨a, b, rfl⟩
      | cons c ds => simp at h
theorem not_two {ds : List PyData} {m : Int} (h : ds.length ≠ 2) : isRestB (.tuple ds) m = false := by
  cases ds with
  | nil => rfl
  | cons a ds => cases ds with
    | nil => rfl
    | cons b ds => cases ds with
      | nil => simp at h
      | cons c ds => rfl
def S_is_ahead : Fs := ⟨{x : PyData × Int // restFit x.1}, 2, fun x => [.im (isD x.1.1), .im (isD (.int x.1.2))], fun _ => rfl, fun x => .ok (isD (.bool (isRestB x.1.1 x.1.2)))⟩
abbrev st_is_rest_ahead : Stmt := top 24
theorem sc_is_rest_ahead : FnScope ["value", "letters", "side", "word"] ["value", "letters"] (defScope st_is_rest_ahead) := ⟨rfl, rfl, rfl, by decide +kernel, rfl, by decide +kernel, by decide +kernel⟩
theorem ok_is_rest_ahead {f : Addr} {fd : FuncData} (T : Txt K mg cAE cBB cBT cBN cBR cTL cBk cPr aE0 aEV aSI aBG) (F_are_below : FnC P w K mg base 1 "are_below" (spF (S_are_below))) (F : Fun K "is_rest_ahead" "is_rest_ahead" st_is_rest_ahead f fd) : FnOk P w K mg base (L2.CX P w) 2 f fd ["value", "letters"] (spF (S_is_ahead)) := by
  refine fn_ok F sc_is_rest_ahead rfl fun cdv A outer s H E hr => ?_
  have tk : Takes (cxD P w K mg base ["value", "letters", "side", "word"] "is_rest_ahead" st_is_rest_ahead f cdv A outer s H E) (fun cls d _ H => E cls d H) := takes_of rfl rfl rfl rfl
  have hx := pxM tk
  have nd := sc_is_rest_ahead.nd
  refine ⟨_, (pss_cons (ps_if (PW.pt (pw_or (pt_not (pt_val (pe_callB call_isi (by rfl) T.no_isinstance (by decide +kernel) (pa_cons (pv 0) (pa_cons (pe_bltn (by rfl) T.no_tuple (by decide +kernel) (v := .ty "tuple") rfl) pa_nil))))) (pw_or1 (pt_cmpR (op_neD hr.units) (pe_callB call_len (by rfl) T.no_len (by decide +kernel) (pa_cons (pv 0) pa_nil)) pe_int (nomark _))))) (pss_one (ps_ret pe_bl)) pss_nil)
 (pss_cons (ps_asg (pv 0) (pg_tup rfl (pgs_cons (pg_name (i := 2) nd rfl (Or.inl rfl)) (pgs_cons (pg_name (i := 3) nd rfl (Or.inl rfl)) pgs_nil))))
 (pss_cons (ps_if (PW.pt (pw_or (pt_not (pt_val (pe_callB call_isi (by rfl) T.no_isinstance (by decide +kernel) (pa_cons (pv 2) (pa_cons (pe_bltn (by rfl) T.no_str (by decide +kernel) (v := .ty "str") rfl) pa_nil))))) (pw_or1 (pt_cmpR op_notIn_seq (pv 2) (pe_gc T.c_SIDES) (by rfl))))) (pss_one (ps_ret pe_bl)) pss_nil)
 (pss_one (ps_ret (pe_and (pe_fn F_are_below hr hx (pa_cons (pv 3) (pa_cons (pv 1) pa_nil))) (pe_one (pe_chain op_le op_le pe_int (pe_callB call_len (by rfl) T.no_len (by decide +kernel) (pa_cons (pv 3) pa_nil)) (pe_gc T.c_LONGEST_WORD))))))))), ?_⟩
  intro x
  obtain ⟨⟨d, m⟩, hf⟩ := x
  have hf : restFit d := hf
  show Mini.Ans _ _ [.im (isD d), .im (isD (.int m)), .no, .no] (.ok (isD (.bool (isRestB d m))))
  cases d with
  | tuple ds =>
    have t0 : ∀ {K' : PySem.W.Frag}, St' (tOr (tNot (tB (tCB (rIsi K') (tCons (tVar 0) (tCons (tC (.ty "tuple")) tNil))))) (tTest (tOp (rNeD K') (tCB (fun xs H Q => ∃ x n, xs = [x] ∧ LenV K' x H n ∧ Q (.int n) H) (tCons (tVar 0) tNil)) (tC (.int 2))))) [.im (isD (.tuple ds)), .im (isD (.int m)), .no, .no] (!decide ((ds.length : Int) = 2)) := fun {K'} =>
      st_is (st_or (b := false) (c := !decide ((ds.length : Int) = 2)) (st_is (st_not (st_B (sv_isTup (sv_var rfl)))) rfl) fun _ => st_test (sv_neI (sv_lenT (ds := ds) (sv_var rfl)) sv_int)) rfl
    by_cases c2 : ds.length = 2
    · obtain ⟨a, b, rfl⟩ := two_of c2
      have hf : Fit b := hf.2
      refine .ok (ss_seq (ss_if0 (st_is t0 rfl) ss_next) (ss_seq (ss_unpT2 (sv_var rfl)) ?_))
      have tS : ∀ {K' : PySem.W.Frag}, St' (tOr (tNot (tB (tCB (rIsi K') (tCons (tVar 2) (tCons (tC (.ty "str")) tNil))))) (tTest (tOp (rIn K true) (tVar 2) (tC (.ref aSI))))) [.im (isD (.tuple [a, b])), .im (isD (.int m)), .im (isD a), .im (isD b)] (!sideB a) := fun {K'} => by
        cases a with
        | str x => exact st_is (st_or (b := false) (c := !decide (x ∈ sidesL)) (st_is (st_not (st_B (sv_isStr (d := .str x) (sv_var rfl)))) rfl) fun _ => st_test (sv_notInK (ys := sidesL) T.kt_aSI (sv_var rfl))) rfl
        | _ => exact st_is (st_or (b := true) (c := true) (st_is (st_not (st_B (sv_isStr (sv_var rfl)))) rfl) fun z => by cases z) rfl
      by_cases cs : sideB a = true
      · refine ss_seq (ss_if0 (st_is tS (by rw [cs]; rfl)) ss_next) (ss_ret (sv_is (sv_and (c := isWordB b m) (sv_call (S := S_are_below) (sa_im (sv_var rfl) (sa_im (sv_var rfl) sa_nil)) ⟨(b, m), hf⟩ rfl rfl) fun h1 => ?_) ?_))
        · cases b with
          | tuple es => exact sv_is (sv_chain (g := fun i j => decide (i ≤ j)) (g' := fun i j => decide (i ≤ j)) sv_int (sv_lenT (ds := es) (sv_var rfl)) fun _ => sv_int) (by
              show PyData.bool (decide (1 ≤ (es.length : Int)) && decide ((es.length : Int) ≤ 5000)) = .bool (tupB (fun e => belowB e m) (.tuple es) && (decide (1 ≤ (es.length : Int)) && decide ((es.length : Int) ≤ 5000)))
              rw [show tupB (fun e => belowB e m) (.tuple es) = true from h1, Bool.true_and])
          | _ => simp [tupB] at h1
        · show PyData.bool (tupB (fun e => belowB e m) b && isWordB b m) = .bool (sideB a && isWordB b m)
          rw [cs, Bool.true_and]
          unfold isWordB
          cases tupB (fun e => belowB e m) b <;> simp
      · have cs' : sideB a = false := by simpa using cs
        exact ss_seqRt (ss_if1 (st_is tS (by rw [cs']; rfl)) (ss_ret (sv_is sv_bl (by show PyData.bool false = .bool (sideB a && isWordB b m); rw [cs']; rfl))))
    · refine .ok (ss_seqRt (ss_if1 (st_is t0 (by rw [decide_eq_false (by omega)]; rfl)) (ss_ret (sv_is sv_bl ?_))))
      have : isRestB (.tuple ds) m = false := not_two c2
      rw [this]
  | _ => exact .ok (ss_seqRt (ss_if1 (st_is (st_or (c := true) (st_not (st_B (sv_isTup (sv_var rfl)))) fun z => by simp [dTup] at z) rfl) (ss_ret sv_bl)))
/-! ### _is_even_rest -/
def evS (a : PyData) : Bool := match a with
  | .str s => s == "even"
  | _ => false
def nilT (a : PyData) : Bool := match a with
  | .tuple es => decide (((es.length : Nat) : Int) = 0)
  | _ => false
def evenB (d : PyData) : Bool := match d with
  | .tuple [a, b] => evS a && nilT b
  | _ => false
theorem not_two2 {ds : List PyData} (h : ds.length ≠ 2) : evenB (.tuple ds) = false := by
  cases ds with
  | nil => rfl
  | cons a ds => cases ds with
    | nil => rfl
    | cons b ds => cases ds with
      | nil => simp at h
      | cons c ds => rfl
def S_is_evenR : Fs := ⟨{d : PyData // restFit d}, 1, fun x => [.im (isD x.1)], fun _ => rfl, fun x => .ok (isD (.bool (evenB x.1)))⟩
abbrev st__is_even_rest : Stmt := top 34
theorem sc__is_even_rest : FnScope ["value", "side", "word"] ["value"] (defScope st__is_even_rest) := ⟨rfl, rfl, rfl, by decide +kernel, rfl, by decide +kernel, by decide +kernel⟩
theorem ok__is_even_rest {f : Addr} {fd : FuncData} (T : Txt K mg cAE cBB cBT cBN cBR cTL cBk cPr aE0 aEV aSI aBG)  (F : Fun K "_is_even_rest" "_is_even_rest" st__is_even_rest f fd) : FnOk P w K mg base (L2.CX P w) 1 f fd ["value"] (spF (S_is_evenR)) := by
  refine fn_ok F sc__is_even_rest rfl fun cdv A outer s H E hr => ?_
  have tk : Takes (cxD P w K mg base ["value", "side", "word"] "_is_even_rest" st__is_even_rest f cdv A outer s H E) (fun cls d _ H => E cls d H) := takes_of rfl rfl rfl rfl
  have hx := pxM tk
  have nd := sc__is_even_rest.nd
  refine ⟨_, (pss_cons (ps_if (PW.pt (pw_or (pt_not (pt_val (pe_callB call_isi (by rfl) T.no_isinstance (by decide +kernel) (pa_cons (pv 0) (pa_cons (pe_bltn (by rfl) T.no_tuple (by decide +kernel) (v := .ty "tuple") rfl) pa_nil))))) (pw_or1 (pt_cmpR (op_neD hr.units) (pe_callB call_len (by rfl) T.no_len (by decide +kernel) (pa_cons (pv 0) pa_nil)) pe_int (nomark _))))) (pss_one (ps_ret pe_bl)) pss_nil)
 (pss_cons (ps_asg (pv 0) (pg_tup rfl (pgs_cons (pg_name (i := 1) nd rfl (Or.inl rfl)) (pgs_cons (pg_name (i := 2) nd rfl (Or.inl rfl)) pgs_nil))))
 (pss_one (ps_ret (pe_and (pe_callB call_isi (by rfl) T.no_isinstance (by decide +kernel) (pa_cons (pv 1) (pa_cons (pe_bltn (by rfl) T.no_str (by decide +kernel) (v := .ty "str") rfl) pa_nil))) (pe_and (pe_cmpR (op_eqD hr.units) (pv 1) (pe_ix ix_seq (pe_gc T.c_EVEN) pe_int (fun _ _ => rfl)) (nomark _)) (pe_and (pe_callB call_isi (by rfl) T.no_isinstance (by decide +kernel) (pa_cons (pv 2) (pa_cons (pe_bltn (by rfl) T.no_tuple (by decide +kernel) (v := .ty "tuple") rfl) pa_nil))) (pe_one (pe_cmpR (op_eqD hr.units) (pe_callB call_len (by rfl) T.no_len (by decide +kernel) (pa_cons (pv 2) pa_nil)) pe_int (nomark _)))))))))), ?_⟩
  intro x
  obtain ⟨d, hf⟩ := x
  show Mini.Ans _ _ [.im (isD d), .no, .no] (.ok (isD (.bool (evenB d))))
  cases d with
  | tuple ds =>
    have t0 : ∀ {K' : PySem.W.Frag}, St' (tOr (tNot (tB (tCB (rIsi K') (tCons (tVar 0) (tCons (tC (.ty "tuple")) tNil))))) (tTest (tOp (rNeD K') (tCB (fun xs H Q => ∃ x n, xs = [x] ∧ LenV K' x H n ∧ Q (.int n) H) (tCons (tVar 0) tNil)) (tC (.int 2))))) [.im (isD (.tuple ds)), .no, .no] (!decide ((ds.length : Int) = 2)) := fun {K'} =>
      st_is (st_or (b := false) (c := !decide ((ds.length : Int) = 2)) (st_is (st_not (st_B (sv_isTup (sv_var rfl)))) rfl) fun _ => st_test (sv_neI (sv_lenT (ds := ds) (sv_var rfl)) sv_int)) rfl
    by_cases c2 : ds.length = 2
    · obtain ⟨a, b, rfl⟩ := two_of c2
      have hf : (∀ s, a = .str s → PyData.strOk s = true) ∧ Fit b := hf
      refine .ok (ss_seq (ss_if0 (st_is t0 rfl) ss_next) (ss_seq (ss_unpT2 (sv_var rfl)) (ss_ret ?_)))
      have shS : ∀ s : Str, PyData.strOk s = true → SeqAt.shaped (.str s) = true := fun s h => by
        unfold SeqAt.shaped
        rw [Bool.and_eq_true]
        exact ⟨by rw [PyData.canLay0]; exact h, decide_eq_true (by rw [PyData.depth]; omega)⟩
      have ev : ∀ {G : Gm}, Sv (tOp (rIx K) (tC (.ref aEV)) (tC (.int 0))) G (isD (.str "even")) := fun {G} =>
        sv_pA (show AtomP (.str "even") from by show PyData.strOk "even" = true; decide +kernel) (sv_ixP (ds := [.str "even", .tuple []]) (i := ((0 : Nat) : Int)) (sv_pK fun B => .tup (.inr T.kt_aEV.kt) (.cons (.str _) (.cons (.tup (.inr T.kt_aE0.kt) .nil) .nil))) sv_int (atI_nat rfl))
      refine sv_is (sv_and (b := dStr a) (c := evenB (.tuple [a, b])) (sv_isStr (d := a) (sv_var rfl)) fun h1 => ?_) ?_
      · cases a with
        | str s =>
          refine sv_is (sv_and (b := s == "even") (c := nilT b) (sv_is (sv_eq (d := .str s) (e := .str "even") (sv_var rfl) ev (shS s (hf.1 s rfl)) (shS _ (by decide +kernel))) (by rw [PyData.eqv])) fun _ => ?_) rfl
          refine sv_is (sv_and (b := dTup b) (c := nilT b) (sv_isTup (d := b) (sv_var rfl)) fun h2 => ?_) (by cases b <;> rfl)
          cases b with
          | tuple es => exact sv_eqI (sv_lenT (ds := es) (sv_var rfl)) sv_int
          | _ => simp [dTup] at h2
        | _ => simp [dStr] at h1
      · cases a <;> rfl
    · refine .ok (ss_seqRt (ss_if1 (st_is t0 (by rw [decide_eq_false (by omega)]; rfl)) (ss_ret (sv_is sv_bl ?_))))
      have : evenB (.tuple ds) = false := not_two2 c2
      rw [this]
  | _ => exact .ok (ss_seqRt (ss_if1 (st_is (st_or (c := true) (st_not (st_B (sv_isTup (sv_var rfl)))) fun z => by simp [dTup] at z) rfl) (ss_ret sv_bl)))
end
end K60

namespace K60
open PySem L2 Evl Mini PyProof.Rows
section
variable {P : Program} {w : World} {K : PySem.W.Frag} {mg : Str → Option Value} {base : Heap} {cAE cBB cBT cBN cBR cTL cBk cPr aE0 aEV aSI aBG : Addr}
/-! ### signs_of, word_of -/
def WI (w : List Int) : Prop := InR w ∧ w.length ≤ 10000
def intD (d : PyData) : Int := match d with
  | .int i => i
  | _ => 0
def S_signs_of : Fs := ⟨{w : List Int // WI w}, 1, fun x => [.im (isD (.tuple (x.1.map .int)))], fun _ => rfl, fun x => .ok (isD (.str (sg x.1)))⟩
abbrev st_signs_of : Stmt := top 27
theorem sc_signs_of : FnScope ["word", "letter"] ["word"] (defScope st_signs_of) := ⟨rfl, rfl, rfl, by decide +kernel, rfl, by decide +kernel, by decide +kernel⟩
theorem ok_signs_of {f : Addr} {fd : FuncData} (T : Txt K mg cAE cBB cBT cBN cBR cTL cBk cPr aE0 aEV aSI aBG)  (F : Fun K "signs_of" "signs_of" st_signs_of f fd) : FnOk P w K mg base (L2.CX P w) 1 f fd ["word"] (spF (S_signs_of)) := by
  refine fn_ok F sc_signs_of rfl fun cdv A outer s H E hr => ?_
  have tk : Takes (cxD P w K mg base ["word", "letter"] "signs_of" st_signs_of f cdv A outer s H E) (fun cls d _ H => E cls d H) := takes_of rfl rfl rfl rfl
  have hx := pxM tk
  have nd := sc_signs_of.nd
  refine ⟨_, (pss_one (ps_ret (pe_join pe_str (pe_lc (own := [("letter", 1)]) (g := gName 1) (tt := tYes) rfl nd (pi_tup (pv 0)) (blkOk_by (N := ["word", "letter"]) (sc := defScope st_signs_of) (by decide +kernel)) (fun _ _ _ _ _ => pg_name (i := 1) nd rfl (Or.inl rfl)) (fun _ _ _ _ _ => pts_nil) (fun _ _ _ _ _ => (pe_ix (r := rIx K) ix_seq (pe_gc T.c_SIGNS) (pv 1) (fun _ _ => rfl))))))), ?_⟩
  intro x
  obtain ⟨w, hr, hl⟩ := x
  have hz : (sizeLine : Nat) = 16777216 := sizeLine_eq
  have e1 : (w.map PyData.int).map (fun d => PyData.str ⟨#[sgC (intD d)]⟩) = (w.map fun i => (⟨#[sgC i]⟩ : Str)).map PyData.str := by rw [List.map_map, List.map_map]; rfl
  refine .ok (ss_ret (sv_is (sv_join (z := "") (xs := w.map fun i => (⟨#[sgC i]⟩ : Str)) (rl_svl (svl_is (svl_lcMapT (K := K) (j := 1) (ds := w.map .int) (sv_var rfl) (fun d => .str ⟨#[sgC (intD d)]⟩) (Nat.le_of_ble_eq_true rfl) (by rw [List.length_map]; omega) fun d hd => ?_) e1)) ?_) (by rw [join_sg])))
  · obtain ⟨i, hi, rfl⟩ := List.mem_map.mp hd
    have h := hr i hi
    exact sv_ixS (z := signs) sv_str (sv_var rfl) (by decide +kernel) (by
      rw [SL_eq]
      have e : ((i.toNat : Nat) : Int) = i := by omega
      rw [← e]
      exact atI_nat (by rw [e]; exact sgC_at h.1 h.2))
  · rw [List.map_map, List.length_map]
    have e : ∀ w : List Int, (w.map ((fun s : Str => s.length) ∘ fun i => (⟨#[sgC i]⟩ : Str))).sum = w.length := fun w => by
      induction w with
      | nil => rfl
      | cons i w ih => rw [List.map_cons, List.sum_cons, ih, List.length_cons]; show 1 + w.length = _; omega
    have e0 : ("" : Str).length = 0 := by decide +kernel
    rw [e w, e0]
    omega
def lbF (k : Key) : PyData := match k with
  | .inl _ => .none
  | .inr s => .int ((SLc.idxOf (s.cps.toList.getD 0 0) : Nat) : Int)
def S_word_of : Fs := ⟨{w : List Int // WI w}, 1, fun x => [.im (isD (.str (sg x.1)))], fun _ => rfl, fun x => .ok (isD (.tuple (x.1.map .int)))⟩
abbrev st_word_of : Stmt := top 28
theorem sc_word_of : FnScope ["signs", "letter_by_sign", "letter", "sign"] ["signs"] (defScope st_word_of) := ⟨rfl, rfl, rfl, by decide +kernel, rfl, by decide +kernel, by decide +kernel⟩
theorem ok_word_of {f : Addr} {fd : FuncData} (T : Txt K mg cAE cBB cBT cBN cBR cTL cBk cPr aE0 aEV aSI aBG)  (F : Fun K "word_of" "word_of" st_word_of f fd) : FnOk P w K mg base (L2.CX P w) 1 f fd ["signs"] (spF (S_word_of)) := by
  refine fn_ok F sc_word_of rfl fun cdv A outer s H E hr => ?_
  have tk : Takes (cxD P w K mg base ["signs", "letter_by_sign", "letter", "sign"] "word_of" st_word_of f cdv A outer s H E) (fun cls d _ H => E cls d H) := takes_of rfl rfl rfl rfl
  have hx := pxM tk
  have nd := sc_word_of.nd
  refine ⟨_, (pss_cons (ps_set (i := 1) nd rfl (Or.inr rfl) (pe_dc (own := [("letter", 2), ("sign", 3)]) (g := gTup K 2 (gCons (gName 2) (gCons (gName 3) gNil))) (tt := tYes) rfl nd (pi_enumS rfl T.no_enumerate (pa_cons (pe_gc T.c_SIGNS) pa_nil)) (blkOk_by (N := ["signs", "letter_by_sign", "letter", "sign"]) (sc := defScope st_word_of) (by decide +kernel)) (fun _ _ _ _ _ => (pg_tupK (K := K) rfl (pgs_cons (pg_name (i := 2) nd rfl (Or.inl rfl)) (pgs_cons (pg_name (i := 3) nd rfl (Or.inl rfl)) pgs_nil)))) (fun _ _ _ _ _ => pts_nil) (fun _ _ _ _ _ => (pv 3)) (fun _ _ _ _ _ => (pv 2))))
 (pss_one (ps_ret (pe_tupleOf (by rfl) T.no_tuple (pe_lc (own := [("sign", 3)]) (g := gName 3) (tt := tYes) rfl nd (pi_str (pv 0)) (blkOk_by (N := ["signs", "letter_by_sign", "letter", "sign"]) (sc := defScope st_word_of) (by decide +kernel)) (fun _ _ _ _ _ => pg_name (i := 3) nd rfl (Or.inl rfl)) (fun _ _ _ _ _ => pts_nil) (fun _ _ _ _ _ => (pe_dget (Nat.lt_of_le_of_lt (Nat.add_le_add_left (show 1 ≤ 64 by decide) _) hr.units) (pv 1) (pv 3) (fun _ _ => rfl)))))))), ?_⟩
  intro x
  obtain ⟨w, hr, hl⟩ := x
  have hz : (sizeLine : Nat) = 16777216 := sizeLine_eq
  have e1 : ((sg w).cps.toList.map fun c => PyData.int ((SLc.idxOf c : Nat) : Int)) = w.map .int := by
    rw [sg_list, List.map_map]
    exact List.map_congr_left fun v hv => by show PyData.int _ = _; rw [idx_sgC (hr v hv).1 (hr v hv).2]
  have nd0 : signs.cps.toList.Nodup := by rw [SL_eq]; exact SL_nd
  have hlen : signs.cps.toList.length = 60 := by rw [SL_eq]; exact SL_len
  refine .ok (ss_seq (ss_setDcS (z := signs) (f := lbF) sv_str nd0 (Nat.le_of_ble_eq_true rfl) (Nat.le_of_ble_eq_true rfl) (Nat.le_of_ble_eq_true rfl) (by decide) (by rw [hlen]; decide) fun i c h => ?_) ?_)
  · rw [SL_eq] at h
    show PyData.int ((SLc.idxOf c : Nat) : Int) = .int (i : Int)
    congr 2
    have hi := (List.getElem?_eq_some_iff.mp h).1
    have hc := (List.getElem?_eq_some_iff.mp h).2
    rw [← hc]
    exact SL_nd.idxOf_getElem i hi
  refine ss_ret (sv_tupleL (rl_svl (svl_is (svl_lcS (j := 3) (z := sg w) (sv_var rfl) (fun c => .int ((SLc.idxOf c : Nat) : Int)) (Nat.le_of_ble_eq_true rfl) (by rw [sg_list, List.length_map]; omega) fun c hc => ?_) e1)))
  rw [sg_list] at hc
  obtain ⟨v, hv, rfl⟩ := List.mem_map.mp hc
  refine sv_dgetF (ks := signs.cps.toList.map signK) (f := lbF) (k := signK (sgC v)) (sv_var rfl) (sv_var rfl) ?_
  refine List.mem_map.mpr ⟨sgC v, ?_, rfl⟩
  rw [SL_eq]
  exact List.mem_of_getElem? (sgC_at (hr v hv).1 (hr v hv).2)
/-! ### _check_books -/
def S_check_books (cBk cPr cBB : Addr) : Fs := ⟨Int × List PyData × List PyData, 1, fun x => [.im (isI cPr (pairF cBk x.1 x.2.1 x.1 x.2.2))], fun _ => rfl, fun x => if x.2.1.length = x.2.2.length then .ok (isD .none) else .bad cBB⟩
abbrev st__check_books : Stmt := top 33
theorem sc__check_books : FnScope ["pair"] ["pair"] (defScope st__check_books) := ⟨rfl, rfl, rfl, by decide +kernel, rfl, by decide +kernel, by decide +kernel⟩
theorem ok__check_books {f : Addr} {fd : FuncData} (T : Txt K mg cAE cBB cBT cBN cBR cTL cBk cPr aE0 aEV aSI aBG) (M_Pair_is_even : MtC P w K mg base 1 cPr "is_even" (spF (S_is_even cBk cPr))) (F : Fun K "_check_books" "_check_books" st__check_books f fd) : FnOk P w K mg base (L2.CX P w) 2 f fd ["pair"] (spF (S_check_books cBk cPr cBB)) := by
  refine fn_ok F sc__check_books rfl fun cdv A outer s H E hr => ?_
  have tk : Takes (cxD P w K mg base ["pair"] "_check_books" st__check_books f cdv A outer s H E) (fun cls d _ H => E cls d H) := takes_of rfl rfl rfl rfl
  have hx := pxM tk
  have nd := sc__check_books.nd
  refine ⟨_, (pss_one (ps_if (pt_not (pt_val (pe_mt0 (pv 0) M_Pair_is_even hr hx))) (pss_one (ps_rs rfl tk (pmk_err T.e_BadBook))) pss_nil)), ?_⟩
  intro x
  obtain ⟨m, A, B⟩ := x
  show Mini.Ans _ _ _ (if A.length = B.length then .ok (isD .none) else .bad cBB)
  by_cases c : A.length = B.length
  · rw [if_pos c]
    exact .non (ss_if0 (st_is (st_not (st_B (sv_mt (S := S_is_even cBk cPr) (sv_var rfl) (pairF_no rfl) sa_nil (m, A, B) rfl rfl))) (by show (!decide ((A.length : Int) = (B.length : Int))) = false; rw [c, decide_eq_true rfl]; rfl)) ss_next)
  · rw [if_neg c]
    exact .bad (ss_if1 (st_is (st_not (st_B (sv_mt (S := S_is_even cBk cPr) (sv_var rfl) (pairF_no rfl) sa_nil (m, A, B) rfl rfl))) (by show (!decide ((A.length : Int) = (B.length : Int))) = true; rw [decide_eq_false (by omega)]; rfl)) ss_rs)
/-! ### _state, _rest, _size, _check_state -/
def stOf (s : Str) (w : List Int) : List Int × List Int := if s == "second" then ([], w) else (w, [])
def S_state : Fs := ⟨{x : Str × List Int // PyData.strOk x.1 = true}, 1, fun x => [.im (isD (.tuple [.str x.1.1, .tuple (x.1.2.map .int)]))], fun _ => rfl, fun x => .ok (isD (pairQ false (stOf x.1.1 x.1.2).1 (stOf x.1.1 x.1.2).2))⟩
abbrev st__state : Stmt := top 35
theorem sc__state : FnScope ["rest", "side", "word"] ["rest"] (defScope st__state) := ⟨rfl, rfl, rfl, by decide +kernel, rfl, by decide +kernel, by decide +kernel⟩
theorem ok__state {f : Addr} {fd : FuncData} (T : Txt K mg cAE cBB cBT cBN cBR cTL cBk cPr aE0 aEV aSI aBG)  (F : Fun K "_state" "_state" st__state f fd) : FnOk P w K mg base (L2.CX P w) 1 f fd ["rest"] (spF (S_state)) := by
  refine fn_ok F sc__state rfl fun cdv A outer s H E hr => ?_
  have tk : Takes (cxD P w K mg base ["rest", "side", "word"] "_state" st__state f cdv A outer s H E) (fun cls d _ H => E cls d H) := takes_of rfl rfl rfl rfl
  have hx := pxM tk
  have nd := sc__state.nd
  refine ⟨_, (pss_cons (ps_asg (pv 0) (pg_tup rfl (pgs_cons (pg_name (i := 1) nd rfl (Or.inl rfl)) (pgs_cons (pg_name (i := 2) nd rfl (Or.inl rfl)) pgs_nil))))
 (pss_one (ps_ret (pe_ifExp (pt_cmpR (op_eqD hr.units) (pv 1) pe_str (nomark _)) (pe_tup (pa_cons (pe_slice sl_uSl (pv 2) po_none (po_some pe_int)) (pa_cons (pv 2) pa_nil))) (pe_tup (pa_cons (pv 2) (pa_cons (pe_slice sl_uSl (pv 2) po_none (po_some pe_int)) pa_nil))))))), ?_⟩
  intro x
  obtain ⟨⟨s, w⟩, hs⟩ := x
  have shS : ∀ s : Str, PyData.strOk s = true → SeqAt.shaped (.str s) = true := fun s h => by
    unfold SeqAt.shaped
    rw [Bool.and_eq_true]
    exact ⟨by rw [PyData.canLay0]; exact h, decide_eq_true (by rw [PyData.depth]; omega)⟩
  have two : ∀ {G : Gm} {a b : TE} {d e : PyData}, Sv a G (isD d) → Sv b G (isD e) → Sv (tTup (tCons a (tCons b tNil))) G (isD (.tuple [d, e])) := fun {G a b d e} h h' => sv_tup (ds := [d, e]) (sa_ims h (sa_ims h' sa_nil)) (by show 2 ≤ sizeLine; decide)
  have nil : ∀ {G : Gm}, G[2]? = some (.im (isD (.tuple (w.map .int)))) → Sv (tSl (uSl K) (tVar 2) tNoPart (tPart (tC (.int 0)))) G (isD (SqD false [])) := fun h => sv_is (sv_sliceT (ds := w.map .int) (sv_var h) so_none (so_some (i := 0) sv_int)) (by rw [cut_take _ (by omega)]; rfl)
  refine .ok (ss_seq (ss_unpT2 (sv_var rfl)) (ss_ret ?_))
  show Sv _ _ (isD (pairQ false (stOf s w).1 (stOf s w).2))
  unfold stOf
  refine sv_ite (b := s == "second") (st_is (st_test (sv_eq (d := .str s) (e := .str "second") (sv_var rfl) sv_str (shS s hs) (shS _ (by decide +kernel)))) (by rw [PyData.eqv])) (fun h => ?_) fun h => ?_
  · rw [if_pos h]; exact two (nil rfl) (sv_var rfl)
  · rw [if_neg (by rw [h]; exact Bool.false_ne_true)]; exact two (sv_var rfl) (nil rfl)
def restP (x y : List Int) : PyData := if x ≠ [] then .tuple [.str "first", .tuple (x.map .int)] else if y ≠ [] then .tuple [.str "second", .tuple (y.map .int)] else .tuple [.str "even", .tuple []]
theorem pos_ne {x : List Int} : decide ((0 : Int) < (x.length : Int)) = decide (x ≠ []) := by
  cases x with
  | nil => rfl
  | cons a x => rw [decide_eq_true (by rw [List.length_cons]; omega), decide_eq_true (List.cons_ne_nil _ _)]
def S_rest (K : PySem.W.Frag) : Fs := ⟨{x : List Int × List Int // x.1.length ≤ sizeLine ∧ x.2.length ≤ sizeLine}, 1, fun x => [.im (isD (pairQ false x.1.1 x.1.2))], fun _ => rfl, fun x => .ok (isP K (restP x.1.1 x.1.2))⟩
abbrev st__rest : Stmt := top 36
theorem sc__rest : FnScope ["state", "first", "second"] ["state"] (defScope st__rest) := ⟨rfl, rfl, rfl, by decide +kernel, rfl, by decide +kernel, by decide +kernel⟩
theorem ok__rest {f : Addr} {fd : FuncData} (T : Txt K mg cAE cBB cBT cBN cBR cTL cBk cPr aE0 aEV aSI aBG)  (F : Fun K "_rest" "_rest" st__rest f fd) : FnOk P w K mg base (L2.CX P w) 1 f fd ["state"] (spF (S_rest K)) := by
  refine fn_ok F sc__rest rfl fun cdv A outer s H E hr => ?_
  have tk : Takes (cxD P w K mg base ["state", "first", "second"] "_rest" st__rest f cdv A outer s H E) (fun cls d _ H => E cls d H) := takes_of rfl rfl rfl rfl
  have hx := pxM tk
  have nd := sc__rest.nd
  refine ⟨_, (pss_cons (ps_asg (pv 0) (pg_tup rfl (pgs_cons (pg_name (i := 1) nd rfl (Or.inl rfl)) (pgs_cons (pg_name (i := 2) nd rfl (Or.inl rfl)) pgs_nil))))
 (pss_cons (ps_if (pt_cmpR op_gt (pe_callB call_len (by rfl) T.no_len (by decide +kernel) (pa_cons (pv 1) pa_nil)) pe_int (nomark _)) (pss_one (ps_ret (pe_tup (pa_cons pe_str (pa_cons (pv 1) pa_nil))))) pss_nil)
 (pss_one (ps_ret (pe_ifExp (pt_cmpR op_gt (pe_callB call_len (by rfl) T.no_len (by decide +kernel) (pa_cons (pv 2) pa_nil)) pe_int (nomark _)) (pe_tup (pa_cons pe_str (pa_cons (pv 2) pa_nil))) (pe_gc T.c_EVEN)))))), ?_⟩
  intro x
  obtain ⟨⟨x, y⟩, hx, hy⟩ := x
  have two : ∀ {G : Gm} {a : TE} {s : Str} {w : List Int}, Sv a G (isD (.tuple (w.map .int))) → Sv (tTup (tCons (tC (.str s)) (tCons a tNil))) G (isP K (.tuple [.str s, .tuple (w.map .int)])) := fun {G a s w} h => sv_pD (sv_tup (ds := [.str s, .tuple (w.map .int)]) (sa_ims sv_str (sa_ims h sa_nil)) (by show 2 ≤ sizeLine; decide))
  show Mini.Ans _ _ [.im (isD (pairQ false x y)), .no, .no] (.ok (isP K (restP x y)))
  refine .ok (ss_seq (ss_unpT2 (sv_var rfl)) ?_)
  unfold restP
  have t : ∀ {n : Nat} {w : List Int} {G : Gm}, G[n]? = some (.im (isD (.tuple (w.map .int)))) → Sv (tOp (rI0 fun i j => .bl (decide (j < i))) (tCB (fun xs H Q => ∃ x n, xs = [x] ∧ LenV K x H n ∧ Q (.int n) H) (tCons (tVar n) tNil)) (tC (.int 0))) G (isD (.bool (decide (w ≠ [])))) := fun {n w G} h =>
    sv_is (sv_cmp (g := fun i j => decide (j < i)) (sv_is (sv_lenT (ds := w.map .int) (sv_var h)) (by rw [List.length_map])) sv_int) (by rw [pos_ne])
  by_cases c : x ≠ []
  · rw [if_pos c]
    exact ss_seqRt (ss_if1 (st_is (st_test (t (w := x) rfl)) (decide_eq_true c)) (ss_ret (two (sv_var rfl))))
  · rw [if_neg c]
    refine ss_seq (ss_if0 (st_is (st_test (t (w := x) rfl)) (decide_eq_false c)) ss_next) (ss_ret (sv_ite (b := decide (y ≠ [])) (st_test (t (w := y) rfl)) (fun h => ?_) fun h => ?_))
    · rw [if_pos (of_decide_eq_true h)]; exact two (sv_var rfl)
    · rw [if_neg (of_decide_eq_false h)]
      exact sv_pK fun B => .tup (.inr T.kt_aEV.kt) (.cons (.str _) (.cons (.tup (.inr T.kt_aE0.kt) .nil) .nil))
def S_size (K : PySem.W.Frag) : Fs := ⟨{x : Bool × List Int × List Int // x.2.1.length ≤ sizeLine ∧ x.2.2.length ≤ sizeLine}, 1, fun x => [.im (isP K (pairQ x.1.1 x.1.2.1 x.1.2.2))], fun _ => rfl, fun x => .ok (isD (.int ((x.1.2.1.length + x.1.2.2.length : Nat) : Int)))⟩
abbrev st__size : Stmt := top 38
theorem sc__size : FnScope ["state", "first", "second"] ["state"] (defScope st__size) := ⟨rfl, rfl, rfl, by decide +kernel, rfl, by decide +kernel, by decide +kernel⟩
theorem ok__size {f : Addr} {fd : FuncData} (T : Txt K mg cAE cBB cBT cBN cBR cTL cBk cPr aE0 aEV aSI aBG)  (F : Fun K "_size" "_size" st__size f fd) : FnOk P w K mg base (L2.CX P w) 1 f fd ["state"] (spF (S_size K)) := by
  refine fn_ok F sc__size rfl fun cdv A outer s H E hr => ?_
  have tk : Takes (cxD P w K mg base ["state", "first", "second"] "_size" st__size f cdv A outer s H E) (fun cls d _ H => E cls d H) := takes_of rfl rfl rfl rfl
  have hx := pxM tk
  have nd := sc__size.nd
  refine ⟨_, (pss_cons (ps_asg (pv 0) (pg_tup rfl (pgs_cons (pg_name (i := 1) nd rfl (Or.inl rfl)) (pgs_cons (pg_name (i := 2) nd rfl (Or.inl rfl)) pgs_nil))))
 (pss_one (ps_ret (pe_op op_uAdd (pe_callB call_len (by rfl) T.no_len (by decide +kernel) (pa_cons (pv 1) pa_nil)) (pe_callB call_len (by rfl) T.no_len (by decide +kernel) (pa_cons (pv 2) pa_nil)))))), ?_⟩
  intro x
  obtain ⟨⟨b, x, y⟩, hx, hy⟩ := x
  refine .ok (ss_seq (ss_unpP2 (d1 := SqD b x) (d2 := SqD b y) (sv_var rfl)) (ss_ret (sv_is (sv_add (sv_lenQ (b := b) (w := x) (sv_var rfl) hx) (sv_lenQ (b := b) (w := y) (sv_var rfl) hy)) ?_)))
  congr 1
def S_check_state (K : PySem.W.Frag) (cTL : Addr) : Fs := ⟨{x : Bool × List Int × List Int // x.2.1.length ≤ sizeLine ∧ x.2.2.length ≤ sizeLine}, 1, fun x => [.im (isP K (pairQ x.1.1 x.1.2.1 x.1.2.2))], fun _ => rfl, fun x => if x.1.2.1.length + x.1.2.2.length ≤ 5000 then .ok (isD .none) else .bad cTL⟩
abbrev st__check_state : Stmt := top 39
theorem sc__check_state : FnScope ["state"] ["state"] (defScope st__check_state) := ⟨rfl, rfl, rfl, by decide +kernel, rfl, by decide +kernel, by decide +kernel⟩
theorem ok__check_state {f : Addr} {fd : FuncData} (T : Txt K mg cAE cBB cBT cBN cBR cTL cBk cPr aE0 aEV aSI aBG) (F__size : FnC P w K mg base 1 "_size" (spF (S_size K))) (F : Fun K "_check_state" "_check_state" st__check_state f fd) : FnOk P w K mg base (L2.CX P w) 2 f fd ["state"] (spF (S_check_state K cTL)) := by
  refine fn_ok F sc__check_state rfl fun cdv A outer s H E hr => ?_
  have tk : Takes (cxD P w K mg base ["state"] "_check_state" st__check_state f cdv A outer s H E) (fun cls d _ H => E cls d H) := takes_of rfl rfl rfl rfl
  have hx := pxM tk
  have nd := sc__check_state.nd
  refine ⟨_, (pss_one (ps_if (pt_cmpR op_gt (pe_fn F__size hr hx (pa_cons (pv 0) pa_nil)) (pe_gc T.c_LONGEST_WORD) (nomark _)) (pss_one (ps_rs rfl tk (pmk_err T.e_TooLong))) pss_nil)), ?_⟩
  intro x
  obtain ⟨⟨b, x, y⟩, hx, hy⟩ := x
  have t : St' (tTest (tOp (rI0 fun i j => .bl (decide (j < i))) (tCallS (spF (S_size K)) (fun _ => E) (tCons (tVar 0) tNil)) (tC (.int 5000)))) [.im (isP K (pairQ b x y))] (decide (5000 < ((x.length + y.length : Nat) : Int))) :=
    st_test (sv_cmp (g := fun i j => decide (j < i)) (sv_call (S := S_size K) (sa_im (sv_var rfl) sa_nil) ⟨(b, x, y), hx, hy⟩ rfl rfl) sv_int)
  show Mini.Ans _ _ _ (if x.length + y.length ≤ 5000 then .ok (isD .none) else .bad cTL)
  by_cases c : x.length + y.length ≤ 5000
  · rw [if_pos c]
    exact .non (ss_if0 (st_is t (decide_eq_false (by omega))) ss_next)
  · rw [if_neg c]
    exact .bad (ss_if1 (st_is t (decide_eq_true (by omega))) ss_rs)
end
end K60

namespace K60
open PySem L2 Evl Mini PyProof.Rows
section
variable {K : PySem.W.Frag} {G : Gm} {E : L2.St → XK} {ta tb : TE} {tr : TA} {ds : List PyData} {sp : Sp} {C : Addr} {P : Ty}
theorem sv_isNP (ha : Sv ta G (isP K (.tuple ds))) : Sv (tOp (fun x y H Q => y = .non ∧ Q (.bl (decide (x = .non))) H) ta (tC .non)) G (isD (.bool false)) := fun M0 σ B M H Q q => ha M0 σ B M H _ fun v B' e dj p => ⟨rfl, by
  refine q _ B' e dj ?_
  cases (show DqK K B' v (.tuple ds) from p) with
  | tup _ _ => exact .bl false⟩
theorem sb_callA2 (ha : Sv ta G P) (hb : Sb tb G E C) : Sb (tCallS sp E (tCons ta (tCons tb tr))) G E C := fun M0 σ B M H Q q =>
  ha M0 σ B M H _ fun v B1 e1 d1 p1 => hb M0 σ B1 M (H.ext e1 d1) _ fun B2 e2 d2 => q B2 (e1.trans e2) d2
end
/-! ### what is ahead -/
def behF (x y f g : List Int) : Option (List Int × List Int) :=
  if (x ++ f).take (min (x ++ f).length (y ++ g).length) = (y ++ g).take (min (x ++ f).length (y ++ g).length) then some ((x ++ f).drop (min (x ++ f).length (y ++ g).length), (y ++ g).drop (min (x ++ f).length (y ++ g).length)) else none
def behD (b : Bool) (o : Option (List Int × List Int)) : PyData := match o with
  | none => .none
  | some p => pairQ b p.1 p.2
theorem inR_cat {a b : List Int} (ha : InR a) (hb : InR b) : InR (a ++ b) := fun v hv => (List.mem_append.mp hv).elim (ha v) (hb v)
theorem inR_take {a : List Int} (h : InR a) (k : Nat) : InR (a.take k) := fun v hv => h v (List.mem_of_mem_take hv)
theorem inR_drop {a : List Int} (h : InR a) (k : Nat) : InR (a.drop k) := fun v hv => h v (List.mem_of_mem_drop hv)
theorem behF_in {x y f g : List Int} {p : List Int × List Int} (h : behF x y f g = some p) (hx : InR x) (hy : InR y) (hf : InR f) (hg : InR g) : InR p.1 ∧ InR p.2 := by
  unfold behF at h
  split at h
  · cases h; exact ⟨inR_drop (inR_cat hx hf) _, inR_drop (inR_cat hy hg) _⟩
  · cases h
theorem behF_len {x y f g : List Int} {p : List Int × List Int} (h : behF x y f g = some p) : p.1.length ≤ x.length + f.length ∧ p.2.length ≤ y.length + g.length := by
  unfold behF at h
  split at h
  · cases h
    simp only [List.length_drop, List.length_append]
    omega
  · cases h
section
variable {P : Program} {w : World} {K : PySem.W.Frag} {mg : Str → Option Value} {base : Heap} {cAE cBB cBT cBN cBR cTL cBk cPr aE0 aEV aSI aBG : Addr}
/-! ### _behind -/
def S_behind (K : PySem.W.Frag) : Fs := ⟨{x : Bool × (List Int × List Int) × List Int × List Int // (x.2.1.1.length ≤ 100000 ∧ x.2.1.2.length ≤ 100000 ∧ x.2.2.1.length ≤ 100000 ∧ x.2.2.2.length ≤ 100000) ∧ (x.1 = true → InR x.2.1.1 ∧ InR x.2.1.2 ∧ InR x.2.2.1 ∧ InR x.2.2.2)}, 3,
  fun x => [.im (stT K x.1.1 x.1.2.1.1 x.1.2.1.2), .im (isD (SqD x.1.1 x.1.2.2.1)), .im (isD (SqD x.1.1 x.1.2.2.2))], fun _ => rfl, fun x => .ok (isD (behD x.1.1 (behF x.1.2.1.1 x.1.2.1.2 x.1.2.2.1 x.1.2.2.2)))⟩
abbrev st__behind : Stmt := top 40
theorem sc__behind : FnScope ["state", "first", "second", "one", "other", "common"] ["state", "first", "second"] (defScope st__behind) := ⟨rfl, rfl, rfl, by decide +kernel, rfl, by decide +kernel, by decide +kernel⟩
theorem ok__behind {f : Addr} {fd : FuncData} (T : Txt K mg cAE cBB cBT cBN cBR cTL cBk cPr aE0 aEV aSI aBG)  (F : Fun K "_behind" "_behind" st__behind f fd) : FnOk P w K mg base (L2.CX P w) 1 f fd ["state", "first", "second"] (spF (S_behind K)) := by
  refine fn_ok F sc__behind rfl fun cdv A outer s H E hr => ?_
  have tk : Takes (cxD P w K mg base ["state", "first", "second", "one", "other", "common"] "_behind" st__behind f cdv A outer s H E) (fun cls d _ H => E cls d H) := takes_of rfl rfl rfl rfl
  have hx := pxM tk
  have nd := sc__behind.nd
  refine ⟨_, (pss_cons (ps_set (i := 3) nd rfl (Or.inl rfl) (pe_op op_uAdd (pe_ix ix_seq (pv 0) pe_int (fun _ _ => rfl)) (pv 1)))
 (pss_cons (ps_set (i := 4) nd rfl (Or.inl rfl) (pe_op op_uAdd (pe_ix ix_seq (pv 0) pe_int (fun _ _ => rfl)) (pv 2)))
 (pss_cons (ps_set (i := 5) nd rfl (Or.inl rfl) (pe_callB (call_min2 rfl) (by rfl) T.no_min (by decide +kernel) (pa_cons (pe_callB call_len (by rfl) T.no_len (by decide +kernel) (pa_cons (pv 3) pa_nil)) (pa_cons (pe_callB call_len (by rfl) T.no_len (by decide +kernel) (pa_cons (pv 4) pa_nil)) pa_nil))))
 (pss_cons (ps_if (pt_cmpR (op_neD hr.units) (pe_slice (r := uSlS K) sl_uSlS (pv 3) po_none (po_some (pv 5))) (pe_slice (r := uSlS K) sl_uSlS (pv 4) po_none (po_some (pv 5))) (nomark _)) (pss_one (ps_ret pe_non)) pss_nil)
 (pss_one (ps_ret (pe_tup (pa_cons (pe_slice (r := uSlS K) sl_uSlS (pv 3) (po_some (pv 5)) po_none) (pa_cons (pe_slice (r := uSlS K) sl_uSlS (pv 4) (po_some (pv 5)) po_none) pa_nil))))))))), ?_⟩
  intro x
  obtain ⟨⟨b, ⟨x, y⟩, f, g⟩, ⟨l1, l2, l3, l4⟩, hi⟩ := x
  have hz : (sizeLine : Nat) = 16777216 := sizeLine_eq
  have l1 : x.length ≤ 100000 := l1
  have l2 : y.length ≤ 100000 := l2
  have l3 : f.length ≤ 100000 := l3
  have l4 : g.length ≤ 100000 := l4
  have hi : b = true → InR x ∧ InR y ∧ InR f ∧ InR g := hi
  have z1 : (x ++ f).length ≤ sizeLine := by rw [List.length_append]; omega
  have z2 : (y ++ g).length ≤ sizeLine := by rw [List.length_append]; omega
  show Mini.Ans _ _ [.im (stT K b x y), .im (isD (SqD b f)), .im (isD (SqD b g)), .no, .no, .no] (.ok (isD (behD b (behF x y f g))))
  refine .ok (ss_seq (ss_set (P := isD (SqD b (x ++ f))) (sv_catQ (sv_st0 rfl) (sv_var rfl) (by omega))) (ss_seq (ss_set (P := isD (SqD b (y ++ g))) (sv_catQ (sv_st1 rfl) (sv_var rfl) (by omega))) ?_))
  have h1 : b = true → InR (x ++ f) := fun h => inR_cat (hi h).1 (hi h).2.2.1
  have h2 : b = true → InR (y ++ g) := fun h => inR_cat (hi h).2.1 (hi h).2.2.2
  unfold behF
  generalize x ++ f = u at z1 h1 ⊢
  generalize y ++ g = v at z2 h2 ⊢
  refine ss_seq (ss_set (P := isD (.int ((min u.length v.length : Nat) : Int))) (sv_is (sv_min2 (sv_lenQ (b := b) (w := u) (sv_pD (sv_var rfl)) z1) (sv_lenQ (b := b) (w := v) (sv_pD (sv_var rfl)) z2)) (by congr 1; split <;> omega))) ?_
  have z3 : min u.length v.length ≤ sizeLine := by omega
  generalize min u.length v.length = k
  have t : ∀ {a : Sl}, St' (tTest (tOp (rNeD K) (tSl (uSlS K) (tVar 3) tNoPart (tPart (tVar 5))) (tSl (uSlS K) (tVar 4) tNoPart (tPart (tVar 5))))) [.im (stT K b x y), .im (isD (SqD b f)), .im (isD (SqD b g)), .im (isD (SqD b u)), .im (isD (SqD b v)), .im (isD (.int (k : Int)))] (!decide (u.take k = v.take k)) := fun {a} =>
    st_test (sv_neQ (sv_takeQ (sv_var rfl) (sv_var rfl) z1) (sv_takeQ (sv_var rfl) (sv_var rfl) z2) fun h => ⟨inR_take (h1 h) k, inR_take (h2 h) k⟩)
  by_cases c : u.take k = v.take k
  · rw [if_pos c]
    refine ss_seq (ss_if0 (st_is (t (a := .no)) (by rw [decide_eq_true c]; rfl)) ss_next) (ss_ret ?_)
    exact sv_tup (ds := [SqD b (u.drop k), SqD b (v.drop k)]) (sa_ims (sv_dropQ (sv_var rfl) (sv_var rfl) z1) (sa_ims (sv_dropQ (sv_var rfl) (sv_var rfl) z2) sa_nil)) (by show 2 ≤ sizeLine; decide)
  · rw [if_neg c]
    exact ss_seqRt (ss_if1 (st_is (t (a := .no)) (by rw [decide_eq_false c]; rfl)) (ss_ret sv_non))
/-! ### _rest_of_signs, _word_pair -/
def S_rest_signs (K : PySem.W.Frag) : Fs := ⟨{x : List Int × List Int // WI x.1 ∧ WI x.2}, 1, fun x => [.im (isP K (pairQ true x.1.1 x.1.2))], fun _ => rfl, fun x => .ok (isP K (restP x.1.1 x.1.2))⟩
abbrev st__rest_of_signs : Stmt := top 37
theorem sc__rest_of_signs : FnScope ["state", "first", "second"] ["state"] (defScope st__rest_of_signs) := ⟨rfl, rfl, rfl, by decide +kernel, rfl, by decide +kernel, by decide +kernel⟩
theorem ok__rest_of_signs {f : Addr} {fd : FuncData} (T : Txt K mg cAE cBB cBT cBN cBR cTL cBk cPr aE0 aEV aSI aBG) (F_word_of : FnC P w K mg base 1 "word_of" (spF (S_word_of))) (F__rest : FnC P w K mg base 1 "_rest" (spF (S_rest K))) (F : Fun K "_rest_of_signs" "_rest_of_signs" st__rest_of_signs f fd) : FnOk P w K mg base (L2.CX P w) 2 f fd ["state"] (spF (S_rest_signs K)) := by
  refine fn_ok F sc__rest_of_signs rfl fun cdv A outer s H E hr => ?_
  have tk : Takes (cxD P w K mg base ["state", "first", "second"] "_rest_of_signs" st__rest_of_signs f cdv A outer s H E) (fun cls d _ H => E cls d H) := takes_of rfl rfl rfl rfl
  have hx := pxM tk
  have nd := sc__rest_of_signs.nd
  refine ⟨_, (pss_cons (ps_asg (pv 0) (pg_tup rfl (pgs_cons (pg_name (i := 1) nd rfl (Or.inl rfl)) (pgs_cons (pg_name (i := 2) nd rfl (Or.inl rfl)) pgs_nil))))
 (pss_one (ps_ret (pe_fn F__rest hr hx (pa_cons (pe_tup (pa_cons (pe_fn F_word_of hr hx (pa_cons (pv 1) pa_nil)) (pa_cons (pe_fn F_word_of hr hx (pa_cons (pv 2) pa_nil)) pa_nil))) pa_nil))))), ?_⟩
  intro x
  obtain ⟨⟨x, y⟩, hx, hy⟩ := x
  have hz : (sizeLine : Nat) = 16777216 := sizeLine_eq
  have lx : x.length ≤ 10000 := hx.2
  have ly : y.length ≤ 10000 := hy.2
  refine .ok (ss_seq (ss_unpP2 (d1 := SqD true x) (d2 := SqD true y) (sv_var rfl)) (ss_ret ?_))
  have wo : ∀ {G : Gm} {n : Nat} {w : List Int}, WI w → G[n]? = some (.im (isP K (SqD true w))) → Sv (tCallS (spF S_word_of) (fun _ => E) (tCons (tVar n) tNil)) G (isD (.tuple (w.map .int))) := fun {G n w} hw h =>
    sv_call (S := S_word_of) (sa_im (sv_pA (show AtomP (.str (sg w)) from sg_ok w) (sv_var h)) sa_nil) ⟨w, hw⟩ rfl rfl
  exact sv_call (S := S_rest K) (sa_im (sv_tup (ds := [.tuple (x.map .int), .tuple (y.map .int)]) (sa_ims (wo hx rfl) (sa_ims (wo hy rfl) sa_nil)) (by show 2 ≤ sizeLine; decide)) sa_nil) ⟨(x, y), by show x.length ≤ sizeLine; omega, by show y.length ≤ sizeLine; omega⟩ rfl rfl
def wAt (W : List (List Int)) (n : Int) : List Int := W.getD n.toNat []
theorem wAt_ok {W : List (List Int)} {m n : Int} (h : GoodW W m) (h0 : 0 ≤ n) (h1 : n < W.length) : 1 ≤ (wAt W n).length ∧ (wAt W n).length ≤ 5000 ∧ ∀ v ∈ wAt W n, 0 ≤ v ∧ v < m := by
  have hn : n.toNat < W.length := by omega
  have e : wAt W n = W[n.toNat] := by unfold wAt; rw [List.getD_eq_getElem?_getD, List.getElem?_eq_getElem hn]; rfl
  rw [e]
  exact h.2 _ (List.getElem_mem hn)
theorem wAt_WI {W : List (List Int)} {m n : Int} (h : GoodW W m) (hm : m ≤ 60) (h0 : 0 ≤ n) (h1 : n < W.length) : WI (wAt W n) := by
  obtain ⟨_, h2, h3⟩ := wAt_ok h h0 h1
  exact ⟨fun v hv => ⟨(h3 v hv).1, by have := (h3 v hv).2; omega⟩, by omega⟩
theorem word_res {W : List (List Int)} {m n : Int} (h0 : 0 ≤ n) (h1 : n < W.length) : (S_word cBk cBN).res ((.int m, wD W), .int n) = .ok (isD (.tuple ((wAt W n).map .int))) := by
  have e : (wD W).length = W.length := by unfold wD; rw [List.length_map]
  show (if belowB (.int n) (wD W).length then Rs.ok (isD ((wD W).getD n.toNat .none)) else .bad cBN) = _
  rw [if_pos (by rw [e]; exact (belowB_int n _).mpr ⟨h0, h1⟩)]
  have hn : n.toNat < W.length := by omega
  rw [List.getD_eq_getElem?_getD, wD_get hn]
  rfl
def S_word_pair (cBk cPr : Addr) : Fs := ⟨{x : (Int × List (List Int) × List (List Int)) × Int // (GoodW x.1.2.1 x.1.1 ∧ GoodW x.1.2.2 x.1.1 ∧ x.1.1 ≤ 60) ∧ 0 ≤ x.2 ∧ x.2 < x.1.2.1.length ∧ x.2 < x.1.2.2.length}, 2,
  fun x => [.im (isI cPr (pairF cBk x.1.1.1 (wD x.1.1.2.1) x.1.1.1 (wD x.1.1.2.2))), .im (isD (.int x.1.2))], fun _ => rfl, fun x => .ok (isD (pairQ true (wAt x.1.1.2.1 x.1.2) (wAt x.1.1.2.2 x.1.2)))⟩
abbrev st__word_pair : Stmt := top 41
theorem sc__word_pair : FnScope ["pair", "number"] ["pair", "number"] (defScope st__word_pair) := ⟨rfl, rfl, rfl, by decide +kernel, rfl, by decide +kernel, by decide +kernel⟩
theorem ok__word_pair {f : Addr} {fd : FuncData} (T : Txt K mg cAE cBB cBT cBN cBR cTL cBk cPr aE0 aEV aSI aBG) (F_signs_of : FnC P w K mg base 1 "signs_of" (spF (S_signs_of))) (M_Book_word : MtC P w K mg base 3 cBk "word" (spF (S_word cBk cBN))) (F : Fun K "_word_pair" "_word_pair" st__word_pair f fd) : FnOk P w K mg base (L2.CX P w) 4 f fd ["pair", "number"] (spF (S_word_pair cBk cPr)) := by
  refine fn_ok F sc__word_pair rfl fun cdv A outer s H E hr => ?_
  have tk : Takes (cxD P w K mg base ["pair", "number"] "_word_pair" st__word_pair f cdv A outer s H E) (fun cls d _ H => E cls d H) := takes_of rfl rfl rfl rfl
  have hx := pxM tk
  have nd := sc__word_pair.nd
  refine ⟨_, (pss_one (ps_ret (pe_tup (pa_cons (pe_fn F_signs_of hr hx (pa_cons (pe_mt (pe_fld (pv 0) rfl) M_Book_word hr hx (pa_cons (pv 1) pa_nil)) pa_nil)) (pa_cons (pe_fn F_signs_of hr hx (pa_cons (pe_mt (pe_fld (pv 0) rfl) M_Book_word hr hx (pa_cons (pv 1) pa_nil)) pa_nil)) pa_nil))))), ?_⟩
  intro x
  obtain ⟨⟨⟨m, A, B⟩, n⟩, ⟨hA, hB, hm⟩, h0, h1, h2⟩ := x
  have hm : m ≤ 60 := hm
  refine .ok (ss_ret (sv_tup (ds := [SqD true (wAt A n), SqD true (wAt B n)]) (sa_ims (sv_call (S := S_signs_of) (sa_im (sv_mt (S := S_word cBk cBN) (sv_fld (sv_var rfl) rfl T.cl_cPr T.n_cPr_first) (bookF_no rfl) (sa_im (sv_var rfl) sa_nil) ((.int m, wD A), .int n) rfl (word_res h0 h1)) sa_nil) ⟨wAt A n, wAt_WI hA hm h0 h1⟩ rfl rfl) (sa_ims (sv_call (S := S_signs_of) (sa_im (sv_mt (S := S_word cBk cBN) (sv_fld (sv_var rfl) rfl T.cl_cPr T.n_cPr_second) (bookF_no rfl) (sa_im (sv_var rfl) sa_nil) ((.int m, wD B), .int n) rfl (word_res h0 h2)) sa_nil) ⟨wAt B n, wAt_WI hB hm h0 h2⟩ rfl rfl) sa_nil)) (by show 2 ≤ sizeLine; decide)))
end
end K60

namespace K60
open PySem L2 Evl Mini PyProof.Rows
section
variable {P : Program} {w : World} {K : PySem.W.Frag} {mg : Str → Option Value} {base : Heap} {cAE cBB cBT cBN cBR cTL cBk cPr aE0 aEV aSI aBG : Addr}
/-! ### step -/
def stOfD (r : PyData) : List Int × List Int := match r with
  | .tuple [.str s, .tuple es] => stOf s (es.map intD)
  | _ => ([], [])
def stepR (K : PySem.W.Frag) (cBB cBT cBN cTL : Addr) (m : Int) (F S : List (List Int)) (r num : PyData) : Rs :=
  if F.length = S.length then
    if (evenB r || isRestB r m) = true then
      if belowB num F.length = true then
        match behF (stOfD r).1 (stOfD r).2 (wAt F (intD num)) (wAt S (intD num)) with
        | none => .ok (isP K .none)
        | some p => if p.1.length + p.2.length ≤ 5000 then .ok (isP K (restP p.1 p.2)) else .bad cTL
      else .bad cBN
    else .bad cBT
  else .bad cBB
theorem word_of {b : PyData} {m : Int} (h : isWordB b m = true) : ∃ w : List Int, b = .tuple (w.map .int) ∧ 1 ≤ w.length ∧ w.length ≤ 5000 ∧ ∀ v ∈ w, 0 ≤ v ∧ v < m := by
  cases b with
  | tuple ds =>
    have h0 : (ds.all (fun e => belowB e m) && (decide (1 ≤ (ds.length : Int)) && decide ((ds.length : Int) ≤ 5000))) = true := h
    rw [Bool.and_eq_true, Bool.and_eq_true, List.all_eq_true] at h0
    obtain ⟨h1, h2, h3⟩ := h0
    have h2 := of_decide_eq_true h2
    have h3 := of_decide_eq_true h3
    have ib : ∀ e ∈ ds, ∃ i, e = .int i ∧ 0 ≤ i ∧ i < m := fun e he => by
      have := h1 e he
      cases e <;> simp [belowB] at this
      exact ⟨_, rfl, this⟩
    refine ⟨ds.map intD, ?_, by rw [List.length_map]; omega, by rw [List.length_map]; omega, fun v hv => ?_⟩
    · rw [List.map_map]
      congr 1
      conv => lhs; rw [← List.map_id ds]
      refine List.map_congr_left fun e he => ?_
      obtain ⟨i, rfl, _⟩ := ib e he
      rfl
    · obtain ⟨e, he, rfl⟩ := List.mem_map.mp hv
      obtain ⟨i, rfl, h⟩ := ib e he
      exact h
  | _ => simp [isWordB, tupB] at h
theorem intD_map (w : List Int) : (w.map PyData.int).map intD = w := by
  rw [List.map_map]
  conv => rhs; rw [← List.map_id w]
  exact List.map_congr_left fun _ _ => rfl
theorem rest_form {r : PyData} {m : Int} (hf : restFit r) (h : (evenB r || isRestB r m) = true) : ∃ (s : Str) (w : List Int), r = .tuple [.str s, .tuple (w.map .int)] ∧ PyData.strOk s = true ∧ w.length ≤ 5000 ∧ (∀ v ∈ w, 0 ≤ v ∧ v < m) ∧ stOfD r = stOf s w := by
  have key : ∃ (s : Str) (w : List Int), r = .tuple [.str s, .tuple (w.map .int)] ∧ w.length ≤ 5000 ∧ ∀ v ∈ w, 0 ≤ v ∧ v < m := by
    rw [Bool.or_eq_true] at h
    rcases h with h | h
    · unfold evenB at h
      split at h
      · rename_i a b
        rw [Bool.and_eq_true] at h
        obtain ⟨h1, h2⟩ := h
        cases a <;> simp only [evS, Bool.false_eq_true] at h1
        cases b <;> simp only [nilT, Bool.false_eq_true] at h2
        rename_i s es
        have h2 := of_decide_eq_true h2
        have : es = [] := List.eq_nil_of_length_eq_zero (by omega)
        subst this
        exact ⟨s, [], rfl, by simp, fun v hv => by cases hv⟩
      · cases h
    · unfold isRestB at h
      split at h
      · rename_i a b
        rw [Bool.and_eq_true] at h
        obtain ⟨h1, h2⟩ := h
        obtain ⟨w, rfl, _, h3, h4⟩ := word_of h2
        cases a <;> simp only [sideB, Bool.false_eq_true] at h1
        exact ⟨_, w, rfl, h3, h4⟩
      · cases h
  obtain ⟨s, w, rfl, h1, h2⟩ := key
  refine ⟨s, w, rfl, hf.1 s rfl, h1, h2, ?_⟩
  show stOf s ((w.map .int).map intD) = stOf s w
  rw [intD_map]
def S_step (K : PySem.W.Frag) (cBk cPr cBB cBT cBN cTL : Addr) : Fs := ⟨{x : (Int × List (List Int) × List (List Int)) × PyData × PyData // (GoodW x.1.2.1 x.1.1 ∧ GoodW x.1.2.2 x.1.1 ∧ x.1.1 ≤ 60) ∧ restFit x.2.1}, 3,
  fun x => [.im (isI cPr (pairF cBk x.1.1.1 (wD x.1.1.2.1) x.1.1.1 (wD x.1.1.2.2))), .im (isD x.1.2.1), .im (isD x.1.2.2)], fun _ => rfl, fun x => stepR K cBB cBT cBN cTL x.1.1.1 x.1.1.2.1 x.1.1.2.2 x.1.2.1 x.1.2.2⟩
theorem wDl (W : List (List Int)) : (wD W).length = W.length := by unfold wD; rw [List.length_map]
abbrev st_step : Stmt := top 31
theorem sc_step : FnScope ["pair", "rest", "number", "state"] ["pair", "rest", "number"] (defScope st_step) := ⟨rfl, rfl, rfl, by decide +kernel, rfl, by decide +kernel, by decide +kernel⟩
theorem ok_step {f : Addr} {fd : FuncData} (T : Txt K mg cAE cBB cBT cBN cBR cTL cBk cPr aE0 aEV aSI aBG) (F__check_books : FnC P w K mg base 2 "_check_books" (spF (S_check_books cBk cPr cBB))) (F__is_even_rest : FnC P w K mg base 1 "_is_even_rest" (spF (S_is_evenR))) (F_is_rest_ahead : FnC P w K mg base 2 "is_rest_ahead" (spF (S_is_ahead))) (F__behind : FnC P w K mg base 1 "_behind" (spF (S_behind K))) (F__state : FnC P w K mg base 1 "_state" (spF (S_state))) (M_Book_word : MtC P w K mg base 3 cBk "word" (spF (S_word cBk cBN))) (F__check_state : FnC P w K mg base 2 "_check_state" (spF (S_check_state K cTL))) (F__rest : FnC P w K mg base 1 "_rest" (spF (S_rest K))) (F : Fun K "step" "step" st_step f fd) : FnOk P w K mg base (L2.CX P w) 4 f fd ["pair", "rest", "number"] (spF (S_step K cBk cPr cBB cBT cBN cTL)) := by
  refine fn_ok F sc_step rfl fun cdv A outer s H E hr => ?_
  have tk : Takes (cxD P w K mg base ["pair", "rest", "number", "state"] "step" st_step f cdv A outer s H E) (fun cls d _ H => E cls d H) := takes_of rfl rfl rfl rfl
  have hx := pxM tk
  have nd := sc_step.nd
  refine ⟨_, (pss_cons (ps_expr (pe_fn F__check_books hr hx (pa_cons (pv 0) pa_nil)))
 (pss_cons (ps_if (PW.pt (pw_and (pt_not (pt_val (pe_fn F__is_even_rest hr hx (pa_cons (pv 1) pa_nil)))) (pw_and1 (pt_not (pt_val (pe_fn F_is_rest_ahead hr hx (pa_cons (pv 1) (pa_cons (pe_fld (pv 0) rfl) pa_nil)))))))) (pss_one (ps_rs rfl tk (pmk_err T.e_BadRest))) pss_nil)
 (pss_cons (ps_set (i := 3) nd rfl (Or.inl rfl) (pe_fn F__behind hr hx (pa_cons (pe_fn F__state hr hx (pa_cons (pv 1) pa_nil)) (pa_cons (pe_mt (pe_fld (pv 0) rfl) M_Book_word hr hx (pa_cons (pv 2) pa_nil)) (pa_cons (pe_mt (pe_fld (pv 0) rfl) M_Book_word hr hx (pa_cons (pv 2) pa_nil)) pa_nil)))))
 (pss_cons (ps_if (pt_cmpR op_isN (pv 3) pe_non (nomark _)) (pss_one (ps_ret pe_non)) pss_nil)
 (pss_cons (ps_expr (pe_fn F__check_state hr hx (pa_cons (pv 3) pa_nil)))
 (pss_one (ps_ret (pe_fn F__rest hr hx (pa_cons (pv 3) pa_nil))))))))), ?_⟩
  intro x
  obtain ⟨⟨⟨m, F, S⟩, r, num⟩, ⟨hF, hS, hm⟩, hf⟩ := x
  have hF : GoodW F m := hF
  have hS : GoodW S m := hS
  have hm : m ≤ 60 := hm
  have hf : restFit r := hf
  have hz : (sizeLine : Nat) = 16777216 := sizeLine_eq
  show Mini.Ans _ _ [.im (isI cPr (pairF cBk m (wD F) m (wD S))), .im (isD r), .im (isD num), .no] (stepR K cBB cBT cBN cTL m F S r num)
  unfold stepR
  by_cases c1 : F.length = S.length
  case neg =>
    rw [if_neg c1]
    exact .bad (ss_seqBad (ss_dropBad (sb_call (S := S_check_books cBk cPr cBB) (sa_im (sv_var rfl) sa_nil) (m, wD F, wD S) rfl (if_neg (by show ¬ (wD F).length = (wD S).length; rw [wDl, wDl]; exact c1)))))
  rw [if_pos c1]
  have s1 : ∀ {o : Out} {ts : TS}, Ss (fun _ => E) ts [.im (isI cPr (pairF cBk m (wD F) m (wD S))), .im (isD r), .im (isD num), .no] o → Ss (fun _ => E) (tSeq (tDrop (tCallS (spF (S_check_books cBk cPr cBB)) (fun _ => E) (tCons (tVar 0) tNil))) ts) [.im (isI cPr (pairF cBk m (wD F) m (wD S))), .im (isD r), .im (isD num), .no] o := fun h =>
    ss_seq (ss_drop (sv_call (S := S_check_books cBk cPr cBB) (P := isD .none) (sa_im (sv_var rfl) sa_nil) (m, wD F, wD S) rfl (if_pos (by show (wD F).length = (wD S).length; rw [wDl, wDl]; exact c1)))) h
  have t : St' (tAnd (tNot (tB (tCallS (spF S_is_evenR) (fun _ => E) (tCons (tVar 1) tNil)))) (tNot (tB (tCallS (spF S_is_ahead) (fun _ => E) (tCons (tVar 1) (tCons (tFld K (tVar 0) "letters") tNil)))))) [.im (isI cPr (pairF cBk m (wD F) m (wD S))), .im (isD r), .im (isD num), .no] (!(evenB r || isRestB r m)) :=
    st_is (st_and (st_not (st_B (sv_call (S := S_is_evenR) (sa_im (sv_var rfl) sa_nil) ⟨r, hf⟩ rfl rfl))) fun _ => st_not (st_B (sv_call (S := S_is_ahead) (sa_im (sv_var rfl) (sa_im (sv_fld (sv_var rfl) rfl T.cl_cPr T.n_cPr_letters) sa_nil)) ⟨(r, m), hf⟩ rfl rfl))) (by rw [Bool.not_or])
  by_cases c2 : (evenB r || isRestB r m) = true
  case neg =>
    rw [if_neg c2]
    have c2' : (evenB r || isRestB r m) = false := by simpa using c2
    exact .bad (s1 (ss_seqBad (ss_if1 (st_is t (by rw [c2']; rfl)) ss_rs)))
  rw [if_pos c2]
  have s2 : ∀ {o : Out} {ts ts' : TS}, Ss (fun _ => E) ts [.im (isI cPr (pairF cBk m (wD F) m (wD S))), .im (isD r), .im (isD num), .no] o → Ss (fun _ => E) (tSeq (tDrop (tCallS (spF (S_check_books cBk cPr cBB)) (fun _ => E) (tCons (tVar 0) tNil))) (tSeq (tIfS (tAnd (tNot (tB (tCallS (spF S_is_evenR) (fun _ => E) (tCons (tVar 1) tNil)))) (tNot (tB (tCallS (spF S_is_ahead) (fun _ => E) (tCons (tVar 1) (tCons (tFld K (tVar 0) "letters") tNil)))))) ts' tNext) ts)) [.im (isI cPr (pairF cBk m (wD F) m (wD S))), .im (isD r), .im (isD num), .no] o := fun h =>
    s1 (ss_seq (ss_if0 (st_is t (by rw [c2]; rfl)) ss_next) h)
  obtain ⟨s, w, rfl, hs, hw, hwm, est⟩ := rest_form hf c2
  rw [est]
  have stE : ∀ {G : Gm}, G[1]? = some (.im (isD (.tuple [.str s, .tuple (w.map .int)]))) → Sv (tCallS (spF S_state) (fun _ => E) (tCons (tVar 1) tNil)) G (isD (pairQ false (stOf s w).1 (stOf s w).2)) := fun h =>
    sv_call (S := S_state) (sa_im (sv_var h) sa_nil) ⟨(s, w), hs⟩ rfl rfl
  by_cases c3 : belowB num F.length = true
  case neg =>
    rw [if_neg c3]
    exact .bad (s2 (ss_seqBad (ss_setBad (sb_callA2 (stE rfl) (sb_mt (S := S_word cBk cBN) (sv_fld (sv_var rfl) rfl T.cl_cPr T.n_cPr_first) (bookF_no rfl) (sa_im (sv_var rfl) sa_nil) ((.int m, wD F), num) rfl (if_neg (by rw [show (((PyData.int m, wD F), num) : (PyData × List PyData) × PyData).1.2.length = F.length from wDl F]; exact c3)))))))
  rw [if_pos c3]
  obtain ⟨n, rfl⟩ : ∃ n, num = .int n := by cases num <;> first | exact ⟨_, rfl⟩ | (simp [belowB] at c3; done)
  obtain ⟨h0, h1⟩ := (belowB_int n _).mp c3
  have h2 : n < S.length := by rw [← c1]; exact h1
  show Mini.Ans _ _ _ (match behF (stOf s w).1 (stOf s w).2 (wAt F n) (wAt S n) with
        | none => .ok (isP K .none)
        | some p => if p.1.length + p.2.length ≤ 5000 then .ok (isP K (restP p.1 p.2)) else .bad cTL)
  have hsl : (stOf s w).1.length ≤ 5000 ∧ (stOf s w).2.length ≤ 5000 := by
    unfold stOf; split
    · exact ⟨Nat.zero_le _, hw⟩
    · exact ⟨hw, Nat.zero_le _⟩
  have hFw := (wAt_ok hF h0 h1).2.1
  have hSw := (wAt_ok hS h0 h2).2.1
  have beh : ∀ {G : Gm}, G[0]? = some (.im (isI cPr (pairF cBk m (wD F) m (wD S)))) → G[1]? = some (.im (isD (.tuple [.str s, .tuple (w.map .int)]))) → G[2]? = some (.im (isD (.int n))) →
      Sv (tCallS (spF (S_behind K)) (fun _ => E) (tCons (tCallS (spF S_state) (fun _ => E) (tCons (tVar 1) tNil)) (tCons (tMt cBk "word" (spF (S_word cBk cBN)) (fun _ => E) (tFld K (tVar 0) "first") (tCons (tVar 2) tNil)) (tCons (tMt cBk "word" (spF (S_word cBk cBN)) (fun _ => E) (tFld K (tVar 0) "second") (tCons (tVar 2) tNil)) tNil)))) G
        (isD (behD false (behF (stOf s w).1 (stOf s w).2 (wAt F n) (wAt S n)))) := fun e0 e1 e2 =>
    sv_call (S := S_behind K) (sa_im (stE e1) (sa_im (sv_mt (S := S_word cBk cBN) (sv_fld (sv_var e0) rfl T.cl_cPr T.n_cPr_first) (bookF_no rfl) (sa_im (sv_var e2) sa_nil) ((.int m, wD F), .int n) rfl (word_res h0 h1)) (sa_im (sv_mt (S := S_word cBk cBN) (sv_fld (sv_var e0) rfl T.cl_cPr T.n_cPr_second) (bookF_no rfl) (sa_im (sv_var e2) sa_nil) ((.int m, wD S), .int n) rfl (word_res h0 h2)) sa_nil)))
      ⟨(false, ((stOf s w).1, (stOf s w).2), wAt F n, wAt S n), ⟨Nat.le_trans hsl.1 (by decide), Nat.le_trans hsl.2 (by decide), Nat.le_trans hFw (by decide), Nat.le_trans hSw (by decide)⟩, fun h => by cases h⟩ rfl rfl
  cases hb : behF (stOf s w).1 (stOf s w).2 (wAt F n) (wAt S n) with
  | none =>
    rw [hb] at beh
    exact .ok (s2 (ss_seq (ss_set (P := isD .none) (beh rfl rfl rfl)) (ss_seqRt (ss_if1 (st_is (st_test (sv_isN (d := .none) (sv_var rfl))) rfl) (ss_ret (sv_pD sv_non))))))
  | some p =>
    rw [hb] at beh
    have hl := behF_len hb
    have hl1 : p.1.length ≤ sizeLine := Nat.le_trans hl.1 (Nat.le_trans (Nat.add_le_add hsl.1 hFw) (by decide))
    have hl2 : p.2.length ≤ sizeLine := Nat.le_trans hl.2 (Nat.le_trans (Nat.add_le_add hsl.2 hSw) (by decide))
    show Mini.Ans _ _ _ (if p.1.length + p.2.length ≤ 5000 then .ok (isP K (restP p.1 p.2)) else .bad cTL)
    have s3 : ∀ {o : Out} {ts ts' : TS}, Ss (fun _ => E) ts [.im (isI cPr (pairF cBk m (wD F) m (wD S))), .im (isD (.tuple [.str s, .tuple (w.map .int)])), .im (isD (.int n)), .im (isD (pairQ false p.1 p.2))] o → Ss (fun _ => E) (tSeq (tIfS (tTest (tOp (fun x y H Q => y = .non ∧ Q (.bl (decide (x = .non))) H) (tVar 3) (tC .non))) ts' tNext) ts) [.im (isI cPr (pairF cBk m (wD F) m (wD S))), .im (isD (.tuple [.str s, .tuple (w.map .int)])), .im (isD (.int n)), .im (isD (pairQ false p.1 p.2))] o := fun h =>
      ss_seq (ss_if0 (st_is (st_test (sv_isN (d := pairQ false p.1 p.2) (sv_var rfl))) rfl) ss_next) h
    by_cases c4 : p.1.length + p.2.length ≤ 5000
    · rw [if_pos c4]
      refine .ok (s2 (ss_seq (ss_set (P := isD (pairQ false p.1 p.2)) (beh rfl rfl rfl)) (s3 (ss_seq (ss_drop (sv_call (S := S_check_state K cTL) (P := isD .none) (sa_im (sv_pD (sv_var rfl)) sa_nil) ⟨(false, p.1, p.2), hl1, hl2⟩ rfl (if_pos c4))) (ss_ret (sv_call (S := S_rest K) (sa_im (sv_var rfl) sa_nil) ⟨(p.1, p.2), hl1, hl2⟩ rfl rfl))))))
    · rw [if_neg c4]
      exact .bad (s2 (ss_seq (ss_set (P := isD (pairQ false p.1 p.2)) (beh rfl rfl rfl)) (s3 (ss_seqBad (ss_dropBad (sb_call (S := S_check_state K cTL) (sa_im (sv_pD (sv_var rfl)) sa_nil) ⟨(false, p.1, p.2), hl1, hl2⟩ rfl (if_neg c4)))))))
end
end K60

namespace K60
open PySem L2 Evl Mini PyProof.Rows
def runQ (F S : List (List Int)) : List Int → List Int × List Int → Option (Option (List Int × List Int))
  | [], p => some (some p)
  | n :: r, p => match behF p.1 p.2 (wAt F n) (wAt S n) with
    | none => some none
    | some q => if q.1.length + q.2.length ≤ 5000 then runQ F S r q else none
theorem run_trace (F S : List (List Int)) : ∀ (row : List Int) (p0 : List Int × List Int), ∃ (N : Nat) (sq : Nat → List Int × List Int), N ≤ row.length ∧ sq 0 = p0 ∧
    (∀ i, i < N → ∃ n, row[i]? = some n ∧ behF (sq i).1 (sq i).2 (wAt F n) (wAt S n) = some (sq (i + 1)) ∧ (sq (i + 1)).1.length + (sq (i + 1)).2.length ≤ 5000) ∧
    ((N = row.length ∧ runQ F S row p0 = some (some (sq N))) ∨ ∃ n, row[N]? = some n ∧ ((behF (sq N).1 (sq N).2 (wAt F n) (wAt S n) = none ∧ runQ F S row p0 = some none) ∨
      ∃ q, behF (sq N).1 (sq N).2 (wAt F n) (wAt S n) = some q ∧ ¬ (q.1.length + q.2.length ≤ 5000) ∧ runQ F S row p0 = none))
  | [], p0 => ⟨0, fun _ => p0, Nat.le_refl _, rfl, fun i h => absurd h (Nat.not_lt_zero _), .inl ⟨rfl, rfl⟩⟩
  | n :: row, p0 => by
    cases hb : behF p0.1 p0.2 (wAt F n) (wAt S n) with
    | none => exact ⟨0, fun _ => p0, Nat.zero_le _, rfl, fun i h => absurd h (Nat.not_lt_zero _), .inr ⟨n, rfl, .inl ⟨hb, by show (match behF p0.1 p0.2 (wAt F n) (wAt S n) with | none => some none | some q => if q.1.length + q.2.length ≤ 5000 then runQ F S row q else none) = some none; rw [hb]⟩⟩⟩
    | some q =>
      by_cases c : q.1.length + q.2.length ≤ 5000
      · obtain ⟨N, sq, h1, h2, h3, h4⟩ := run_trace F S row q
        have er : runQ F S (n :: row) p0 = runQ F S row q := by
          show (match behF p0.1 p0.2 (wAt F n) (wAt S n) with | none => some none | some q => if q.1.length + q.2.length ≤ 5000 then runQ F S row q else none) = _
          rw [hb]
          show (if q.1.length + q.2.length ≤ 5000 then runQ F S row q else none) = _
          rw [if_pos c]
        refine ⟨N + 1, fun i => match i with | 0 => p0 | i + 1 => sq i, by rw [List.length_cons]; omega, rfl, fun i hi => ?_, ?_⟩
        · cases i with
          | zero => exact ⟨n, rfl, by show behF p0.1 p0.2 _ _ = some (sq 0); rw [hb, h2], by show (sq 0).1.length + (sq 0).2.length ≤ 5000; rw [h2]; exact c⟩
          | succ i => exact h3 i (by omega)
        · rw [er]
          rcases h4 with ⟨e, h⟩ | h
          · exact .inl ⟨by rw [List.length_cons, e], h⟩
          · exact .inr h
      · exact ⟨0, fun _ => p0, Nat.zero_le _, rfl, fun i h => absurd h (Nat.not_lt_zero _), .inr ⟨n, rfl, .inr ⟨q, hb, c, by
          show (match behF p0.1 p0.2 (wAt F n) (wAt S n) with | none => some none | some q => if q.1.length + q.2.length ≤ 5000 then runQ F S row q else none) = none
          rw [hb]
          show (if q.1.length + q.2.length ≤ 5000 then runQ F S row q else none) = none
          rw [if_neg c]⟩⟩⟩
def intsT (d : PyData) : List Int := match d with
  | .tuple ds => ds.map intD
  | _ => []
def rowFit (d : PyData) : Prop := match d with
  | .tuple ds => ds.length < 64
  | _ => True
def rowR (K : PySem.W.Frag) (cBB cBR cTL : Addr) (F S : List (List Int)) (row : PyData) : Rs :=
  if F.length = S.length then
    if tupB (fun e => belowB e F.length) row = true then
      match runQ F S (intsT row) ([], []) with
      | none => .bad cTL
      | some none => .ok (isP K .none)
      | some (some p) => .ok (isP K (restP p.1 p.2))
    else .bad cBR
  else .bad cBB
def wpF (F S : List (List Int)) (k : Key) : PyData := match k with
  | .inl n => pairQ true (wAt F n) (wAt S n)
  | .inr _ => .none
theorem tupB_ints {ds : List PyData} {m : Int} (h : tupB (fun e => belowB e m) (.tuple ds) = true) : ds = (ds.map intD).map .int ∧ ∀ n ∈ ds.map intD, 0 ≤ n ∧ n < m := by
  have h : (ds.all fun e => belowB e m) = true := h
  rw [List.all_eq_true] at h
  have ib : ∀ e ∈ ds, ∃ i, e = .int i ∧ 0 ≤ i ∧ i < m := fun e he => by
    have := h e he
    cases e <;> simp [belowB] at this
    exact ⟨_, rfl, this⟩
  constructor
  · rw [List.map_map]
    conv => lhs; rw [← List.map_id ds]
    refine List.map_congr_left fun e he => ?_
    obtain ⟨i, rfl, _⟩ := ib e he
    rfl
  · intro v hv
    obtain ⟨e, he, rfl⟩ := List.mem_map.mp hv
    obtain ⟨i, rfl, h⟩ := ib e he
    exact h
section
variable {P : Program} {w : World} {K : PySem.W.Frag} {mg : Str → Option Value} {base : Heap} {cAE cBB cBT cBN cBR cTL cBk cPr aE0 aEV aSI aBG : Addr}
def S_rest_of (K : PySem.W.Frag) (cBk cPr cBB cBR cTL : Addr) : Fs := ⟨{x : (Int × List (List Int) × List (List Int)) × PyData // (GoodW x.1.2.1 x.1.1 ∧ GoodW x.1.2.2 x.1.1 ∧ x.1.1 ≤ 60) ∧ rowFit x.2 ∧ Fit x.2}, 2,
  fun x => [.im (isI cPr (pairF cBk x.1.1.1 (wD x.1.1.2.1) x.1.1.1 (wD x.1.1.2.2))), .im (isD x.1.2)], fun _ => rfl, fun x => rowR K cBB cBR cTL x.1.1.2.1 x.1.1.2.2 x.1.2⟩
abbrev st_rest_of : Stmt := top 32
theorem sc_rest_of : FnScope ["pair", "row", "words", "state", "number", "first", "second"] ["pair", "row"] (defScope st_rest_of) := ⟨rfl, rfl, rfl, by decide +kernel, rfl, by decide +kernel, by decide +kernel⟩
theorem ok_rest_of {f : Addr} {fd : FuncData} (T : Txt K mg cAE cBB cBT cBN cBR cTL cBk cPr aE0 aEV aSI aBG) (F__check_books : FnC P w K mg base 2 "_check_books" (spF (S_check_books cBk cPr cBB))) (F_are_below : FnC P w K mg base 1 "are_below" (spF (S_are_below))) (F__word_pair : FnC P w K mg base 4 "_word_pair" (spF (S_word_pair cBk cPr))) (F__behind : FnC P w K mg base 1 "_behind" (spF (S_behind K))) (F__check_state : FnC P w K mg base 2 "_check_state" (spF (S_check_state K cTL))) (F__rest_of_signs : FnC P w K mg base 2 "_rest_of_signs" (spF (S_rest_signs K))) (F : Fun K "rest_of" "rest_of" st_rest_of f fd) : FnOk P w K mg base (L2.CX P w) 5 f fd ["pair", "row"] (spF (S_rest_of K cBk cPr cBB cBR cTL)) := by
  refine fn_ok F sc_rest_of rfl fun cdv A outer s H E hr => ?_
  have tk : Takes (cxD P w K mg base ["pair", "row", "words", "state", "number", "first", "second"] "rest_of" st_rest_of f cdv A outer s H E) (fun cls d _ H => E cls d H) := takes_of rfl rfl rfl rfl
  have hx := pxM tk
  have nd := sc_rest_of.nd
  refine ⟨_, (pss_cons (ps_expr (pe_fn F__check_books hr hx (pa_cons (pv 0) pa_nil)))
 (pss_cons (ps_if (pt_not (pt_val (pe_fn F_are_below hr hx (pa_cons (pv 1) (pa_cons (pe_fld (pe_fld (pv 0) rfl) rfl) pa_nil))))) (pss_one (ps_rs rfl tk (pmk_err T.e_BadRow))) pss_nil)
 (pss_cons (ps_setDc (i := 2) (own := [("number", 4)]) (g := gName 4) (tt := tYes) rfl nd rfl rfl (by rfl) (pi_list (pe_callB (cr_sortedSet rfl) (by rfl) T.no_sorted (by decide +kernel) (pa_cons (pe_setT rfl (by rfl) T.no_set (pv 1)) pa_nil))) (blkOk_by (N := ["pair", "row", "words", "state", "number", "first", "second"]) (sc := defScope st_rest_of) (by decide +kernel)) (fun _ _ _ _ _ => (pg_name (i := 4) nd rfl (Or.inl rfl))) (fun _ _ _ _ _ => pts_nil) (fun _ _ _ _ _ => (pv 4)) (fun _ _ _ _ _ => (pe_fn F__word_pair hr px0 (pa_cons (pv 0) (pa_cons (pv 4) pa_nil)))))
 (pss_cons (ps_set (i := 3) nd rfl (Or.inl rfl) (pe_gc T.c_BEGIN))
 (pss_cons (ps_for (passes_of rfl) rfl (pi_tup (pv 1)) (pg_name (i := 4) nd rfl (Or.inl rfl)) (pss_cons (ps_asg (pe_dget (Nat.lt_of_le_of_lt (Nat.add_le_add_left (show 1 ≤ 64 by decide) _) hr.units) (pv 2) (pv 4) (fun _ _ => rfl)) (pg_tup rfl (pgs_cons (pg_name (i := 5) nd rfl (Or.inl rfl)) (pgs_cons (pg_name (i := 6) nd rfl (Or.inl rfl)) pgs_nil))))
 (pss_cons (ps_set (i := 3) nd rfl (Or.inl rfl) (pe_fn F__behind hr hx (pa_cons (pv 3) (pa_cons (pv 5) (pa_cons (pv 6) pa_nil)))))
 (pss_cons (ps_if (pt_cmpR op_isN (pv 3) pe_non (nomark _)) (pss_one (ps_ret pe_non)) pss_nil)
 (pss_one (ps_expr (pe_fn F__check_state hr hx (pa_cons (pv 3) pa_nil))))))))
 (pss_one (ps_ret (pe_fn F__rest_of_signs hr hx (pa_cons (pv 3) pa_nil))))))))), ?_⟩
  intro x
  obtain ⟨⟨⟨m, F, S⟩, row⟩, ⟨hF, hS, hm⟩, hf, hf2⟩ := x
  have hF : GoodW F m := hF
  have hS : GoodW S m := hS
  have hm : m ≤ 60 := hm
  have hf : rowFit row := hf
  have hf2 : Fit row := hf2
  have hz : (sizeLine : Nat) = 16777216 := sizeLine_eq
  let Pr : Sl := .im (isI cPr (pairF cBk m (wD F) m (wD S)))
  show Mini.Ans _ _ [Pr, .im (isD row), .no, .no, .no, .no, .no] (rowR K cBB cBR cTL F S row)
  unfold rowR
  by_cases c1 : F.length = S.length
  case neg =>
    rw [if_neg c1]
    exact .bad (ss_seqBad (ss_dropBad (sb_call (S := S_check_books cBk cPr cBB) (sa_im (sv_var rfl) sa_nil) (m, wD F, wD S) rfl (if_neg (by show ¬ (wD F).length = (wD S).length; rw [wDl, wDl]; exact c1)))))
  rw [if_pos c1]
  have s1 : ∀ {o : Out} {ts : TS}, Ss (fun _ => E) ts [Pr, .im (isD row), .no, .no, .no, .no, .no] o → Ss (fun _ => E) (tSeq (tDrop (tCallS (spF (S_check_books cBk cPr cBB)) (fun _ => E) (tCons (tVar 0) tNil))) ts) [Pr, .im (isD row), .no, .no, .no, .no, .no] o := fun h =>
    ss_seq (ss_drop (sv_call (S := S_check_books cBk cPr cBB) (P := isD .none) (sa_im (sv_var rfl) sa_nil) (m, wD F, wD S) rfl (if_pos (by show (wD F).length = (wD S).length; rw [wDl, wDl]; exact c1)))) h
  have t : St' (tNot (tB (tCallS (spF S_are_below) (fun _ => E) (tCons (tVar 1) (tCons (tFld K (tFld K (tVar 0) "first") "size") tNil))))) [Pr, .im (isD row), .no, .no, .no, .no, .no] (!tupB (fun e => belowB e F.length) row) :=
    st_not (st_B (sv_call (S := S_are_below) (sa_im (sv_var rfl) (sa_im (sv_is (sv_fld (sv_fld (sv_var rfl) rfl T.cl_cPr T.n_cPr_first) rfl T.cl_cBk T.n_cBk_size) (by rw [wDl])) sa_nil)) ⟨(row, F.length), hf2⟩ rfl rfl))
  by_cases c2 : tupB (fun e => belowB e F.length) row = true
  case neg =>
    rw [if_neg c2]
    have c2' : tupB (fun e => belowB e F.length) row = false := by simpa using c2
    exact .bad (s1 (ss_seqBad (ss_if1 (st_is t (by rw [c2']; rfl)) ss_rs)))
  rw [if_pos c2]
  obtain ⟨ds, rfl⟩ : ∃ ds, row = .tuple ds := by cases row <;> first | exact ⟨_, rfl⟩ | (simp [tupB] at c2; done)
  obtain ⟨eds, hin⟩ := tupB_ints c2
  have hf : ds.length < 64 := hf
  show Mini.Ans _ _ _ (match runQ F S (ds.map intD) ([], []) with
      | none => .bad cTL
      | some none => .ok (isP K .none)
      | some (some p) => .ok (isP K (restP p.1 p.2)))
  have hlen : (ds.map intD).length = ds.length := List.length_map _
  generalize ds.map intD = ns at eds hin hlen ⊢
  subst eds
  have hl64 : ns.length < 64 := by rw [hlen]; exact hf
  clear hlen hf
  obtain ⟨N, sq, hN, h0, hstep, hend⟩ := run_trace F S ns ([], [])
  have wF : ∀ n ∈ ns, WI (wAt F n) := fun n hn => wAt_WI hF hm (hin n hn).1 (hin n hn).2
  have wS : ∀ n ∈ ns, WI (wAt S n) := fun n hn => wAt_WI hS hm (hin n hn).1 (by rw [← c1]; exact (hin n hn).2)
  have inv : ∀ i, i ≤ N → WI (sq i).1 ∧ WI (sq i).2 := fun i => by
    induction i with
    | zero => intro _; rw [h0]; exact ⟨⟨fun v hv => (by cases hv), Nat.zero_le _⟩, ⟨fun v hv => (by cases hv), Nat.zero_le _⟩⟩
    | succ i ih =>
      intro hi
      obtain ⟨n, hn, hb, hl⟩ := hstep i (by omega)
      have hi' := ih (by omega)
      have hn := List.mem_of_getElem? hn
      have r := behF_in hb hi'.1.1 hi'.2.1 (wF n hn).1 (wS n hn).1
      exact ⟨⟨r.1, by omega⟩, ⟨r.2, by omega⟩⟩
  let Wd : Sl := .im (isDf ((srt ns).map Sum.inl) (wpF F S))
  let G0 : Nat → Gm := fun i => [Pr, .im (isD (.tuple (ns.map .int))), Wd, .im (isP K (pairQ true (sq i).1 (sq i).2)), .no, .no, .no]
  have beh : ∀ (i : Nat) (n : Int) {G : Gm}, i ≤ N → n ∈ ns → G[3]? = some (.im (isP K (pairQ true (sq i).1 (sq i).2))) → G[5]? = some (.im (isD (SqD true (wAt F n)))) → G[6]? = some (.im (isD (SqD true (wAt S n)))) →
      Sv (tCallS (spF (S_behind K)) (fun _ => E) (tCons (tVar 3) (tCons (tVar 5) (tCons (tVar 6) tNil)))) G (isD (behD true (behF (sq i).1 (sq i).2 (wAt F n) (wAt S n)))) := fun i n {G} hi hn e3 e5 e6 =>
    sv_call (S := S_behind K) (sa_im (P := stT K true (sq i).1 (sq i).2) (sv_var e3) (sa_im (sv_var e5) (sa_im (sv_var e6) sa_nil))) ⟨(true, ((sq i).1, (sq i).2), wAt F n, wAt S n), ⟨Nat.le_trans (inv i hi).1.2 (by decide), Nat.le_trans (inv i hi).2.2 (by decide), Nat.le_trans (wF n hn).2 (by decide), Nat.le_trans (wS n hn).2 (by decide)⟩, fun _ => ⟨(inv i hi).1.1, (inv i hi).2.1, (wF n hn).1, (wS n hn).1⟩⟩ rfl rfl
  have unp : ∀ (n : Int) {x : Sl}, n ∈ ns → Ss (fun _ => E) (tAsg (tDGet (tVar 2) (tVar 4)) (gTup K 2 (gCons (gName 5) (gCons (gName 6) gNil)))) [Pr, .im (isD (.tuple (ns.map .int))), Wd, x, .im (isD (.int n)), .no, .no] (.nx [Pr, .im (isD (.tuple (ns.map .int))), Wd, x, .im (isD (.int n)), .im (isD (SqD true (wAt F n))), .im (isD (SqD true (wAt S n)))]) := fun n {x} hn =>
    ss_unpT2 (d1 := SqD true (wAt F n)) (d2 := SqD true (wAt S n)) (sv_dgetF (ks := (srt ns).map Sum.inl) (f := wpF F S) (k := .inl n) (sv_var rfl) (sv_var rfl) (List.mem_map.mpr ⟨n, srt_mem.mpr hn, rfl⟩))
  -- the dict of words, and the first state
  have s2 : ∀ {o : Out} {ts ts' : TS}, Ss (fun _ => E) ts (G0 0) o → Ss (fun _ => E) (tSeq (tDrop (tCallS (spF (S_check_books cBk cPr cBB)) (fun _ => E) (tCons (tVar 0) tNil))) (tSeq (tIfS (tNot (tB (tCallS (spF S_are_below) (fun _ => E) (tCons (tVar 1) (tCons (tFld K (tFld K (tVar 0) "first") "size") tNil))))) ts' tNext)
      (tSeq (tAsg (tDc (iList K (tCB (rSortedSet w) (tCons (tSetT w K (tVar 1)) tNil))) (gName 4) tYes (tVar 4) (tCallS (spF (S_word_pair cBk cPr)) (fun _ => E) (tCons (tVar 0) (tCons (tVar 4) tNil))) [4]) (gName 2)) (tSeq (tAsg (tC (.ref aBG)) (gName 3)) ts)))) [Pr, .im (isD (.tuple (ns.map .int))), .no, .no, .no, .no, .no] o := fun h => by
    refine s1 (ss_seq (ss_if0 (st_is t (by rw [c2]; rfl)) ss_next) (ss_seq (ss_setDcL (ns := srt ns) (f := wpF F S) (rl_svl (svl_sortSet (ns := ns) (sv_var rfl) hl64)) (srt_nodup ns) (Nat.le_of_ble_eq_true rfl) (Nat.le_of_ble_eq_true rfl) (by have := srt_len ns; omega) fun k hk => ?_) (ss_seq (ss_set (P := isP K (pairQ true (sq 0).1 (sq 0).2)) ?_) h)))
    · have hk := srt_mem.mp hk
      exact sv_call (S := S_word_pair cBk cPr) (sa_im (sv_var rfl) (sa_im (sv_var rfl) sa_nil)) ⟨((m, F, S), k), ⟨hF, hS, hm⟩, (hin k hk).1, (hin k hk).2, by show k < (S.length : Int); rw [← c1]; exact (hin k hk).2⟩ rfl rfl
    · rw [h0]
      have e : sg [] = "" := by decide +kernel
      show Sv _ _ (isP K (.tuple [.str (sg []), .str (sg [])]))
      rw [e]
      exact sv_pK fun B => .tup (.inr T.kt_aBG.kt) (.cons (.str _) (.cons (.str _) .nil))
  have turn : ∀ i d, (ns.map PyData.int)[i]? = some d → i < N → Mini.Turn (fun _ => E) (tSeq (tAsg (tDGet (tVar 2) (tVar 4)) (gTup K 2 (gCons (gName 5) (gCons (gName 6) gNil)))) (tSeq (tAsg (tCallS (spF (S_behind K)) (fun _ => E) (tCons (tVar 3) (tCons (tVar 5) (tCons (tVar 6) tNil)))) (gName 3)) (tSeq (tIfS (tTest (tOp (fun x y H Q => y = .non ∧ Q (.bl (decide (x = .non))) H) (tVar 3) (tC .non))) (tRet (tC .non)) tNext) (tDrop (tCallS (spF (S_check_state K cTL)) (fun _ => E) (tCons (tVar 3) tNil)))))) ((G0 i).set 4 (.im (isD d))) (G0 (i + 1)) := fun i d hd hi => by
    obtain ⟨n, hn, hb, hl⟩ := hstep i hi
    rw [List.getElem?_map, hn] at hd
    obtain rfl : PyData.int n = d := Option.some.inj hd
    have hn := List.mem_of_getElem? hn
    have hbe := beh i n (by omega) hn (G := [Pr, .im (isD (.tuple (ns.map .int))), Wd, .im (isP K (pairQ true (sq i).1 (sq i).2)), .im (isD (.int n)), .im (isD (SqD true (wAt F n))), .im (isD (SqD true (wAt S n)))]) rfl rfl rfl
    rw [hb] at hbe
    have iv := inv (i + 1) (by omega)
    refine .inl (ss_nxLe (ss_seq (unp n hn) (ss_seq (ss_set (P := isP K (pairQ true (sq (i + 1)).1 (sq (i + 1)).2)) (sv_pD hbe)) (ss_seq (ss_if0 (st_is (st_test (sv_isNP (ds := [SqD true (sq (i + 1)).1, SqD true (sq (i + 1)).2]) (sv_var rfl))) rfl) ss_next) (ss_drop (sv_call (S := S_check_state K cTL) (P := isD .none) (sa_im (sv_var rfl) sa_nil) ⟨(true, (sq (i + 1)).1, (sq (i + 1)).2), Nat.le_trans iv.1.2 (by decide), Nat.le_trans iv.2.2 (by decide)⟩ rfl (if_pos hl)))))) (by repeat first | exact Le.nil | refine Le.eq ?_ | refine Le.no ?_))
  rcases hend with ⟨eN, er⟩ | ⟨n, hn, hcase⟩
  · rw [er]
    have iv := inv N (Nat.le_refl _)
    refine .ok (s2 (ss_seq (ss_forT (K := K) (ds := ns.map .int) (sv_var rfl) G0 N (by rw [List.length_map]; exact hN) (Le.refl _) (fun _ _ => Nat.le_of_ble_eq_true rfl) turn (.inl ⟨by rw [List.length_map]; exact eN, rfl⟩)) (ss_ret ?_)))
    exact sv_call (S := S_rest_signs K) (sa_im (sv_var rfl) sa_nil) ⟨((sq N).1, (sq N).2), iv.1, iv.2⟩ rfl rfl
  · have hNl : N < ns.length := (List.getElem?_eq_some_iff.mp hn).1
    have hd : (ns.map PyData.int).getD N .none = .int n := by rw [List.getD_eq_getElem?_getD, List.getElem?_map, hn]; rfl
    have hn := List.mem_of_getElem? hn
    have hbe := beh N n (Nat.le_refl _) hn (G := [Pr, .im (isD (.tuple (ns.map .int))), Wd, .im (isP K (pairQ true (sq N).1 (sq N).2)), .im (isD (.int n)), .im (isD (SqD true (wAt F n))), .im (isD (SqD true (wAt S n)))]) rfl rfl rfl
    rcases hcase with ⟨hb, er⟩ | ⟨q, hb, hl, er⟩
    · rw [er]
      rw [hb] at hbe
      refine .ok (s2 (ss_seqRt (ss_forT (K := K) (ds := ns.map .int) (sv_var rfl) G0 N (by rw [List.length_map]; exact hN) (Le.refl _) (fun _ _ => Nat.le_of_ble_eq_true rfl) turn (.inr ⟨by rw [List.length_map]; exact hNl, .rt (isP K .none), ?_, .rt⟩))))
      show Ss _ _ [Pr, .im (isD (.tuple (ns.map .int))), Wd, .im (isP K (pairQ true (sq N).1 (sq N).2)), .im (isD ((ns.map PyData.int).getD N .none)), .no, .no] _
      rw [hd]
      exact ss_seq (unp n hn) (ss_seq (ss_set (P := isD .none) hbe) (ss_seqRt (ss_if1 (st_is (st_test (sv_isN (d := .none) (sv_var rfl))) rfl) (ss_ret (sv_pD sv_non)))))
    · rw [er]
      rw [hb] at hbe
      have hq := behF_len hb
      have iv := inv N (Nat.le_refl _)
      have z1 : q.1.length ≤ sizeLine := Nat.le_trans hq.1 (Nat.le_trans (Nat.add_le_add iv.1.2 (wF n hn).2) (by decide))
      have z2 : q.2.length ≤ sizeLine := Nat.le_trans hq.2 (Nat.le_trans (Nat.add_le_add iv.2.2 (wS n hn).2) (by decide))
      refine .bad (s2 (ss_seqBad (ss_forT (K := K) (ds := ns.map .int) (sv_var rfl) G0 N (by rw [List.length_map]; exact hN) (Le.refl _) (fun _ _ => Nat.le_of_ble_eq_true rfl) turn (.inr ⟨by rw [List.length_map]; exact hNl, .bad cTL [Pr, .im (isD (.tuple (ns.map .int))), Wd, .im (isP K (pairQ true q.1 q.2)), .im (isD (.int n)), .im (isD (SqD true (wAt F n))), .im (isD (SqD true (wAt S n)))], ?_, .bad⟩))))
      show Ss _ _ [Pr, .im (isD (.tuple (ns.map .int))), Wd, .im (isP K (pairQ true (sq N).1 (sq N).2)), .im (isD ((ns.map PyData.int).getD N .none)), .no, .no] _
      rw [hd]
      exact ss_seq (unp n hn) (ss_seq (ss_set (P := isP K (pairQ true q.1 q.2)) (sv_pD hbe)) (ss_seq (ss_if0 (st_is (st_test (sv_isNP (ds := [SqD true q.1, SqD true q.2]) (sv_var rfl))) rfl) ss_next) (ss_dropBad (sb_call (S := S_check_state K cTL) (sa_im (sv_var rfl) sa_nil) ⟨(true, q.1, q.2), z1, z2⟩ rfl (if_neg hl)))))
end
end K60

namespace K60
open PySem L2 Evl Mini PyProof.Rows
section
variable {P : Program} {w : World} {K : PySem.W.Frag} {mg : Str → Option Value} {base : Heap} {cAE cBB cBT cBN cBR cTL cBk cPr aE0 aEV aSI aBG : Addr}
/-! ### _law_equal, of a thing and itself -/
def Q_no : PyData → Prop := fun _ => False
def Q_up (Q : PyData → Prop) (d : PyData) : Prop := AtomP d ∨ ∃ ds : List PyData, (d = .tuple ds ∨ d = .list ds) ∧ ds.length < 1000000 ∧ ∀ e ∈ ds, Q e
def S_eqP (K : PySem.W.Frag) (Q : PyData → Prop) : Fs := ⟨{d : PyData // Q d}, 2, fun x => [.im (isP K x.1), .im (isD x.1)], fun _ => rfl, fun _ => .ok (isD (.bool true))⟩

abbrev st_eq_no : Stmt := top 50
theorem ok_eq_no {f : Addr} {fd : FuncData} (T : Txt K mg cAE cBB cBT cBN cBR cTL cBk cPr aE0 aEV aSI aBG) (F : Fun K "_law_equal" "_law_equal" st_eq_no f fd) : FnOk P w K mg base (L2.CX P w) 1 f fd ["actual", "due"] (spF (S_eqP K Q_no)) := ⟨fun vs H Q E h => by obtain ⟨x, _⟩ := h; exact x.2.elim, fun A outer s H args us vs Q E hr e b r h => by obtain ⟨x, _⟩ := h; exact x.2.elim⟩
abbrev st_eq0 : Stmt := top 50
theorem sc_eq0 : FnScope ["actual", "due", "k"] ["actual", "due"] (defScope st_eq0) := ⟨rfl, rfl, rfl, by decide +kernel, rfl, by decide +kernel, by decide +kernel⟩
theorem ok_eq0 {f : Addr} {fd : FuncData} (T : Txt K mg cAE cBB cBT cBN cBR cTL cBk cPr aE0 aEV aSI aBG) (F__law_equal : FnC P w K mg base 1 "_law_equal" (spF (S_eqP K Q_no))) (F : Fun K "_law_equal" "_law_equal" st_eq0 f fd) : FnOk P w K mg base (L2.CX P w) 2 f fd ["actual", "due"] (spF (S_eqP K (Q_up Q_no))) := by
  refine fn_ok F sc_eq0 rfl fun cdv A outer s H E hr => ?_
  have tk : Takes (cxD P w K mg base ["actual", "due", "k"] "_law_equal" st_eq0 f cdv A outer s H E) (fun cls d _ H => E cls d H) := takes_of rfl rfl rfl rfl
  have hx := pxM tk
  have nd := sc_eq0.nd
  refine ⟨_, (pss_cons (ps_if (pt_cmpR op_isN (pv 1) pe_non (nomark _)) (pss_one (ps_ret (pe_cmpR op_isN (pv 0) pe_non (nomark _)))) pss_nil)
 (pss_cons (ps_if (PW.pt (pw_or (pt_cmpR Mini.op_isBl2 (pv 1) pe_bl (nomark _)) (pw_or1 (pt_cmpR Mini.op_isBl2 (pv 1) pe_bl (nomark _))))) (pss_one (ps_ret (pe_and (pe_callB call_isi (by rfl) T.no_isinstance (by decide +kernel) (pa_cons (pv 0) (pa_cons (pe_bltn (by rfl) T.no_bool (by decide +kernel) (v := .ty "bool") rfl) pa_nil))) (pe_one (pe_cmpR (op_eqD hr.units) (pv 0) (pv 1) (nomark _)))))) pss_nil)
 (pss_cons (ps_if (pt_val (pe_callB call_isi (by rfl) T.no_isinstance (by decide +kernel) (pa_cons (pv 1) (pa_cons (pe_bltn (by rfl) T.no_int (by decide +kernel) (v := .ty "int") rfl) pa_nil)))) (pss_one (ps_ret (pe_and (pe_callB call_isi (by rfl) T.no_isinstance (by decide +kernel) (pa_cons (pv 0) (pa_cons (pe_bltn (by rfl) T.no_int (by decide +kernel) (v := .ty "int") rfl) pa_nil))) (pe_and (pe_not (pe_callB call_isi (by rfl) T.no_isinstance (by decide +kernel) (pa_cons (pv 0) (pa_cons (pe_bltn (by rfl) T.no_bool (by decide +kernel) (v := .ty "bool") rfl) pa_nil)))) (pe_one (pe_cmpR (op_eqD hr.units) (pv 0) (pv 1) (nomark _))))))) pss_nil)
 (pss_cons (ps_if (pt_val (pe_callB call_isi (by rfl) T.no_isinstance (by decide +kernel) (pa_cons (pv 1) (pa_cons (pe_bltn (by rfl) T.no_str (by decide +kernel) (v := .ty "str") rfl) pa_nil)))) (pss_one (ps_ret (pe_and (pe_callB call_isi (by rfl) T.no_isinstance (by decide +kernel) (pa_cons (pv 0) (pa_cons (pe_bltn (by rfl) T.no_str (by decide +kernel) (v := .ty "str") rfl) pa_nil))) (pe_one (pe_cmpR (op_eqD hr.units) (pv 0) (pv 1) (nomark _)))))) pss_nil)
 (pss_cons (ps_if (PW.pt (pw_or (PW.pt (pw_and (pt_val (pe_callB call_isi (by rfl) T.no_isinstance (by decide +kernel) (pa_cons (pv 1) (pa_cons (pe_bltn (by rfl) T.no_list (by decide +kernel) (v := .ty "list") rfl) pa_nil)))) (pw_and1 (pt_not (pt_val (pe_callB call_isi (by rfl) T.no_isinstance (by decide +kernel) (pa_cons (pv 0) (pa_cons (pe_bltn (by rfl) T.no_list (by decide +kernel) (v := .ty "list") rfl) pa_nil)))))))) (pw_or1 (PW.pt (pw_and (pt_val (pe_callB call_isi (by rfl) T.no_isinstance (by decide +kernel) (pa_cons (pv 1) (pa_cons (pe_bltn (by rfl) T.no_tuple (by decide +kernel) (v := .ty "tuple") rfl) pa_nil)))) (pw_and1 (pt_not (pt_val (pe_callB call_isi (by rfl) T.no_isinstance (by decide +kernel) (pa_cons (pv 0) (pa_cons (pe_bltn (by rfl) T.no_tuple (by decide +kernel) (v := .ty "tuple") rfl) pa_nil))))))))))) (pss_one (ps_ret pe_bl)) pss_nil)
 (pss_one (ps_ret (pe_and (pe_cmpR (op_eqD hr.units) (pe_callB call_len (by rfl) T.no_len (by decide +kernel) (pa_cons (pv 0) pa_nil)) (pe_callB call_len (by rfl) T.no_len (by decide +kernel) (pa_cons (pv 1) pa_nil)) (nomark _)) (pe_one (pe_callB (cr_all rfl) (by rfl) T.no_all (by decide +kernel) (pa_cons (pe_lc (own := [("k", 2)]) (g := gName 2) (tt := tYes) rfl nd (pi_range1 (by rfl) T.no_range (pa_cons (pe_callB call_len (by rfl) T.no_len (by decide +kernel) (pa_cons (pv 1) pa_nil)) pa_nil)) (blkOk_by (N := ["actual", "due", "k"]) (sc := defScope st_eq0) (by decide +kernel)) (fun _ _ _ _ _ => pg_name (i := 2) nd rfl (Or.inl rfl)) (fun _ _ _ _ _ => pts_nil) (fun _ _ _ _ _ => (pe_fn F__law_equal hr px0 (pa_cons (pe_ix (r := rIx K) ix_seq (pv 0) (pv 2) (fun _ _ => rfl)) (pa_cons (pe_ix (r := rIx K) ix_seq (pv 1) (pv 2) (fun _ _ => rfl)) pa_nil))))) pa_nil))))))))))), ?_⟩
  intro x
  obtain ⟨d, hd⟩ := x
  show Mini.Ans _ _ [.im (isP K d), .im (isD d), .no] (.ok (isD (.bool true)))
  have sh : ∀ d, AtomP d → SeqAt.shaped d = true := fun d h => by
    cases d with
    | str s =>
      unfold SeqAt.shaped
      rw [Bool.and_eq_true]
      exact ⟨by rw [PyData.canLay0]; exact h, decide_eq_true (by rw [PyData.depth]; omega)⟩
    | none => rfl
    | bool b => exact shapedB b
    | int i => exact shapedI i
    | _ => exact absurd h (by simp [AtomP])
  have eqA : ∀ {G : Gm} {d : PyData}, AtomP d → G[0]? = some (.im (isP K d)) → G[1]? = some (.im (isD d)) → Sv (tOp (rEqD K) (tVar 0) (tVar 1)) G (isD (.bool true)) := fun {G d} h h0 h1 =>
    sv_is (sv_eq (sv_pA h (sv_var h0)) (sv_var h1) (sh d h) (sh d h)) (by rw [SeqAt.eqv_refl d (SeqAt.canLay_of_shaped (sh d h))])
  have tN : ∀ {d : PyData} {b : Bool}, noneB d = b → St' (tTest (tOp (fun x y H Q => y = .non ∧ Q (.bl (decide (x = .non))) H) (tVar 1) (tC .non))) [.im (isP K d), .im (isD d), .no] b := fun {d b} h => st_is (st_test (sv_isNb (d := d) (sv_var rfl))) h
  have tT : ∀ {d : PyData} {b : Bool}, dBool d = b → St' (tOr (tTest (tOp rIsBl2 (tVar 1) (tC (.bl true)))) (tTest (tOp rIsBl2 (tVar 1) (tC (.bl false))))) [.im (isP K d), .im (isD d), .no] b := fun {d b} h => st_is (st_or (b := blB d true) (c := blB d false) (st_test (sv_isBl2 (sv_var rfl))) fun _ => st_test (sv_isBl2 (sv_var rfl))) (by rw [← h]; cases d <;> first | rfl | (rename_i x; cases x <;> rfl))
  have tI : ∀ {d : PyData} {b : Bool}, dInt d = b → St' (tB (tCB (rIsi K) (tCons (tVar 1) (tCons (tC (.ty "int")) tNil)))) [.im (isP K d), .im (isD d), .no] b := fun {d b} h => st_is (st_B (sv_isInt (d := d) (sv_var rfl))) h
  have tS : ∀ {d : PyData} {b : Bool}, dStr d = b → St' (tB (tCB (rIsi K) (tCons (tVar 1) (tCons (tC (.ty "str")) tNil)))) [.im (isP K d), .im (isD d), .no] b := fun {d b} h => st_is (st_B (sv_isStr (d := d) (sv_var rfl))) h
  rcases hd with hd | ⟨ds, hdd, hl, hq⟩
  · refine .ok ?_
    cases d with
    | none => exact ss_seqRt (ss_if1 (tN rfl) (ss_ret (sv_is (sv_isN (d := .none) (sv_pA hd (sv_var rfl))) rfl)))
    | bool b =>
      refine ss_seq (ss_if0 (tN rfl) ss_next) (ss_seqRt (ss_if1 (tT rfl) (ss_ret (sv_is (sv_and (b := true) (c := true) (sv_isiP (d := .bool b) (sv_var rfl) sv_val (kit_bool _)) fun _ => eqA hd rfl rfl) rfl))))
    | int i =>
      refine ss_seq (ss_if0 (tN rfl) ss_next) (ss_seq (ss_if0 (tT rfl) ss_next) (ss_seqRt (ss_if1 (tI rfl) (ss_ret (sv_is (sv_and (b := true) (c := true) (sv_isiP (d := .int i) (sv_var rfl) sv_val (kit_int _)) fun _ => sv_is (sv_and (b := true) (c := true) (sv_is (sv_not (sv_isiP (d := .int i) (sv_var rfl) sv_val (kit_bool _))) rfl) fun _ => eqA hd rfl rfl) rfl) rfl)))))
    | str s =>
      refine ss_seq (ss_if0 (tN rfl) ss_next) (ss_seq (ss_if0 (tT rfl) ss_next) (ss_seq (ss_if0 (tI rfl) ss_next) (ss_seqRt (ss_if1 (tS rfl) (ss_ret (sv_is (sv_and (b := true) (c := true) (sv_isiP (d := .str s) (sv_var rfl) sv_val (kit_str _)) fun _ => eqA hd rfl rfl) rfl))))))
    | _ => exact absurd hd (by simp [AtomP])
  have hz : (sizeLine : Nat) = 16777216 := sizeLine_eq
  have got : ∀ i, (hi : i < ds.length) → atI ds (i : Int) = some ds[i] := fun i hi => atI_nat (List.getElem?_eq_getElem hi)
  have allT : PyData.bool (true && ((List.range ds.length).map fun _ => true).all id) = .bool true := by
    congr 1
    rw [List.all_map]
    simp
  rcases hdd with rfl | rfl
  · refine .ok (ss_seq (ss_if0 (tN rfl) ss_next) (ss_seq (ss_if0 (tT rfl) ss_next) (ss_seq (ss_if0 (tI rfl) ss_next) (ss_seq (ss_if0 (tS rfl) ss_next) (ss_seq (ss_if0 (st_is (st_or (b := false) (c := false) (st_is (st_and (b := false) (c := true) (st_is (st_B (sv_isLst (d := .tuple ds) (sv_var rfl))) rfl) fun z => (by cases z)) rfl) fun _ => st_is (st_and (b := true) (c := false) (st_is (st_B (sv_isTup (d := .tuple ds) (sv_var rfl))) rfl) fun _ => st_is (st_not (st_B (sv_isTupP (d := .tuple ds) (sv_var rfl)))) rfl) rfl) rfl) ss_next) (ss_ret ?_))))))
    refine sv_is (sv_and (b := true) (c := ((List.range ds.length).map fun _ => true).all id) (sv_is (sv_eqI (sv_lenP (ds := ds) (sv_var rfl)) (sv_lenT (ds := ds) (sv_var rfl))) (by simp)) fun _ => sv_all (bs := (List.range ds.length).map fun _ => true) (rl_svl (svl_is (svl_lcMapR (j := 2) (n := (ds.length : Nat)) (sv_lenT (ds := ds) (sv_var rfl)) (fun _ => PyData.bool true) (Nat.le_of_ble_eq_true rfl) (by omega) (by omega) fun i hi => ?_) ?_))) allT
    · rw [Int.toNat_natCast] at hi
      exact sv_call (S := S_eqP K Q_no) (sa_im (sv_ixP (sv_var rfl) (sv_var rfl) (got i hi)) (sa_im (sv_ixT (sv_var rfl) (sv_var rfl) (got i hi)) sa_nil)) ⟨ds[i], hq _ (List.getElem_mem hi)⟩ rfl rfl
    · rw [Int.toNat_natCast, List.map_map]; rfl
  · refine .ok (ss_seq (ss_if0 (tN rfl) ss_next) (ss_seq (ss_if0 (tT rfl) ss_next) (ss_seq (ss_if0 (tI rfl) ss_next) (ss_seq (ss_if0 (tS rfl) ss_next) (ss_seq (ss_if0 (st_is (st_or (b := false) (c := false) (st_is (st_and (b := true) (c := false) (st_is (st_B (sv_isLst (d := .list ds) (sv_var rfl))) rfl) fun _ => st_is (st_not (st_B (sv_isLstP (d := .list ds) (sv_var rfl)))) rfl) rfl) fun _ => st_is (st_and (b := false) (c := true) (st_is (st_B (sv_isTup (d := .list ds) (sv_var rfl))) rfl) fun z => (by cases z)) rfl) rfl) ss_next) (ss_ret ?_))))))
    refine sv_is (sv_and (b := true) (c := ((List.range ds.length).map fun _ => true).all id) (sv_is (sv_eqI (sv_lenPL (ds := ds) (sv_var rfl)) (sv_lenL (ds := ds) (rl_sv (sv_var rfl)))) (by simp)) fun _ => sv_all (bs := (List.range ds.length).map fun _ => true) (rl_svl (svl_is (svl_lcMapR (j := 2) (n := (ds.length : Nat)) (sv_lenL (ds := ds) (rl_sv (sv_var rfl))) (fun _ => PyData.bool true) (Nat.le_of_ble_eq_true rfl) (by omega) (by omega) fun i hi => ?_) ?_))) allT
    · rw [Int.toNat_natCast] at hi
      exact sv_call (S := S_eqP K Q_no) (sa_im (sv_ixPL (sv_var rfl) (sv_var rfl) (got i hi)) (sa_im (sv_ixL (rl_sv (sv_var rfl)) (sv_var rfl) (got i hi)) sa_nil)) ⟨ds[i], hq _ (List.getElem_mem hi)⟩ rfl rfl
    · rw [Int.toNat_natCast, List.map_map]; rfl
abbrev st_eq1 : Stmt := top 50
theorem sc_eq1 : FnScope ["actual", "due", "k"] ["actual", "due"] (defScope st_eq1) := ⟨rfl, rfl, rfl, by decide +kernel, rfl, by decide +kernel, by decide +kernel⟩
theorem ok_eq1 {f : Addr} {fd : FuncData} (T : Txt K mg cAE cBB cBT cBN cBR cTL cBk cPr aE0 aEV aSI aBG) (F__law_equal : FnC P w K mg base 2 "_law_equal" (spF (S_eqP K (Q_up Q_no)))) (F : Fun K "_law_equal" "_law_equal" st_eq1 f fd) : FnOk P w K mg base (L2.CX P w) 3 f fd ["actual", "due"] (spF (S_eqP K (Q_up (Q_up Q_no)))) := by
  refine fn_ok F sc_eq1 rfl fun cdv A outer s H E hr => ?_
  have tk : Takes (cxD P w K mg base ["actual", "due", "k"] "_law_equal" st_eq1 f cdv A outer s H E) (fun cls d _ H => E cls d H) := takes_of rfl rfl rfl rfl
  have hx := pxM tk
  have nd := sc_eq1.nd
  refine ⟨_, (pss_cons (ps_if (pt_cmpR op_isN (pv 1) pe_non (nomark _)) (pss_one (ps_ret (pe_cmpR op_isN (pv 0) pe_non (nomark _)))) pss_nil)
 (pss_cons (ps_if (PW.pt (pw_or (pt_cmpR Mini.op_isBl2 (pv 1) pe_bl (nomark _)) (pw_or1 (pt_cmpR Mini.op_isBl2 (pv 1) pe_bl (nomark _))))) (pss_one (ps_ret (pe_and (pe_callB call_isi (by rfl) T.no_isinstance (by decide +kernel) (pa_cons (pv 0) (pa_cons (pe_bltn (by rfl) T.no_bool (by decide +kernel) (v := .ty "bool") rfl) pa_nil))) (pe_one (pe_cmpR (op_eqD hr.units) (pv 0) (pv 1) (nomark _)))))) pss_nil)
 (pss_cons (ps_if (pt_val (pe_callB call_isi (by rfl) T.no_isinstance (by decide +kernel) (pa_cons (pv 1) (pa_cons (pe_bltn (by rfl) T.no_int (by decide +kernel) (v := .ty "int") rfl) pa_nil)))) (pss_one (ps_ret (pe_and (pe_callB call_isi (by rfl) T.no_isinstance (by decide +kernel) (pa_cons (pv 0) (pa_cons (pe_bltn (by rfl) T.no_int (by decide +kernel) (v := .ty "int") rfl) pa_nil))) (pe_and (pe_not (pe_callB call_isi (by rfl) T.no_isinstance (by decide +kernel) (pa_cons (pv 0) (pa_cons (pe_bltn (by rfl) T.no_bool (by decide +kernel) (v := .ty "bool") rfl) pa_nil)))) (pe_one (pe_cmpR (op_eqD hr.units) (pv 0) (pv 1) (nomark _))))))) pss_nil)
 (pss_cons (ps_if (pt_val (pe_callB call_isi (by rfl) T.no_isinstance (by decide +kernel) (pa_cons (pv 1) (pa_cons (pe_bltn (by rfl) T.no_str (by decide +kernel) (v := .ty "str") rfl) pa_nil)))) (pss_one (ps_ret (pe_and (pe_callB call_isi (by rfl) T.no_isinstance (by decide +kernel) (pa_cons (pv 0) (pa_cons (pe_bltn (by rfl) T.no_str (by decide +kernel) (v := .ty "str") rfl) pa_nil))) (pe_one (pe_cmpR (op_eqD hr.units) (pv 0) (pv 1) (nomark _)))))) pss_nil)
 (pss_cons (ps_if (PW.pt (pw_or (PW.pt (pw_and (pt_val (pe_callB call_isi (by rfl) T.no_isinstance (by decide +kernel) (pa_cons (pv 1) (pa_cons (pe_bltn (by rfl) T.no_list (by decide +kernel) (v := .ty "list") rfl) pa_nil)))) (pw_and1 (pt_not (pt_val (pe_callB call_isi (by rfl) T.no_isinstance (by decide +kernel) (pa_cons (pv 0) (pa_cons (pe_bltn (by rfl) T.no_list (by decide +kernel) (v := .ty "list") rfl) pa_nil)))))))) (pw_or1 (PW.pt (pw_and (pt_val (pe_callB call_isi (by rfl) T.no_isinstance (by decide +kernel) (pa_cons (pv 1) (pa_cons (pe_bltn (by rfl) T.no_tuple (by decide +kernel) (v := .ty "tuple") rfl) pa_nil)))) (pw_and1 (pt_not (pt_val (pe_callB call_isi (by rfl) T.no_isinstance (by decide +kernel) (pa_cons (pv 0) (pa_cons (pe_bltn (by rfl) T.no_tuple (by decide +kernel) (v := .ty "tuple") rfl) pa_nil))))))))))) (pss_one (ps_ret pe_bl)) pss_nil)
 (pss_one (ps_ret (pe_and (pe_cmpR (op_eqD hr.units) (pe_callB call_len (by rfl) T.no_len (by decide +kernel) (pa_cons (pv 0) pa_nil)) (pe_callB call_len (by rfl) T.no_len (by decide +kernel) (pa_cons (pv 1) pa_nil)) (nomark _)) (pe_one (pe_callB (cr_all rfl) (by rfl) T.no_all (by decide +kernel) (pa_cons (pe_lc (own := [("k", 2)]) (g := gName 2) (tt := tYes) rfl nd (pi_range1 (by rfl) T.no_range (pa_cons (pe_callB call_len (by rfl) T.no_len (by decide +kernel) (pa_cons (pv 1) pa_nil)) pa_nil)) (blkOk_by (N := ["actual", "due", "k"]) (sc := defScope st_eq1) (by decide +kernel)) (fun _ _ _ _ _ => pg_name (i := 2) nd rfl (Or.inl rfl)) (fun _ _ _ _ _ => pts_nil) (fun _ _ _ _ _ => (pe_fn F__law_equal hr px0 (pa_cons (pe_ix (r := rIx K) ix_seq (pv 0) (pv 2) (fun _ _ => rfl)) (pa_cons (pe_ix (r := rIx K) ix_seq (pv 1) (pv 2) (fun _ _ => rfl)) pa_nil))))) pa_nil))))))))))), ?_⟩
  intro x
  obtain ⟨d, hd⟩ := x
  show Mini.Ans _ _ [.im (isP K d), .im (isD d), .no] (.ok (isD (.bool true)))
  have sh : ∀ d, AtomP d → SeqAt.shaped d = true := fun d h => by
    cases d with
    | str s =>
      unfold SeqAt.shaped
      rw [Bool.and_eq_true]
      exact ⟨by rw [PyData.canLay0]; exact h, decide_eq_true (by rw [PyData.depth]; omega)⟩
    | none => rfl
    | bool b => exact shapedB b
    | int i => exact shapedI i
    | _ => exact absurd h (by simp [AtomP])
  have eqA : ∀ {G : Gm} {d : PyData}, AtomP d → G[0]? = some (.im (isP K d)) → G[1]? = some (.im (isD d)) → Sv (tOp (rEqD K) (tVar 0) (tVar 1)) G (isD (.bool true)) := fun {G d} h h0 h1 =>
    sv_is (sv_eq (sv_pA h (sv_var h0)) (sv_var h1) (sh d h) (sh d h)) (by rw [SeqAt.eqv_refl d (SeqAt.canLay_of_shaped (sh d h))])
  have tN : ∀ {d : PyData} {b : Bool}, noneB d = b → St' (tTest (tOp (fun x y H Q => y = .non ∧ Q (.bl (decide (x = .non))) H) (tVar 1) (tC .non))) [.im (isP K d), .im (isD d), .no] b := fun {d b} h => st_is (st_test (sv_isNb (d := d) (sv_var rfl))) h
  have tT : ∀ {d : PyData} {b : Bool}, dBool d = b → St' (tOr (tTest (tOp rIsBl2 (tVar 1) (tC (.bl true)))) (tTest (tOp rIsBl2 (tVar 1) (tC (.bl false))))) [.im (isP K d), .im (isD d), .no] b := fun {d b} h => st_is (st_or (b := blB d true) (c := blB d false) (st_test (sv_isBl2 (sv_var rfl))) fun _ => st_test (sv_isBl2 (sv_var rfl))) (by rw [← h]; cases d <;> first | rfl | (rename_i x; cases x <;> rfl))
  have tI : ∀ {d : PyData} {b : Bool}, dInt d = b → St' (tB (tCB (rIsi K) (tCons (tVar 1) (tCons (tC (.ty "int")) tNil)))) [.im (isP K d), .im (isD d), .no] b := fun {d b} h => st_is (st_B (sv_isInt (d := d) (sv_var rfl))) h
  have tS : ∀ {d : PyData} {b : Bool}, dStr d = b → St' (tB (tCB (rIsi K) (tCons (tVar 1) (tCons (tC (.ty "str")) tNil)))) [.im (isP K d), .im (isD d), .no] b := fun {d b} h => st_is (st_B (sv_isStr (d := d) (sv_var rfl))) h
  rcases hd with hd | ⟨ds, hdd, hl, hq⟩
  · refine .ok ?_
    cases d with
    | none => exact ss_seqRt (ss_if1 (tN rfl) (ss_ret (sv_is (sv_isN (d := .none) (sv_pA hd (sv_var rfl))) rfl)))
    | bool b =>
      refine ss_seq (ss_if0 (tN rfl) ss_next) (ss_seqRt (ss_if1 (tT rfl) (ss_ret (sv_is (sv_and (b := true) (c := true) (sv_isiP (d := .bool b) (sv_var rfl) sv_val (kit_bool _)) fun _ => eqA hd rfl rfl) rfl))))
    | int i =>
      refine ss_seq (ss_if0 (tN rfl) ss_next) (ss_seq (ss_if0 (tT rfl) ss_next) (ss_seqRt (ss_if1 (tI rfl) (ss_ret (sv_is (sv_and (b := true) (c := true) (sv_isiP (d := .int i) (sv_var rfl) sv_val (kit_int _)) fun _ => sv_is (sv_and (b := true) (c := true) (sv_is (sv_not (sv_isiP (d := .int i) (sv_var rfl) sv_val (kit_bool _))) rfl) fun _ => eqA hd rfl rfl) rfl) rfl)))))
    | str s =>
      refine ss_seq (ss_if0 (tN rfl) ss_next) (ss_seq (ss_if0 (tT rfl) ss_next) (ss_seq (ss_if0 (tI rfl) ss_next) (ss_seqRt (ss_if1 (tS rfl) (ss_ret (sv_is (sv_and (b := true) (c := true) (sv_isiP (d := .str s) (sv_var rfl) sv_val (kit_str _)) fun _ => eqA hd rfl rfl) rfl))))))
    | _ => exact absurd hd (by simp [AtomP])
  have hz : (sizeLine : Nat) = 16777216 := sizeLine_eq
  have got : ∀ i, (hi : i < ds.length) → atI ds (i : Int) = some ds[i] := fun i hi => atI_nat (List.getElem?_eq_getElem hi)
  have allT : PyData.bool (true && ((List.range ds.length).map fun _ => true).all id) = .bool true := by
    congr 1
    rw [List.all_map]
    simp
  rcases hdd with rfl | rfl
  · refine .ok (ss_seq (ss_if0 (tN rfl) ss_next) (ss_seq (ss_if0 (tT rfl) ss_next) (ss_seq (ss_if0 (tI rfl) ss_next) (ss_seq (ss_if0 (tS rfl) ss_next) (ss_seq (ss_if0 (st_is (st_or (b := false) (c := false) (st_is (st_and (b := false) (c := true) (st_is (st_B (sv_isLst (d := .tuple ds) (sv_var rfl))) rfl) fun z => (by cases z)) rfl) fun _ => st_is (st_and (b := true) (c := false) (st_is (st_B (sv_isTup (d := .tuple ds) (sv_var rfl))) rfl) fun _ => st_is (st_not (st_B (sv_isTupP (d := .tuple ds) (sv_var rfl)))) rfl) rfl) rfl) ss_next) (ss_ret ?_))))))
    refine sv_is (sv_and (b := true) (c := ((List.range ds.length).map fun _ => true).all id) (sv_is (sv_eqI (sv_lenP (ds := ds) (sv_var rfl)) (sv_lenT (ds := ds) (sv_var rfl))) (by simp)) fun _ => sv_all (bs := (List.range ds.length).map fun _ => true) (rl_svl (svl_is (svl_lcMapR (j := 2) (n := (ds.length : Nat)) (sv_lenT (ds := ds) (sv_var rfl)) (fun _ => PyData.bool true) (Nat.le_of_ble_eq_true rfl) (by omega) (by omega) fun i hi => ?_) ?_))) allT
    · rw [Int.toNat_natCast] at hi
      exact sv_call (S := S_eqP K (Q_up Q_no)) (sa_im (sv_ixP (sv_var rfl) (sv_var rfl) (got i hi)) (sa_im (sv_ixT (sv_var rfl) (sv_var rfl) (got i hi)) sa_nil)) ⟨ds[i], hq _ (List.getElem_mem hi)⟩ rfl rfl
    · rw [Int.toNat_natCast, List.map_map]; rfl
  · refine .ok (ss_seq (ss_if0 (tN rfl) ss_next) (ss_seq (ss_if0 (tT rfl) ss_next) (ss_seq (ss_if0 (tI rfl) ss_next) (ss_seq (ss_if0 (tS rfl) ss_next) (ss_seq (ss_if0 (st_is (st_or (b := false) (c := false) (st_is (st_and (b := true) (c := false) (st_is (st_B (sv_isLst (d := .list ds) (sv_var rfl))) rfl) fun _ => st_is (st_not (st_B (sv_isLstP (d := .list ds) (sv_var rfl)))) rfl) rfl) fun _ => st_is (st_and (b := false) (c := true) (st_is (st_B (sv_isTup (d := .list ds) (sv_var rfl))) rfl) fun z => (by cases z)) rfl) rfl) ss_next) (ss_ret ?_))))))
    refine sv_is (sv_and (b := true) (c := ((List.range ds.length).map fun _ => true).all id) (sv_is (sv_eqI (sv_lenPL (ds := ds) (sv_var rfl)) (sv_lenL (ds := ds) (rl_sv (sv_var rfl)))) (by simp)) fun _ => sv_all (bs := (List.range ds.length).map fun _ => true) (rl_svl (svl_is (svl_lcMapR (j := 2) (n := (ds.length : Nat)) (sv_lenL (ds := ds) (rl_sv (sv_var rfl))) (fun _ => PyData.bool true) (Nat.le_of_ble_eq_true rfl) (by omega) (by omega) fun i hi => ?_) ?_))) allT
    · rw [Int.toNat_natCast] at hi
      exact sv_call (S := S_eqP K (Q_up Q_no)) (sa_im (sv_ixPL (sv_var rfl) (sv_var rfl) (got i hi)) (sa_im (sv_ixL (rl_sv (sv_var rfl)) (sv_var rfl) (got i hi)) sa_nil)) ⟨ds[i], hq _ (List.getElem_mem hi)⟩ rfl rfl
    · rw [Int.toNat_natCast, List.map_map]; rfl
abbrev st__law_equal : Stmt := top 50
theorem sc__law_equal : FnScope ["actual", "due", "k"] ["actual", "due"] (defScope st__law_equal) := ⟨rfl, rfl, rfl, by decide +kernel, rfl, by decide +kernel, by decide +kernel⟩
theorem ok__law_equal {f : Addr} {fd : FuncData} (T : Txt K mg cAE cBB cBT cBN cBR cTL cBk cPr aE0 aEV aSI aBG) (F__law_equal : FnC P w K mg base 3 "_law_equal" (spF (S_eqP K (Q_up (Q_up Q_no))))) (F : Fun K "_law_equal" "_law_equal" st__law_equal f fd) : FnOk P w K mg base (L2.CX P w) 4 f fd ["actual", "due"] (spF (S_eqP K (Q_up (Q_up (Q_up Q_no))))) := by
  refine fn_ok F sc__law_equal rfl fun cdv A outer s H E hr => ?_
  have tk : Takes (cxD P w K mg base ["actual", "due", "k"] "_law_equal" st__law_equal f cdv A outer s H E) (fun cls d _ H => E cls d H) := takes_of rfl rfl rfl rfl
  have hx := pxM tk
  have nd := sc__law_equal.nd
  refine ⟨_, (pss_cons (ps_if (pt_cmpR op_isN (pv 1) pe_non (nomark _)) (pss_one (ps_ret (pe_cmpR op_isN (pv 0) pe_non (nomark _)))) pss_nil)
 (pss_cons (ps_if (PW.pt (pw_or (pt_cmpR Mini.op_isBl2 (pv 1) pe_bl (nomark _)) (pw_or1 (pt_cmpR Mini.op_isBl2 (pv 1) pe_bl (nomark _))))) (pss_one (ps_ret (pe_and (pe_callB call_isi (by rfl) T.no_isinstance (by decide +kernel) (pa_cons (pv 0) (pa_cons (pe_bltn (by rfl) T.no_bool (by decide +kernel) (v := .ty "bool") rfl) pa_nil))) (pe_one (pe_cmpR (op_eqD hr.units) (pv 0) (pv 1) (nomark _)))))) pss_nil)
 (pss_cons (ps_if (pt_val (pe_callB call_isi (by rfl) T.no_isinstance (by decide +kernel) (pa_cons (pv 1) (pa_cons (pe_bltn (by rfl) T.no_int (by decide +kernel) (v := .ty "int") rfl) pa_nil)))) (pss_one (ps_ret (pe_and (pe_callB call_isi (by rfl) T.no_isinstance (by decide +kernel) (pa_cons (pv 0) (pa_cons (pe_bltn (by rfl) T.no_int (by decide +kernel) (v := .ty "int") rfl) pa_nil))) (pe_and (pe_not (pe_callB call_isi (by rfl) T.no_isinstance (by decide +kernel) (pa_cons (pv 0) (pa_cons (pe_bltn (by rfl) T.no_bool (by decide +kernel) (v := .ty "bool") rfl) pa_nil)))) (pe_one (pe_cmpR (op_eqD hr.units) (pv 0) (pv 1) (nomark _))))))) pss_nil)
 (pss_cons (ps_if (pt_val (pe_callB call_isi (by rfl) T.no_isinstance (by decide +kernel) (pa_cons (pv 1) (pa_cons (pe_bltn (by rfl) T.no_str (by decide +kernel) (v := .ty "str") rfl) pa_nil)))) (pss_one (ps_ret (pe_and (pe_callB call_isi (by rfl) T.no_isinstance (by decide +kernel) (pa_cons (pv 0) (pa_cons (pe_bltn (by rfl) T.no_str (by decide +kernel) (v := .ty "str") rfl) pa_nil))) (pe_one (pe_cmpR (op_eqD hr.units) (pv 0) (pv 1) (nomark _)))))) pss_nil)
 (pss_cons (ps_if (PW.pt (pw_or (PW.pt (pw_and (pt_val (pe_callB call_isi (by rfl) T.no_isinstance (by decide +kernel) (pa_cons (pv 1) (pa_cons (pe_bltn (by rfl) T.no_list (by decide +kernel) (v := .ty "list") rfl) pa_nil)))) (pw_and1 (pt_not (pt_val (pe_callB call_isi (by rfl) T.no_isinstance (by decide +kernel) (pa_cons (pv 0) (pa_cons (pe_bltn (by rfl) T.no_list (by decide +kernel) (v := .ty "list") rfl) pa_nil)))))))) (pw_or1 (PW.pt (pw_and (pt_val (pe_callB call_isi (by rfl) T.no_isinstance (by decide +kernel) (pa_cons (pv 1) (pa_cons (pe_bltn (by rfl) T.no_tuple (by decide +kernel) (v := .ty "tuple") rfl) pa_nil)))) (pw_and1 (pt_not (pt_val (pe_callB call_isi (by rfl) T.no_isinstance (by decide +kernel) (pa_cons (pv 0) (pa_cons (pe_bltn (by rfl) T.no_tuple (by decide +kernel) (v := .ty "tuple") rfl) pa_nil))))))))))) (pss_one (ps_ret pe_bl)) pss_nil)
 (pss_one (ps_ret (pe_and (pe_cmpR (op_eqD hr.units) (pe_callB call_len (by rfl) T.no_len (by decide +kernel) (pa_cons (pv 0) pa_nil)) (pe_callB call_len (by rfl) T.no_len (by decide +kernel) (pa_cons (pv 1) pa_nil)) (nomark _)) (pe_one (pe_callB (cr_all rfl) (by rfl) T.no_all (by decide +kernel) (pa_cons (pe_lc (own := [("k", 2)]) (g := gName 2) (tt := tYes) rfl nd (pi_range1 (by rfl) T.no_range (pa_cons (pe_callB call_len (by rfl) T.no_len (by decide +kernel) (pa_cons (pv 1) pa_nil)) pa_nil)) (blkOk_by (N := ["actual", "due", "k"]) (sc := defScope st__law_equal) (by decide +kernel)) (fun _ _ _ _ _ => pg_name (i := 2) nd rfl (Or.inl rfl)) (fun _ _ _ _ _ => pts_nil) (fun _ _ _ _ _ => (pe_fn F__law_equal hr px0 (pa_cons (pe_ix (r := rIx K) ix_seq (pv 0) (pv 2) (fun _ _ => rfl)) (pa_cons (pe_ix (r := rIx K) ix_seq (pv 1) (pv 2) (fun _ _ => rfl)) pa_nil))))) pa_nil))))))))))), ?_⟩
  intro x
  obtain ⟨d, hd⟩ := x
  show Mini.Ans _ _ [.im (isP K d), .im (isD d), .no] (.ok (isD (.bool true)))
  have sh : ∀ d, AtomP d → SeqAt.shaped d = true := fun d h => by
    cases d with
    | str s =>
      unfold SeqAt.shaped
      rw [Bool.and_eq_true]
      exact ⟨by rw [PyData.canLay0]; exact h, decide_eq_true (by rw [PyData.depth]; omega)⟩
    | none => rfl
    | bool b => exact shapedB b
    | int i => exact shapedI i
    | _ => exact absurd h (by simp [AtomP])
  have eqA : ∀ {G : Gm} {d : PyData}, AtomP d → G[0]? = some (.im (isP K d)) → G[1]? = some (.im (isD d)) → Sv (tOp (rEqD K) (tVar 0) (tVar 1)) G (isD (.bool true)) := fun {G d} h h0 h1 =>
    sv_is (sv_eq (sv_pA h (sv_var h0)) (sv_var h1) (sh d h) (sh d h)) (by rw [SeqAt.eqv_refl d (SeqAt.canLay_of_shaped (sh d h))])
  have tN : ∀ {d : PyData} {b : Bool}, noneB d = b → St' (tTest (tOp (fun x y H Q => y = .non ∧ Q (.bl (decide (x = .non))) H) (tVar 1) (tC .non))) [.im (isP K d), .im (isD d), .no] b := fun {d b} h => st_is (st_test (sv_isNb (d := d) (sv_var rfl))) h
  have tT : ∀ {d : PyData} {b : Bool}, dBool d = b → St' (tOr (tTest (tOp rIsBl2 (tVar 1) (tC (.bl true)))) (tTest (tOp rIsBl2 (tVar 1) (tC (.bl false))))) [.im (isP K d), .im (isD d), .no] b := fun {d b} h => st_is (st_or (b := blB d true) (c := blB d false) (st_test (sv_isBl2 (sv_var rfl))) fun _ => st_test (sv_isBl2 (sv_var rfl))) (by rw [← h]; cases d <;> first | rfl | (rename_i x; cases x <;> rfl))
  have tI : ∀ {d : PyData} {b : Bool}, dInt d = b → St' (tB (tCB (rIsi K) (tCons (tVar 1) (tCons (tC (.ty "int")) tNil)))) [.im (isP K d), .im (isD d), .no] b := fun {d b} h => st_is (st_B (sv_isInt (d := d) (sv_var rfl))) h
  have tS : ∀ {d : PyData} {b : Bool}, dStr d = b → St' (tB (tCB (rIsi K) (tCons (tVar 1) (tCons (tC (.ty "str")) tNil)))) [.im (isP K d), .im (isD d), .no] b := fun {d b} h => st_is (st_B (sv_isStr (d := d) (sv_var rfl))) h
  rcases hd with hd | ⟨ds, hdd, hl, hq⟩
  · refine .ok ?_
    cases d with
    | none => exact ss_seqRt (ss_if1 (tN rfl) (ss_ret (sv_is (sv_isN (d := .none) (sv_pA hd (sv_var rfl))) rfl)))
    | bool b =>
      refine ss_seq (ss_if0 (tN rfl) ss_next) (ss_seqRt (ss_if1 (tT rfl) (ss_ret (sv_is (sv_and (b := true) (c := true) (sv_isiP (d := .bool b) (sv_var rfl) sv_val (kit_bool _)) fun _ => eqA hd rfl rfl) rfl))))
    | int i =>
      refine ss_seq (ss_if0 (tN rfl) ss_next) (ss_seq (ss_if0 (tT rfl) ss_next) (ss_seqRt (ss_if1 (tI rfl) (ss_ret (sv_is (sv_and (b := true) (c := true) (sv_isiP (d := .int i) (sv_var rfl) sv_val (kit_int _)) fun _ => sv_is (sv_and (b := true) (c := true) (sv_is (sv_not (sv_isiP (d := .int i) (sv_var rfl) sv_val (kit_bool _))) rfl) fun _ => eqA hd rfl rfl) rfl) rfl)))))
    | str s =>
      refine ss_seq (ss_if0 (tN rfl) ss_next) (ss_seq (ss_if0 (tT rfl) ss_next) (ss_seq (ss_if0 (tI rfl) ss_next) (ss_seqRt (ss_if1 (tS rfl) (ss_ret (sv_is (sv_and (b := true) (c := true) (sv_isiP (d := .str s) (sv_var rfl) sv_val (kit_str _)) fun _ => eqA hd rfl rfl) rfl))))))
    | _ => exact absurd hd (by simp [AtomP])
  have hz : (sizeLine : Nat) = 16777216 := sizeLine_eq
  have got : ∀ i, (hi : i < ds.length) → atI ds (i : Int) = some ds[i] := fun i hi => atI_nat (List.getElem?_eq_getElem hi)
  have allT : PyData.bool (true && ((List.range ds.length).map fun _ => true).all id) = .bool true := by
    congr 1
    rw [List.all_map]
    simp
  rcases hdd with rfl | rfl
  · refine .ok (ss_seq (ss_if0 (tN rfl) ss_next) (ss_seq (ss_if0 (tT rfl) ss_next) (ss_seq (ss_if0 (tI rfl) ss_next) (ss_seq (ss_if0 (tS rfl) ss_next) (ss_seq (ss_if0 (st_is (st_or (b := false) (c := false) (st_is (st_and (b := false) (c := true) (st_is (st_B (sv_isLst (d := .tuple ds) (sv_var rfl))) rfl) fun z => (by cases z)) rfl) fun _ => st_is (st_and (b := true) (c := false) (st_is (st_B (sv_isTup (d := .tuple ds) (sv_var rfl))) rfl) fun _ => st_is (st_not (st_B (sv_isTupP (d := .tuple ds) (sv_var rfl)))) rfl) rfl) rfl) ss_next) (ss_ret ?_))))))
    refine sv_is (sv_and (b := true) (c := ((List.range ds.length).map fun _ => true).all id) (sv_is (sv_eqI (sv_lenP (ds := ds) (sv_var rfl)) (sv_lenT (ds := ds) (sv_var rfl))) (by simp)) fun _ => sv_all (bs := (List.range ds.length).map fun _ => true) (rl_svl (svl_is (svl_lcMapR (j := 2) (n := (ds.length : Nat)) (sv_lenT (ds := ds) (sv_var rfl)) (fun _ => PyData.bool true) (Nat.le_of_ble_eq_true rfl) (by omega) (by omega) fun i hi => ?_) ?_))) allT
    · rw [Int.toNat_natCast] at hi
      exact sv_call (S := S_eqP K (Q_up (Q_up Q_no))) (sa_im (sv_ixP (sv_var rfl) (sv_var rfl) (got i hi)) (sa_im (sv_ixT (sv_var rfl) (sv_var rfl) (got i hi)) sa_nil)) ⟨ds[i], hq _ (List.getElem_mem hi)⟩ rfl rfl
    · rw [Int.toNat_natCast, List.map_map]; rfl
  · refine .ok (ss_seq (ss_if0 (tN rfl) ss_next) (ss_seq (ss_if0 (tT rfl) ss_next) (ss_seq (ss_if0 (tI rfl) ss_next) (ss_seq (ss_if0 (tS rfl) ss_next) (ss_seq (ss_if0 (st_is (st_or (b := false) (c := false) (st_is (st_and (b := true) (c := false) (st_is (st_B (sv_isLst (d := .list ds) (sv_var rfl))) rfl) fun _ => st_is (st_not (st_B (sv_isLstP (d := .list ds) (sv_var rfl)))) rfl) rfl) fun _ => st_is (st_and (b := false) (c := true) (st_is (st_B (sv_isTup (d := .list ds) (sv_var rfl))) rfl) fun z => (by cases z)) rfl) rfl) ss_next) (ss_ret ?_))))))
    refine sv_is (sv_and (b := true) (c := ((List.range ds.length).map fun _ => true).all id) (sv_is (sv_eqI (sv_lenPL (ds := ds) (sv_var rfl)) (sv_lenL (ds := ds) (rl_sv (sv_var rfl)))) (by simp)) fun _ => sv_all (bs := (List.range ds.length).map fun _ => true) (rl_svl (svl_is (svl_lcMapR (j := 2) (n := (ds.length : Nat)) (sv_lenL (ds := ds) (rl_sv (sv_var rfl))) (fun _ => PyData.bool true) (Nat.le_of_ble_eq_true rfl) (by omega) (by omega) fun i hi => ?_) ?_))) allT
    · rw [Int.toNat_natCast] at hi
      exact sv_call (S := S_eqP K (Q_up (Q_up Q_no))) (sa_im (sv_ixPL (sv_var rfl) (sv_var rfl) (got i hi)) (sa_im (sv_ixL (rl_sv (sv_var rfl)) (sv_var rfl) (got i hi)) sa_nil)) ⟨ds[i], hq _ (List.getElem_mem hi)⟩ rfl rfl
    · rw [Int.toNat_natCast, List.map_map]; rfl
end
end K60

namespace K60
open PySem L2 Evl Mini PyProof.Rows
theorem DqK_dp {K : PySem.W.Frag} {H : Hp} : ∀ (d : PyData) (v : V), DqK K H v d → Dp K H v d
  | .none, _, h => by cases h; exact .non
  | .bool b, _, h => by cases h; exact .bl b
  | .int i, _, h => by cases h; exact .int i
  | .str x, _, h => by cases h; exact .str x
  | .list ds, _, h => by
    cases h with
    | lst hs ha => exact .lst (sq_of hs) (go ds _ ha)
  | .tuple ds, _, h => by
    cases h with
    | tup hs ha => exact .tup (hs.elim (fun q => st_of q) (fun q => q.st _)) (go ds _ ha)
  | .dict _, _, h => by cases h
where
  go {K : PySem.W.Frag} {H : Hp} : ∀ (ds : List PyData) (vs : List V), DqKA K H vs ds → DpAll K H vs ds
  | [], _, h => by cases h; exact .nil
  | d :: ds, _, h => by
    cases h with
    | cons a b => exact .cons (DqK_dp d _ a) (go ds _ b)
section
variable {K : PySem.W.Frag} {G : Gm} {ta tb : TE} {d e : PyData}
theorem sv_neP (ha : Sv ta G (isP K d)) (hb : Sv tb G (isD e)) (h1 : SeqAt.shaped d = true) (h2 : SeqAt.shaped e = true) : Sv (tOp (rNeD K) ta tb) G (isD (.bool (!PyData.eqv d e))) :=
  sv_op ha hb fun B M x y dj p1 p2 Q q => ⟨d, e, DqK_dp d x (DqK_ex (jn_ex dj) d x p1), Dq_dp e y (Dq_ex (jn_ex dj) e y p2), h1, h2, q _ B (Ex.refl B) dj (.bl _)⟩
theorem sv_eqP (ha : Sv ta G (isP K d)) (hb : Sv tb G (isD e)) (h1 : SeqAt.shaped d = true) (h2 : SeqAt.shaped e = true) : Sv (tOp (rEqD K) ta tb) G (isD (.bool (PyData.eqv d e))) :=
  sv_op ha hb fun B M x y dj p1 p2 Q q => ⟨d, e, DqK_dp d x (DqK_ex (jn_ex dj) d x p1), Dq_dp e y (Dq_ex (jn_ex dj) e y p2), h1, h2, q _ B (Ex.refl B) dj (.bl _)⟩
end
theorem shStr (s : Str) (h : PyData.strOk s = true) : SeqAt.shaped (.str s) = true := by
  unfold SeqAt.shaped
  rw [Bool.and_eq_true]
  exact ⟨by rw [PyData.canLay0]; exact h, decide_eq_true (by rw [PyData.depth]; omega)⟩
/-! ### answers and errors -/
inductive Er where
  | bb | bt | bn | br | tl
def errA (cBB cBT cBN cBR cTL : Addr) : Er → Addr
  | .bb => cBB
  | .bt => cBT
  | .bn => cBN
  | .br => cBR
  | .tl => cTL
def refB : Er → List Bool
  | .bb => [true, false, false, false, false]
  | .bt => [false, true, false, false, false]
  | .bn => [false, false, true, false, false]
  | .br => [false, false, false, true, false]
  | .tl => [false, false, false, false, true]
def refD (k : Er) : PyData := .tuple [.str "refused", .list ((refB k).map .bool)]
def erN : Er → Int
  | .bb => 0
  | .bt => 1
  | .bn => 2
  | .br => 3
  | .tl => 4
abbrev Ro := PyData ⊕ Er
def toRs (K : PySem.W.Frag) (cBB cBT cBN cBR cTL : Addr) : Ro → Rs
  | .inl d => .ok (isP K d)
  | .inr k => .bad (errA cBB cBT cBN cBR cTL k)
def roD : Ro → PyData
  | .inl d => d
  | .inr k => refD k
def stepO (m : Int) (F S : List (List Int)) (r num : PyData) : Ro :=
  if F.length = S.length then
    if (evenB r || isRestB r m) = true then
      if belowB num F.length = true then
        match behF (stOfD r).1 (stOfD r).2 (wAt F (intD num)) (wAt S (intD num)) with
        | none => .inl .none
        | some p => if p.1.length + p.2.length ≤ 5000 then .inl (restP p.1 p.2) else .inr .tl
      else .inr .bn
    else .inr .bt
  else .inr .bb
theorem stepR_eq {K : PySem.W.Frag} {cBB cBT cBN cBR cTL : Addr} {m : Int} {F S : List (List Int)} {r num : PyData} : stepR K cBB cBT cBN cTL m F S r num = toRs K cBB cBT cBN cBR cTL (stepO m F S r num) := by
  unfold stepR stepO
  by_cases c1 : F.length = S.length
  · rw [if_pos c1, if_pos c1]
    by_cases c2 : (evenB r || isRestB r m) = true
    · rw [if_pos c2, if_pos c2]
      by_cases c3 : belowB num F.length = true
      · rw [if_pos c3, if_pos c3]
        cases behF (stOfD r).1 (stOfD r).2 (wAt F (intD num)) (wAt S (intD num)) with
        | none => rfl
        | some p =>
          show (if p.1.length + p.2.length ≤ 5000 then Rs.ok (isP K (restP p.1 p.2)) else .bad cTL) = toRs K cBB cBT cBN cBR cTL (if p.1.length + p.2.length ≤ 5000 then .inl (restP p.1 p.2) else .inr .tl)
          by_cases c4 : p.1.length + p.2.length ≤ 5000
          · rw [if_pos c4, if_pos c4]; rfl
          · rw [if_neg c4, if_neg c4]; rfl
      · rw [if_neg c3, if_neg c3]; rfl
    · rw [if_neg c2, if_neg c2]; rfl
  · rw [if_neg c1, if_neg c1]; rfl
def rowO (F S : List (List Int)) (row : PyData) : Ro :=
  if F.length = S.length then
    if tupB (fun e => belowB e F.length) row = true then
      match runQ F S (intsT row) ([], []) with
      | none => .inr .tl
      | some none => .inl .none
      | some (some p) => .inl (restP p.1 p.2)
    else .inr .br
  else .inr .bb
theorem rowR_eq {K : PySem.W.Frag} {cBB cBT cBN cBR cTL : Addr} {F S : List (List Int)} {row : PyData} : rowR K cBB cBR cTL F S row = toRs K cBB cBT cBN cBR cTL (rowO F S row) := by
  unfold rowR rowO
  by_cases c1 : F.length = S.length
  · rw [if_pos c1, if_pos c1]
    by_cases c2 : tupB (fun e => belowB e F.length) row = true
    · rw [if_pos c2, if_pos c2]
      rcases runQ F S (intsT row) ([], []) with _ | _ | p <;> rfl
    · rw [if_neg c2, if_neg c2]; rfl
  · rw [if_neg c1, if_neg c1]; rfl
abbrev tbT (K : PySem.W.Frag) (cBk cPr cBB cBT cBN cBR cTL : Addr) : WX → TS := fun W => tSeq (tIfS (tTest (tOp (rEqD K) (tVar 0) (tC (.str "step")))) (tRet (tCallS (spF (S_step K cBk cPr cBB cBT cBN cTL)) (WE W) (tCons (tVar 1) (tCons (tVar 2) (tCons (tVar 3) tNil))))) tNext)
  (tRet (tCallS (spF (S_rest_of K cBk cPr cBB cBR cTL)) (WE W) (tCons (tVar 1) (tCons (tVar 2) tNil))))
/-- what is asked: a step from a rest, or a row -/
abbrev Aq := PyData × PyData ⊕ PyData
def Aq.w : Aq → Str
  | .inl _ => "step"
  | .inr _ => "rest"
def Aq.a : Aq → PyData
  | .inl x => x.1
  | .inr r => r
def Aq.b : Aq → PyData
  | .inl x => x.2
  | .inr _ => .int 0
def Aq.ok : Aq → Prop
  | .inl x => restFit x.1
  | .inr r => rowFit r ∧ Fit r
def Aq.o (m : Int) (F S : List (List Int)) : Aq → Ro
  | .inl x => stepO m F S x.1 x.2
  | .inr r => rowO F S r
section
variable {P : Program} {w : World} {K : PySem.W.Frag} {mg : Str → Option Value} {base : Heap} {cAE cBB cBT cBN cBR cTL cBk cPr aE0 aEV aSI aBG : Addr}
/-! ### _law_told -/
def S_told (K : PySem.W.Frag) (cBk cPr : Addr) : Fs := ⟨{x : (Int × List (List Int) × List (List Int)) × Aq // (GoodW x.1.2.1 x.1.1 ∧ GoodW x.1.2.2 x.1.1 ∧ x.1.1 ≤ 60) ∧ x.2.ok}, 4,
  fun x => [.im (isD (.str x.1.2.w)), .im (isI cPr (pairF cBk x.1.1.1 (wD x.1.1.2.1) x.1.1.1 (wD x.1.1.2.2))), .im (isD x.1.2.a), .im (isD x.1.2.b)], fun _ => rfl, fun x => .ok (isP K (roD (x.1.2.o x.1.1.1 x.1.1.2.1 x.1.1.2.2)))⟩
abbrev st__law_told : Stmt := top 46
theorem sc__law_told : FnScope ["word", "pair", "rest", "number", "e", "found"] ["word", "pair", "rest", "number"] (defScope st__law_told) := ⟨rfl, rfl, rfl, by decide +kernel, rfl, by decide +kernel, by decide +kernel⟩
theorem ok__law_told {f : Addr} {fd : FuncData} (T : Txt K mg cAE cBB cBT cBN cBR cTL cBk cPr aE0 aEV aSI aBG) (F_step : FnC P w K mg base 4 "step" (spF (S_step K cBk cPr cBB cBT cBN cTL))) (F_rest_of : FnC P w K mg base 5 "rest_of" (spF (S_rest_of K cBk cPr cBB cBR cTL))) (F : Fun K "_law_told" "_law_told" st__law_told f fd) : FnOk P w K mg base (L2.CX P w) 6 f fd ["word", "pair", "rest", "number"] (spF (S_told K cBk cPr)) := by
  refine fn_ok F sc__law_told rfl fun cdv A outer s H E hr => ?_
  have tk : Takes (cxD P w K mg base ["word", "pair", "rest", "number", "e", "found"] "_law_told" st__law_told f cdv A outer s H E) (fun cls d _ H => E cls d H) := takes_of rfl rfl rfl rfl
  have hx := pxM tk
  have nd := sc__law_told.nd
  refine ⟨_, (pss_one (ps_try_as (i := 4) rfl rfl nd rfl rfl ⟨rfl, by decide, .inl T.e_AlikeError.g⟩ takes0 (fun W pn xe tkW po => (pss_cons (ps_if (pt_cmpR (r := rEqD K) (op_eqD hr.units) (pv 0) pe_str (nomark _)) (pss_one (ps_ret (pe_fn F_step hr (fun σ => passAt tkW σ) (pa_cons (pv 1) (pa_cons (pv 2) (pa_cons (pv 3) pa_nil)))))) pss_nil)
 (pss_one (ps_ret (pe_fn F_rest_of hr (fun σ => passAt tkW σ) (pa_cons (pv 1) (pa_cons (pv 2) pa_nil))))))) (fun a oe cls dd pn hz hf => (pss_cons (ps_set (i := 5) nd rfl (Or.inl rfl) (pe_lst (pa_cons (pe_callB (r := rIsX K a cls dd) (call_isX hz hf) (by rfl) T.no_isinstance (by decide +kernel) (pa_cons (pv 4) (pa_cons (pe_err T.e_BadBook.g) pa_nil))) (pa_cons (pe_callB (r := rIsX K a cls dd) (call_isX hz hf) (by rfl) T.no_isinstance (by decide +kernel) (pa_cons (pv 4) (pa_cons (pe_err T.e_BadRest.g) pa_nil))) (pa_cons (pe_callB (r := rIsX K a cls dd) (call_isX hz hf) (by rfl) T.no_isinstance (by decide +kernel) (pa_cons (pv 4) (pa_cons (pe_err T.e_BadNumber.g) pa_nil))) (pa_cons (pe_callB (r := rIsX K a cls dd) (call_isX hz hf) (by rfl) T.no_isinstance (by decide +kernel) (pa_cons (pv 4) (pa_cons (pe_err T.e_BadRow.g) pa_nil))) (pa_cons (pe_callB (r := rIsX K a cls dd) (call_isX hz hf) (by rfl) T.no_isinstance (by decide +kernel) (pa_cons (pv 4) (pa_cons (pe_err T.e_TooLong.g) pa_nil))) pa_nil)))))))
 (pss_one (ps_ret (pe_tup (pa_cons pe_str (pa_cons (pv 5) pa_nil))))))))), ?_⟩
  intro x
  obtain ⟨⟨⟨m, F, S⟩, q⟩, hx, hq⟩ := x
  have okS : ∀ s : Str, PyData.strOk s = true → SeqAt.shaped (.str s) = true := shStr
  show Mini.Ans _ _ [.im (isD (.str q.w)), .im (isI cPr (pairF cBk m (wD F) m (wD S))), .im (isD q.a), .im (isD q.b), .no, .no] (.ok (isP K (roD (q.o m F S))))
  cases q with
  | inl x =>
    obtain ⟨r, num⟩ := x
    have hf : restFit r := hq
    have w0 : St' (tTest (tOp (rEqD K) (tVar 0) (tC (.str "step")))) [.im (isD (.str "step")), .im (isI cPr (pairF cBk m (wD F) m (wD S))), .im (isD r), .im (isD num), .no, .no] true := st_is (st_test (sv_eq (d := .str "step") (e := .str "step") (sv_var rfl) sv_str (okS _ (by decide +kernel)) (okS _ (by decide +kernel)))) (by decide +kernel)
    have hres : (S_step K cBk cPr cBB cBT cBN cTL).res ⟨((m, F, S), r, num), hx, hf⟩ = toRs K cBB cBT cBN cBR cTL (stepO m F S r num) := stepR_eq
    show Mini.Ans _ _ _ (.ok (isP K (roD (stepO m F S r num))))
    cases ho : stepO m F S r num with
    | inl d =>
      refine .ok (ss_tryOk (tb := tbT K cBk cPr cBB cBT cBN cBR cTL) (o := .rt _) ?_ (fun _ _ z => by cases z))
      intro _
      exact ss_seqRt (ss_if1 w0 (ss_ret (sv_call (S := S_step K cBk cPr cBB cBT cBN cTL) (sa_im (sv_var rfl) (sa_im (sv_var rfl) (sa_im (sv_var rfl) sa_nil))) ⟨((m, F, S), r, num), hx, hf⟩ rfl (hres.trans (by rw [ho]; rfl)))))
    | inr k =>
      cases k with
      | bb =>
        refine .ok (ss_tryBad (tb := tbT K cBk cPr cBB cBT cBN cBR cTL) (i := 4) (o := .rt _) (G1 := [.im (isD (.str "step")), .im (isI cPr (pairF cBk m (wD F) m (wD S))), .im (isD r), .im (isD num), .no, .no]) ?_ T.m_cBB (Nat.le_of_ble_eq_true rfl) ?_ (fun _ _ z => by cases z))
        · intro _
          exact ss_seqBad (ss_if1 w0 (ss_retBad (sb_call (S := S_step K cBk cPr cBB cBT cBN cTL) (sa_im (sv_var rfl) (sa_im (sv_var rfl) (sa_im (sv_var rfl) sa_nil))) ⟨((m, F, S), r, num), hx, hf⟩ rfl (hres.trans (by rw [ho]; rfl)))))
        · intro a
          exact ss_seq (ss_set (P := isD (.list ((refB .bb).map .bool))) (sv_svl (svl_lst (ds := (refB .bb).map .bool) (sa_ims (sv_isX (sv_var rfl) sv_val T.x_cBB T.k_cBB_cBB) (sa_ims (sv_isX (sv_var rfl) sv_val T.x_cBB T.k_cBB_cBT) (sa_ims (sv_isX (sv_var rfl) sv_val T.x_cBB T.k_cBB_cBN) (sa_ims (sv_isX (sv_var rfl) sv_val T.x_cBB T.k_cBB_cBR) (sa_ims (sv_isX (sv_var rfl) sv_val T.x_cBB T.k_cBB_cTL) sa_nil))))) (by show 5 ≤ sizeLine; decide)))) (ss_ret (sv_pD (sv_tup (ds := [.str "refused", .list ((refB .bb).map .bool)]) (sa_ims sv_str (sa_ims (sv_var rfl) sa_nil)) (by show 2 ≤ sizeLine; decide))))
      | bt =>
        refine .ok (ss_tryBad (tb := tbT K cBk cPr cBB cBT cBN cBR cTL) (i := 4) (o := .rt _) (G1 := [.im (isD (.str "step")), .im (isI cPr (pairF cBk m (wD F) m (wD S))), .im (isD r), .im (isD num), .no, .no]) ?_ T.m_cBT (Nat.le_of_ble_eq_true rfl) ?_ (fun _ _ z => by cases z))
        · intro _
          exact ss_seqBad (ss_if1 w0 (ss_retBad (sb_call (S := S_step K cBk cPr cBB cBT cBN cTL) (sa_im (sv_var rfl) (sa_im (sv_var rfl) (sa_im (sv_var rfl) sa_nil))) ⟨((m, F, S), r, num), hx, hf⟩ rfl (hres.trans (by rw [ho]; rfl)))))
        · intro a
          exact ss_seq (ss_set (P := isD (.list ((refB .bt).map .bool))) (sv_svl (svl_lst (ds := (refB .bt).map .bool) (sa_ims (sv_isX (sv_var rfl) sv_val T.x_cBT T.k_cBT_cBB) (sa_ims (sv_isX (sv_var rfl) sv_val T.x_cBT T.k_cBT_cBT) (sa_ims (sv_isX (sv_var rfl) sv_val T.x_cBT T.k_cBT_cBN) (sa_ims (sv_isX (sv_var rfl) sv_val T.x_cBT T.k_cBT_cBR) (sa_ims (sv_isX (sv_var rfl) sv_val T.x_cBT T.k_cBT_cTL) sa_nil))))) (by show 5 ≤ sizeLine; decide)))) (ss_ret (sv_pD (sv_tup (ds := [.str "refused", .list ((refB .bt).map .bool)]) (sa_ims sv_str (sa_ims (sv_var rfl) sa_nil)) (by show 2 ≤ sizeLine; decide))))
      | bn =>
        refine .ok (ss_tryBad (tb := tbT K cBk cPr cBB cBT cBN cBR cTL) (i := 4) (o := .rt _) (G1 := [.im (isD (.str "step")), .im (isI cPr (pairF cBk m (wD F) m (wD S))), .im (isD r), .im (isD num), .no, .no]) ?_ T.m_cBN (Nat.le_of_ble_eq_true rfl) ?_ (fun _ _ z => by cases z))
        · intro _
          exact ss_seqBad (ss_if1 w0 (ss_retBad (sb_call (S := S_step K cBk cPr cBB cBT cBN cTL) (sa_im (sv_var rfl) (sa_im (sv_var rfl) (sa_im (sv_var rfl) sa_nil))) ⟨((m, F, S), r, num), hx, hf⟩ rfl (hres.trans (by rw [ho]; rfl)))))
        · intro a
          exact ss_seq (ss_set (P := isD (.list ((refB .bn).map .bool))) (sv_svl (svl_lst (ds := (refB .bn).map .bool) (sa_ims (sv_isX (sv_var rfl) sv_val T.x_cBN T.k_cBN_cBB) (sa_ims (sv_isX (sv_var rfl) sv_val T.x_cBN T.k_cBN_cBT) (sa_ims (sv_isX (sv_var rfl) sv_val T.x_cBN T.k_cBN_cBN) (sa_ims (sv_isX (sv_var rfl) sv_val T.x_cBN T.k_cBN_cBR) (sa_ims (sv_isX (sv_var rfl) sv_val T.x_cBN T.k_cBN_cTL) sa_nil))))) (by show 5 ≤ sizeLine; decide)))) (ss_ret (sv_pD (sv_tup (ds := [.str "refused", .list ((refB .bn).map .bool)]) (sa_ims sv_str (sa_ims (sv_var rfl) sa_nil)) (by show 2 ≤ sizeLine; decide))))
      | br =>
        refine .ok (ss_tryBad (tb := tbT K cBk cPr cBB cBT cBN cBR cTL) (i := 4) (o := .rt _) (G1 := [.im (isD (.str "step")), .im (isI cPr (pairF cBk m (wD F) m (wD S))), .im (isD r), .im (isD num), .no, .no]) ?_ T.m_cBR (Nat.le_of_ble_eq_true rfl) ?_ (fun _ _ z => by cases z))
        · intro _
          exact ss_seqBad (ss_if1 w0 (ss_retBad (sb_call (S := S_step K cBk cPr cBB cBT cBN cTL) (sa_im (sv_var rfl) (sa_im (sv_var rfl) (sa_im (sv_var rfl) sa_nil))) ⟨((m, F, S), r, num), hx, hf⟩ rfl (hres.trans (by rw [ho]; rfl)))))
        · intro a
          exact ss_seq (ss_set (P := isD (.list ((refB .br).map .bool))) (sv_svl (svl_lst (ds := (refB .br).map .bool) (sa_ims (sv_isX (sv_var rfl) sv_val T.x_cBR T.k_cBR_cBB) (sa_ims (sv_isX (sv_var rfl) sv_val T.x_cBR T.k_cBR_cBT) (sa_ims (sv_isX (sv_var rfl) sv_val T.x_cBR T.k_cBR_cBN) (sa_ims (sv_isX (sv_var rfl) sv_val T.x_cBR T.k_cBR_cBR) (sa_ims (sv_isX (sv_var rfl) sv_val T.x_cBR T.k_cBR_cTL) sa_nil))))) (by show 5 ≤ sizeLine; decide)))) (ss_ret (sv_pD (sv_tup (ds := [.str "refused", .list ((refB .br).map .bool)]) (sa_ims sv_str (sa_ims (sv_var rfl) sa_nil)) (by show 2 ≤ sizeLine; decide))))
      | tl =>
        refine .ok (ss_tryBad (tb := tbT K cBk cPr cBB cBT cBN cBR cTL) (i := 4) (o := .rt _) (G1 := [.im (isD (.str "step")), .im (isI cPr (pairF cBk m (wD F) m (wD S))), .im (isD r), .im (isD num), .no, .no]) ?_ T.m_cTL (Nat.le_of_ble_eq_true rfl) ?_ (fun _ _ z => by cases z))
        · intro _
          exact ss_seqBad (ss_if1 w0 (ss_retBad (sb_call (S := S_step K cBk cPr cBB cBT cBN cTL) (sa_im (sv_var rfl) (sa_im (sv_var rfl) (sa_im (sv_var rfl) sa_nil))) ⟨((m, F, S), r, num), hx, hf⟩ rfl (hres.trans (by rw [ho]; rfl)))))
        · intro a
          exact ss_seq (ss_set (P := isD (.list ((refB .tl).map .bool))) (sv_svl (svl_lst (ds := (refB .tl).map .bool) (sa_ims (sv_isX (sv_var rfl) sv_val T.x_cTL T.k_cTL_cBB) (sa_ims (sv_isX (sv_var rfl) sv_val T.x_cTL T.k_cTL_cBT) (sa_ims (sv_isX (sv_var rfl) sv_val T.x_cTL T.k_cTL_cBN) (sa_ims (sv_isX (sv_var rfl) sv_val T.x_cTL T.k_cTL_cBR) (sa_ims (sv_isX (sv_var rfl) sv_val T.x_cTL T.k_cTL_cTL) sa_nil))))) (by show 5 ≤ sizeLine; decide)))) (ss_ret (sv_pD (sv_tup (ds := [.str "refused", .list ((refB .tl).map .bool)]) (sa_ims sv_str (sa_ims (sv_var rfl) sa_nil)) (by show 2 ≤ sizeLine; decide))))
  | inr r =>
    have w0 : St' (tTest (tOp (rEqD K) (tVar 0) (tC (.str "step")))) [.im (isD (.str "rest")), .im (isI cPr (pairF cBk m (wD F) m (wD S))), .im (isD r), .im (isD (.int 0)), .no, .no] false := st_is (st_test (sv_eq (d := .str "rest") (e := .str "step") (sv_var rfl) sv_str (okS _ (by decide +kernel)) (okS _ (by decide +kernel)))) (by decide +kernel)
    have hres : (S_rest_of K cBk cPr cBB cBR cTL).res ⟨((m, F, S), r), hx, hq.1, hq.2⟩ = toRs K cBB cBT cBN cBR cTL (rowO F S r) := rowR_eq
    show Mini.Ans _ _ _ (.ok (isP K (roD (rowO F S r))))
    cases ho : rowO F S r with
    | inl d =>
      refine .ok (ss_tryOk (tb := tbT K cBk cPr cBB cBT cBN cBR cTL) (o := .rt _) ?_ (fun _ _ z => by cases z))
      intro _
      exact ss_seq (ss_if0 w0 ss_next) (ss_ret (sv_call (S := S_rest_of K cBk cPr cBB cBR cTL) (sa_im (sv_var rfl) (sa_im (sv_var rfl) sa_nil)) ⟨((m, F, S), r), hx, hq.1, hq.2⟩ rfl (hres.trans (by rw [ho]; rfl))))
    | inr k =>
      cases k with
      | bb =>
        refine .ok (ss_tryBad (tb := tbT K cBk cPr cBB cBT cBN cBR cTL) (i := 4) (o := .rt _) (G1 := [.im (isD (.str "rest")), .im (isI cPr (pairF cBk m (wD F) m (wD S))), .im (isD r), .im (isD (.int 0)), .no, .no]) ?_ T.m_cBB (Nat.le_of_ble_eq_true rfl) ?_ (fun _ _ z => by cases z))
        · intro _
          exact ss_seq (ss_if0 w0 ss_next) (ss_retBad (sb_call (S := S_rest_of K cBk cPr cBB cBR cTL) (sa_im (sv_var rfl) (sa_im (sv_var rfl) sa_nil)) ⟨((m, F, S), r), hx, hq.1, hq.2⟩ rfl (hres.trans (by rw [ho]; rfl))))
        · intro a
          exact ss_seq (ss_set (P := isD (.list ((refB .bb).map .bool))) (sv_svl (svl_lst (ds := (refB .bb).map .bool) (sa_ims (sv_isX (sv_var rfl) sv_val T.x_cBB T.k_cBB_cBB) (sa_ims (sv_isX (sv_var rfl) sv_val T.x_cBB T.k_cBB_cBT) (sa_ims (sv_isX (sv_var rfl) sv_val T.x_cBB T.k_cBB_cBN) (sa_ims (sv_isX (sv_var rfl) sv_val T.x_cBB T.k_cBB_cBR) (sa_ims (sv_isX (sv_var rfl) sv_val T.x_cBB T.k_cBB_cTL) sa_nil))))) (by show 5 ≤ sizeLine; decide)))) (ss_ret (sv_pD (sv_tup (ds := [.str "refused", .list ((refB .bb).map .bool)]) (sa_ims sv_str (sa_ims (sv_var rfl) sa_nil)) (by show 2 ≤ sizeLine; decide))))
      | bt =>
        refine .ok (ss_tryBad (tb := tbT K cBk cPr cBB cBT cBN cBR cTL) (i := 4) (o := .rt _) (G1 := [.im (isD (.str "rest")), .im (isI cPr (pairF cBk m (wD F) m (wD S))), .im (isD r), .im (isD (.int 0)), .no, .no]) ?_ T.m_cBT (Nat.le_of_ble_eq_true rfl) ?_ (fun _ _ z => by cases z))
        · intro _
          exact ss_seq (ss_if0 w0 ss_next) (ss_retBad (sb_call (S := S_rest_of K cBk cPr cBB cBR cTL) (sa_im (sv_var rfl) (sa_im (sv_var rfl) sa_nil)) ⟨((m, F, S), r), hx, hq.1, hq.2⟩ rfl (hres.trans (by rw [ho]; rfl))))
        · intro a
          exact ss_seq (ss_set (P := isD (.list ((refB .bt).map .bool))) (sv_svl (svl_lst (ds := (refB .bt).map .bool) (sa_ims (sv_isX (sv_var rfl) sv_val T.x_cBT T.k_cBT_cBB) (sa_ims (sv_isX (sv_var rfl) sv_val T.x_cBT T.k_cBT_cBT) (sa_ims (sv_isX (sv_var rfl) sv_val T.x_cBT T.k_cBT_cBN) (sa_ims (sv_isX (sv_var rfl) sv_val T.x_cBT T.k_cBT_cBR) (sa_ims (sv_isX (sv_var rfl) sv_val T.x_cBT T.k_cBT_cTL) sa_nil))))) (by show 5 ≤ sizeLine; decide)))) (ss_ret (sv_pD (sv_tup (ds := [.str "refused", .list ((refB .bt).map .bool)]) (sa_ims sv_str (sa_ims (sv_var rfl) sa_nil)) (by show 2 ≤ sizeLine; decide))))
      | bn =>
        refine .ok (ss_tryBad (tb := tbT K cBk cPr cBB cBT cBN cBR cTL) (i := 4) (o := .rt _) (G1 := [.im (isD (.str "rest")), .im (isI cPr (pairF cBk m (wD F) m (wD S))), .im (isD r), .im (isD (.int 0)), .no, .no]) ?_ T.m_cBN (Nat.le_of_ble_eq_true rfl) ?_ (fun _ _ z => by cases z))
        · intro _
          exact ss_seq (ss_if0 w0 ss_next) (ss_retBad (sb_call (S := S_rest_of K cBk cPr cBB cBR cTL) (sa_im (sv_var rfl) (sa_im (sv_var rfl) sa_nil)) ⟨((m, F, S), r), hx, hq.1, hq.2⟩ rfl (hres.trans (by rw [ho]; rfl))))
        · intro a
          exact ss_seq (ss_set (P := isD (.list ((refB .bn).map .bool))) (sv_svl (svl_lst (ds := (refB .bn).map .bool) (sa_ims (sv_isX (sv_var rfl) sv_val T.x_cBN T.k_cBN_cBB) (sa_ims (sv_isX (sv_var rfl) sv_val T.x_cBN T.k_cBN_cBT) (sa_ims (sv_isX (sv_var rfl) sv_val T.x_cBN T.k_cBN_cBN) (sa_ims (sv_isX (sv_var rfl) sv_val T.x_cBN T.k_cBN_cBR) (sa_ims (sv_isX (sv_var rfl) sv_val T.x_cBN T.k_cBN_cTL) sa_nil))))) (by show 5 ≤ sizeLine; decide)))) (ss_ret (sv_pD (sv_tup (ds := [.str "refused", .list ((refB .bn).map .bool)]) (sa_ims sv_str (sa_ims (sv_var rfl) sa_nil)) (by show 2 ≤ sizeLine; decide))))
      | br =>
        refine .ok (ss_tryBad (tb := tbT K cBk cPr cBB cBT cBN cBR cTL) (i := 4) (o := .rt _) (G1 := [.im (isD (.str "rest")), .im (isI cPr (pairF cBk m (wD F) m (wD S))), .im (isD r), .im (isD (.int 0)), .no, .no]) ?_ T.m_cBR (Nat.le_of_ble_eq_true rfl) ?_ (fun _ _ z => by cases z))
        · intro _
          exact ss_seq (ss_if0 w0 ss_next) (ss_retBad (sb_call (S := S_rest_of K cBk cPr cBB cBR cTL) (sa_im (sv_var rfl) (sa_im (sv_var rfl) sa_nil)) ⟨((m, F, S), r), hx, hq.1, hq.2⟩ rfl (hres.trans (by rw [ho]; rfl))))
        · intro a
          exact ss_seq (ss_set (P := isD (.list ((refB .br).map .bool))) (sv_svl (svl_lst (ds := (refB .br).map .bool) (sa_ims (sv_isX (sv_var rfl) sv_val T.x_cBR T.k_cBR_cBB) (sa_ims (sv_isX (sv_var rfl) sv_val T.x_cBR T.k_cBR_cBT) (sa_ims (sv_isX (sv_var rfl) sv_val T.x_cBR T.k_cBR_cBN) (sa_ims (sv_isX (sv_var rfl) sv_val T.x_cBR T.k_cBR_cBR) (sa_ims (sv_isX (sv_var rfl) sv_val T.x_cBR T.k_cBR_cTL) sa_nil))))) (by show 5 ≤ sizeLine; decide)))) (ss_ret (sv_pD (sv_tup (ds := [.str "refused", .list ((refB .br).map .bool)]) (sa_ims sv_str (sa_ims (sv_var rfl) sa_nil)) (by show 2 ≤ sizeLine; decide))))
      | tl =>
        refine .ok (ss_tryBad (tb := tbT K cBk cPr cBB cBT cBN cBR cTL) (i := 4) (o := .rt _) (G1 := [.im (isD (.str "rest")), .im (isI cPr (pairF cBk m (wD F) m (wD S))), .im (isD r), .im (isD (.int 0)), .no, .no]) ?_ T.m_cTL (Nat.le_of_ble_eq_true rfl) ?_ (fun _ _ z => by cases z))
        · intro _
          exact ss_seq (ss_if0 w0 ss_next) (ss_retBad (sb_call (S := S_rest_of K cBk cPr cBB cBR cTL) (sa_im (sv_var rfl) (sa_im (sv_var rfl) sa_nil)) ⟨((m, F, S), r), hx, hq.1, hq.2⟩ rfl (hres.trans (by rw [ho]; rfl))))
        · intro a
          exact ss_seq (ss_set (P := isD (.list ((refB .tl).map .bool))) (sv_svl (svl_lst (ds := (refB .tl).map .bool) (sa_ims (sv_isX (sv_var rfl) sv_val T.x_cTL T.k_cTL_cBB) (sa_ims (sv_isX (sv_var rfl) sv_val T.x_cTL T.k_cTL_cBT) (sa_ims (sv_isX (sv_var rfl) sv_val T.x_cTL T.k_cTL_cBN) (sa_ims (sv_isX (sv_var rfl) sv_val T.x_cTL T.k_cTL_cBR) (sa_ims (sv_isX (sv_var rfl) sv_val T.x_cTL T.k_cTL_cTL) sa_nil))))) (by show 5 ≤ sizeLine; decide)))) (ss_ret (sv_pD (sv_tup (ds := [.str "refused", .list ((refB .tl).map .bool)]) (sa_ims sv_str (sa_ims (sv_var rfl) sa_nil)) (by show 2 ≤ sizeLine; decide))))
/-! ### _law_refused -/
def S_refused : Fs := ⟨Er, 1, fun x => [.im (isD (.int (erN x)))], fun _ => rfl, fun x => .ok (isD (refD x))⟩
abbrev st__law_refused : Stmt := top 47
theorem sc__law_refused : FnScope ["at", "k"] ["at"] (defScope st__law_refused) := ⟨rfl, rfl, rfl, by decide +kernel, rfl, by decide +kernel, by decide +kernel⟩
theorem ok__law_refused {f : Addr} {fd : FuncData} (T : Txt K mg cAE cBB cBT cBN cBR cTL cBk cPr aE0 aEV aSI aBG)  (F : Fun K "_law_refused" "_law_refused" st__law_refused f fd) : FnOk P w K mg base (L2.CX P w) 1 f fd ["at"] (spF (S_refused)) := by
  refine fn_ok F sc__law_refused rfl fun cdv A outer s H E hr => ?_
  have tk : Takes (cxD P w K mg base ["at", "k"] "_law_refused" st__law_refused f cdv A outer s H E) (fun cls d _ H => E cls d H) := takes_of rfl rfl rfl rfl
  have hx := pxM tk
  have nd := sc__law_refused.nd
  refine ⟨_, (pss_one (ps_ret (pe_tup (pa_cons pe_str (pa_cons (pe_lc (own := [("k", 1)]) (g := gName 1) (tt := tYes) rfl nd (pi_range1 (by rfl) T.no_range (pa_cons pe_int pa_nil)) (blkOk_by (N := ["at", "k"]) (sc := defScope st__law_refused) (by decide +kernel)) (fun _ _ _ _ _ => pg_name (i := 1) nd rfl (Or.inl rfl)) (fun _ _ _ _ _ => pts_nil) (fun _ _ _ _ _ => (pe_cmpR (r := rEqD K) (op_eqD hr.units) (pv 0) (pv 1) (nomark _)))) pa_nil))))), ?_⟩
  intro x
  have e : (List.range (5 : Int).toNat).map (fun i : Nat => PyData.bool (decide (erN x = (i : Int)))) = (refB x).map .bool := by cases x <;> rfl
  refine .ok (ss_ret (sv_tup (ds := [.str "refused", .list ((refB x).map .bool)]) (sa_ims sv_str (sa_ims (sv_svl (svl_is (svl_lcMapR (j := 1) (n := 5) sv_int (fun i => .bool (decide (erN x = (i : Int)))) (Nat.le_of_ble_eq_true rfl) (by decide) (by decide) fun i hi => ?_) e)) sa_nil)) (by show 2 ≤ sizeLine; decide)))
  exact sv_eqI (sv_var rfl) (sv_var rfl)
end
end K60

namespace K60
open PySem L2 Evl Mini PyProof.Rows
def stL (s : Str) (w : List Int) : List Int × List Int := (if (s == "first") = true then w else [], if (s == "second") = true then w else [])
def resD : Option (List Int × List Int) → PyData
  | none => .none
  | some p => restP p.1 p.2
def lawQ (F S : List (List Int)) : List Int → List Int × List Int → Option (List Int × List Int)
  | [], p => some p
  | n :: r, p => match behF p.1 p.2 (wAt F n) (wAt S n) with
    | none => none
    | some q => lawQ F S r q
theorem lawQ_snoc (F S : List (List Int)) (n : Int) : ∀ (r : List Int) (p : List Int × List Int), lawQ F S (r ++ [n]) p = match lawQ F S r p with
    | none => none
    | some q => behF q.1 q.2 (wAt F n) (wAt S n)
  | [], p => by
    show (match behF p.1 p.2 (wAt F n) (wAt S n) with | none => none | some q => lawQ F S [] q) = behF p.1 p.2 (wAt F n) (wAt S n)
    cases behF p.1 p.2 (wAt F n) (wAt S n) <;> rfl
  | k :: r, p => by
    show (match behF p.1 p.2 (wAt F k) (wAt S k) with | none => none | some q => lawQ F S (r ++ [n]) q) = match (match behF p.1 p.2 (wAt F k) (wAt S k) with | none => none | some q => lawQ F S r q) with
      | none => none
      | some q => behF q.1 q.2 (wAt F n) (wAt S n)
    cases behF p.1 p.2 (wAt F k) (wAt S k) with
    | none => rfl
    | some q => exact lawQ_snoc F S n r q
theorem behF_side {x y f g : List Int} {p : List Int × List Int} (h : behF x y f g = some p) : p.1 = [] ∨ p.2 = [] := by
  unfold behF at h
  split at h
  · cases h
    rcases Nat.le_total (x ++ f).length (y ++ g).length with z | z
    · exact .inl (List.drop_eq_nil_of_le (by omega))
    · exact .inr (List.drop_eq_nil_of_le (by omega))
  · cases h
theorem lawQ_side {F S : List (List Int)} : ∀ {r : List Int} {p q : List Int × List Int}, lawQ F S r p = some q → (p.1 = [] ∨ p.2 = []) → (q.1 = [] ∨ q.2 = [])
  | [], p, q, h, hp => by cases h; exact hp
  | n :: r, p, q, h, hp => by
    cases hb : behF p.1 p.2 (wAt F n) (wAt S n) with
    | none =>
      have h : (match behF p.1 p.2 (wAt F n) (wAt S n) with | none => none | some q => lawQ F S r q) = some q := h
      rw [hb] at h; cases h
    | some p' =>
      have h : (match behF p.1 p.2 (wAt F n) (wAt S n) with | none => none | some q => lawQ F S r q) = some q := h
      rw [hb] at h
      exact lawQ_side h (behF_side hb)
theorem lawQ_len {F S : List (List Int)} : ∀ {r : List Int} {p q : List Int × List Int}, (∀ n ∈ r, (wAt F n).length ≤ 4 ∧ (wAt S n).length ≤ 4) → lawQ F S r p = some q → q.1.length ≤ p.1.length + 4 * r.length ∧ q.2.length ≤ p.2.length + 4 * r.length
  | [], p, q, _, h => by cases h; simp
  | n :: r, p, q, hw, h => by
    cases hb : behF p.1 p.2 (wAt F n) (wAt S n) with
    | none =>
      have h : (match behF p.1 p.2 (wAt F n) (wAt S n) with | none => none | some q => lawQ F S r q) = some q := h
      rw [hb] at h; cases h
    | some p' =>
      have h : (match behF p.1 p.2 (wAt F n) (wAt S n) with | none => none | some q => lawQ F S r q) = some q := h
      rw [hb] at h
      have i := lawQ_len (fun n hn => hw n (List.mem_cons_of_mem _ hn)) h
      have l := behF_len hb
      have w := hw n (List.mem_cons_self ..)
      rw [List.length_cons]
      omega
theorem runQ_small {F S : List (List Int)} : ∀ {r : List Int} {p : List Int × List Int}, (∀ n ∈ r, (wAt F n).length ≤ 4 ∧ (wAt S n).length ≤ 4) → p.1.length + p.2.length + 8 * r.length ≤ 5000 → runQ F S r p = some (lawQ F S r p)
  | [], p, _, _ => rfl
  | n :: r, p, hw, hl => by
    show (match behF p.1 p.2 (wAt F n) (wAt S n) with | none => some none | some q => if q.1.length + q.2.length ≤ 5000 then runQ F S r q else none) = some (match behF p.1 p.2 (wAt F n) (wAt S n) with | none => none | some q => lawQ F S r q)
    cases hb : behF p.1 p.2 (wAt F n) (wAt S n) with
    | none => rfl
    | some q =>
      have l := behF_len hb
      have w := hw n (List.mem_cons_self ..)
      rw [List.length_cons] at hl
      show (if q.1.length + q.2.length ≤ 5000 then runQ F S r q else none) = some (lawQ F S r q)
      rw [if_pos (by omega)]
      exact runQ_small (fun n hn => hw n (List.mem_cons_of_mem _ hn)) (by omega)
/-- a rest's side and word -/
def sideP (p : List Int × List Int) : Str := if p.1 ≠ [] then "first" else if p.2 ≠ [] then "second" else "even"
def wordP (p : List Int × List Int) : List Int := if p.1 ≠ [] then p.1 else if p.2 ≠ [] then p.2 else []
theorem restP_eq (p : List Int × List Int) : restP p.1 p.2 = .tuple [.str (sideP p), .tuple ((wordP p).map .int)] := by
  unfold restP sideP wordP
  by_cases c1 : p.1 ≠ []
  · rw [if_pos c1, if_pos c1, if_pos c1]
  · rw [if_neg c1, if_neg c1, if_neg c1]
    by_cases c2 : p.2 ≠ []
    · rw [if_pos c2, if_pos c2, if_pos c2]
    · rw [if_neg c2, if_neg c2, if_neg c2]; rfl
theorem stL_P {p : List Int × List Int} (h : p.1 = [] ∨ p.2 = []) : stL (sideP p) (wordP p) = p := by
  obtain ⟨x, y⟩ := p
  unfold stL sideP wordP
  have e1 : (("first" : Str) == "first") = true := by decide +kernel
  have e2 : (("first" : Str) == "second") = false := by decide +kernel
  have e3 : (("second" : Str) == "first") = false := by decide +kernel
  have e4 : (("second" : Str) == "second") = true := by decide +kernel
  have e5 : (("even" : Str) == "first") = false := by decide +kernel
  have e6 : (("even" : Str) == "second") = false := by decide +kernel
  dsimp only at h ⊢
  by_cases c1 : x ≠ []
  · rw [if_pos c1, if_pos c1, e1, e2, if_pos rfl, if_neg Bool.false_ne_true]
    rcases h with h | h
    · exact absurd h c1
    · rw [h]
  · rw [if_neg c1, if_neg c1]
    have hx : x = [] := Classical.not_not.mp c1
    by_cases c2 : y ≠ []
    · rw [if_pos c2, if_pos c2, e3, e4, if_pos rfl, if_neg Bool.false_ne_true, hx]
    · rw [if_neg c2, if_neg c2, e5, e6, if_neg Bool.false_ne_true, hx, Classical.not_not.mp c2]
theorem sideP_ok (p : List Int × List Int) : PyData.strOk (sideP p) = true := by
  unfold sideP
  split
  · decide +kernel
  · split <;> decide +kernel
theorem wordP_len (p : List Int × List Int) : (wordP p).length ≤ max p.1.length p.2.length := by
  unfold wordP
  split
  · omega
  · split
    · omega
    · exact Nat.zero_le _
section
variable {P : Program} {w : World} {K : PySem.W.Frag} {mg : Str → Option Value} {base : Heap} {cAE cBB cBT cBN cBR cTL cBk cPr aE0 aEV aSI aBG : Addr}
/-! ### _law_step -/
def S_lstep : Fs := ⟨{x : (List (List Int) × List (List Int)) × (Str × List Int) × Int // PyData.strOk x.2.1.1 = true ∧ (x.2.1.2.length ≤ 100000 ∧ (wAt x.1.1 x.2.2).length ≤ 5000 ∧ (wAt x.1.2 x.2.2).length ≤ 5000) ∧ 0 ≤ x.2.2 ∧ x.2.2 < x.1.1.length ∧ x.2.2 < x.1.2.length}, 4,
  fun x => [.im (isD (.list (wD x.1.1.1))), .im (isD (.list (wD x.1.1.2))), .im (isD (.tuple [.str x.1.2.1.1, .tuple (x.1.2.1.2.map .int)])), .im (isD (.int x.1.2.2))], fun _ => rfl,
  fun x => .ok (isD (resD (behF (stL x.1.2.1.1 x.1.2.1.2).1 (stL x.1.2.1.1 x.1.2.1.2).2 (wAt x.1.1.1 x.1.2.2) (wAt x.1.1.2 x.1.2.2))))⟩
abbrev st__law_step : Stmt := top 45
theorem sc__law_step : FnScope ["first", "second", "rest", "number", "one", "two", "least"] ["first", "second", "rest", "number"] (defScope st__law_step) := ⟨rfl, rfl, rfl, by decide +kernel, rfl, by decide +kernel, by decide +kernel⟩
theorem ok__law_step {f : Addr} {fd : FuncData} (T : Txt K mg cAE cBB cBT cBN cBR cTL cBk cPr aE0 aEV aSI aBG)  (F : Fun K "_law_step" "_law_step" st__law_step f fd) : FnOk P w K mg base (L2.CX P w) 1 f fd ["first", "second", "rest", "number"] (spF (S_lstep)) := by
  refine fn_ok F sc__law_step rfl fun cdv A outer s H E hr => ?_
  have tk : Takes (cxD P w K mg base ["first", "second", "rest", "number", "one", "two", "least"] "_law_step" st__law_step f cdv A outer s H E) (fun cls d _ H => E cls d H) := takes_of rfl rfl rfl rfl
  have hx := pxM tk
  have nd := sc__law_step.nd
  refine ⟨_, (pss_cons (ps_par (i := 4) (j := 5) rfl nd rfl rfl (by decide) rfl rfl (pa_cons (pe_ix ix_seq (pv 0) (pv 3) (fun _ _ => rfl)) (pa_cons (pe_ix ix_seq (pv 1) (pv 3) (fun _ _ => rfl)) pa_nil)) (by rfl))
 (pss_cons (ps_if (pt_cmpR (op_eqD hr.units) (pe_ix ix_seq (pv 2) pe_int (fun _ _ => rfl)) pe_str (nomark _)) (pss_one (ps_set (i := 4) nd rfl (Or.inl rfl) (pe_op op_uAdd (pe_ix ix_seq (pv 2) pe_int (fun _ _ => rfl)) (pv 4)))) pss_nil)
 (pss_cons (ps_if (pt_cmpR (op_eqD hr.units) (pe_ix ix_seq (pv 2) pe_int (fun _ _ => rfl)) pe_str (nomark _)) (pss_one (ps_set (i := 5) nd rfl (Or.inl rfl) (pe_op op_uAdd (pe_ix ix_seq (pv 2) pe_int (fun _ _ => rfl)) (pv 5)))) pss_nil)
 (pss_cons (ps_set (i := 6) nd rfl (Or.inl rfl) (pe_callB (call_min2 rfl) (by rfl) T.no_min (by decide +kernel) (pa_cons (pe_callB call_len (by rfl) T.no_len (by decide +kernel) (pa_cons (pv 4) pa_nil)) (pa_cons (pe_callB call_len (by rfl) T.no_len (by decide +kernel) (pa_cons (pv 5) pa_nil)) pa_nil))))
 (pss_cons (ps_if (pt_cmpR (op_neD hr.units) (pe_slice sl_uSl (pv 4) po_none (po_some (pv 6))) (pe_slice sl_uSl (pv 5) po_none (po_some (pv 6))) (nomark _)) (pss_one (ps_ret pe_non)) pss_nil)
 (pss_cons (ps_if (pt_cmpR (op_eqD hr.units) (pe_callB call_len (by rfl) T.no_len (by decide +kernel) (pa_cons (pv 4) pa_nil)) (pe_callB call_len (by rfl) T.no_len (by decide +kernel) (pa_cons (pv 5) pa_nil)) (nomark _)) (pss_one (ps_ret (pe_tup (pa_cons pe_str (pa_cons (pe_tup pa_nil) pa_nil))))) pss_nil)
 (pss_cons (ps_if (pt_cmpR op_gt (pe_callB call_len (by rfl) T.no_len (by decide +kernel) (pa_cons (pv 4) pa_nil)) (pv 6) (nomark _)) (pss_one (ps_ret (pe_tup (pa_cons pe_str (pa_cons (pe_slice sl_uSl (pv 4) (po_some (pv 6)) po_none) pa_nil))))) pss_nil)
 (pss_one (ps_ret (pe_tup (pa_cons pe_str (pa_cons (pe_slice sl_uSl (pv 5) (po_some (pv 6)) po_none) pa_nil)))))))))))), ?_⟩
  intro x
  obtain ⟨⟨⟨F, S⟩, ⟨s, w⟩, n⟩, hs, ⟨lw, lf, lg⟩, h0, h1, h2⟩ := x
  have hs : PyData.strOk s = true := hs
  have lw : w.length ≤ 100000 := lw
  have lf : (wAt F n).length ≤ 5000 := lf
  have lg : (wAt S n).length ≤ 5000 := lg
  have h0 : 0 ≤ n := h0
  have h1 : n < F.length := h1
  have h2 : n < S.length := h2
  have hz : (sizeLine : Nat) = 16777216 := sizeLine_eq
  have at1 : ∀ {W : List (List Int)}, n < W.length → atI (wD W) n = some (.tuple ((wAt W n).map .int)) := fun {W} h => by
    have e : ((n.toNat : Nat) : Int) = n := by omega
    rw [← e]
    exact atI_nat (by rw [e]; exact wD_get (by omega))
  show Mini.Ans _ _ [.im (isD (.list (wD F))), .im (isD (.list (wD S))), .im (isD (.tuple [.str s, .tuple (w.map .int)])), .im (isD (.int n)), .no, .no, .no] (.ok (isD (resD (behF (stL s w).1 (stL s w).2 (wAt F n) (wAt S n)))))
  obtain ⟨X, hX⟩ : ∃ X, X = (stL s w).1 := ⟨_, rfl⟩
  obtain ⟨Y, hY⟩ : ∃ Y, Y = (stL s w).2 := ⟨_, rfl⟩
  have X1 : (s == "first") = true → X = w := fun z => by rw [hX]; exact if_pos z
  have X0 : (s == "first") = false → X = [] := fun z => by rw [hX]; exact if_neg (by rw [z]; exact Bool.false_ne_true)
  have Y1 : (s == "second") = true → Y = w := fun z => by rw [hY]; exact if_pos z
  have Y0 : (s == "second") = false → Y = [] := fun z => by rw [hY]; exact if_neg (by rw [z]; exact Bool.false_ne_true)
  have lX : X.length ≤ 100000 := by cases z : (s == "first") with
    | true => rw [X1 z]; exact lw
    | false => rw [X0 z]; exact Nat.zero_le _
  have lY : Y.length ≤ 100000 := by cases z : (s == "second") with
    | true => rw [Y1 z]; exact lw
    | false => rw [Y0 z]; exact Nat.zero_le _
  rw [← hX, ← hY]
  generalize hf : wAt F n = f at lf at1 ⊢
  generalize hg : wAt S n = g at lg
  have r0 : ∀ {G : Gm}, G[2]? = some (.im (isD (.tuple [.str s, .tuple (w.map .int)]))) → Sv (tOp (rIx K) (tVar 2) (tC (.int 0))) G (isD (.str s)) := fun h => sv_ixT (i := ((0 : Nat) : Int)) (sv_var h) sv_int (atI_nat rfl)
  have r1 : ∀ {G : Gm}, G[2]? = some (.im (isD (.tuple [.str s, .tuple (w.map .int)]))) → Sv (tOp (rIx K) (tVar 2) (tC (.int 1))) G (isD (.tuple (w.map .int))) := fun h => sv_ixT (i := ((1 : Nat) : Int)) (sv_var h) sv_int (atI_nat rfl)
  have tq : ∀ {G : Gm} (z : Str), PyData.strOk z = true → G[2]? = some (.im (isD (.tuple [.str s, .tuple (w.map .int)]))) → St' (tTest (tOp (rEqD K) (tOp (rIx K) (tVar 2) (tC (.int 0))) (tC (.str z)))) G (s == z) := fun z hz h =>
    st_is (st_test (sv_eq (d := .str s) (e := .str z) (r0 h) sv_str (shStr s hs) (shStr z hz))) (by rw [PyData.eqv])
  have aF : atI (wD F) n = some (.tuple (f.map .int)) := by
    have e : ((n.toNat : Nat) : Int) = n := by omega
    rw [← e, ← hf]
    exact atI_nat (wD_get (by omega))
  have aS : atI (wD S) n = some (.tuple (g.map .int)) := by
    have e : ((n.toNat : Nat) : Int) = n := by omega
    rw [← e, ← hg]
    exact atI_nat (wD_get (by omega))
  let B0 : Sl → Sl → Sl → Gm := fun a b c => [.im (isD (.list (wD F))), .im (isD (.list (wD S))), .im (isD (.tuple [.str s, .tuple (w.map .int)])), .im (isD (.int n)), a, b, c]
  refine .ok (ss_seq (ss_par (P := isD (.tuple (f.map .int))) (P' := isD (.tuple (g.map .int))) (sv_ixL (rl_sv (sv_var rfl)) (sv_var rfl) aF) (sv_ixL (rl_sv (sv_var rfl)) (sv_var rfl) aS)) ?_)
  refine ss_seq (G1 := B0 (.im (isD (.tuple ((X ++ f).map .int)))) (.im (isD (.tuple (g.map .int)))) .no) (ss_if (b := s == "first") (tq _ (by decide +kernel) rfl) (fun z => ?_) fun z => ?_) ?_
  · rw [X1 z, List.map_append]
    exact ss_set (sv_catT (r1 rfl) (sv_var rfl) (by rw [List.length_map, List.length_map]; omega))
  · rw [X0 z]; exact ss_next
  refine ss_seq (G1 := B0 (.im (isD (.tuple ((X ++ f).map .int)))) (.im (isD (.tuple ((Y ++ g).map .int)))) .no) (ss_if (b := s == "second") (tq _ (by decide +kernel) rfl) (fun z => ?_) fun z => ?_) ?_
  · rw [Y1 z, List.map_append (l₁ := w)]
    exact ss_set (sv_catT (r1 rfl) (sv_var rfl) (by rw [List.length_map, List.length_map]; omega))
  · rw [Y0 z]; exact ss_next
  have z1 : (X ++ f).length ≤ sizeLine := by rw [List.length_append]; omega
  have z2 : (Y ++ g).length ≤ sizeLine := by rw [List.length_append]; omega
  unfold behF
  generalize X ++ f = u at z1 ⊢
  generalize Y ++ g = v at z2 ⊢
  have lu : ∀ {G : Gm}, G[4]? = some (.im (isD (.tuple (u.map .int)))) → Sv (tCB (fun xs H Q => ∃ x n, xs = [x] ∧ LenV K x H n ∧ Q (.int n) H) (tCons (tVar 4) tNil)) G (isD (.int ((u.length : Nat) : Int))) := fun h => sv_is (sv_lenT (ds := u.map .int) (sv_var h)) (by rw [List.length_map])
  have lv : ∀ {G : Gm}, G[5]? = some (.im (isD (.tuple (v.map .int)))) → Sv (tCB (fun xs H Q => ∃ x n, xs = [x] ∧ LenV K x H n ∧ Q (.int n) H) (tCons (tVar 5) tNil)) G (isD (.int ((v.length : Nat) : Int))) := fun h => sv_is (sv_lenT (ds := v.map .int) (sv_var h)) (by rw [List.length_map])
  refine ss_seq (ss_set (P := isD (.int ((min u.length v.length : Nat) : Int))) (sv_is (sv_min2 (lu rfl) (lv rfl)) (by congr 1; split <;> omega))) ?_
  obtain ⟨k, hk⟩ : ∃ k, k = min u.length v.length := ⟨_, rfl⟩
  rw [← hk]
  have tk' : ∀ {G : Gm} {m : Nat} {x : List Int}, G[m]? = some (.im (isD (.tuple (x.map .int)))) → G[6]? = some (.im (isD (.int (k : Int)))) → Sv (tSl (uSl K) (tVar m) tNoPart (tPart (tVar 6))) G (isD (.tuple ((x.take k).map .int))) := fun {G m x} h h6 =>
    sv_is (sv_sliceT (ds := x.map .int) (sv_var h) so_none (so_some (sv_var h6))) (by rw [cut_take _ (by omega), Int.toNat_natCast, List.map_take])
  have dr' : ∀ {G : Gm} {m : Nat} {x : List Int}, G[m]? = some (.im (isD (.tuple (x.map .int)))) → G[6]? = some (.im (isD (.int (k : Int)))) → Sv (tSl (uSl K) (tVar m) (tPart (tVar 6)) tNoPart) G (isD (.tuple ((x.drop k).map .int))) := fun {G m x} h h6 =>
    sv_is (sv_sliceT (ds := x.map .int) (sv_var h) (so_some (sv_var h6)) so_none) (by rw [cut_drop _ (by omega), Int.toNat_natCast, List.map_drop])
  have two : ∀ {G : Gm} {a : TE} {z : Str} {d : PyData}, Sv a G (isD d) → Sv (tTup (tCons (tC (.str z)) (tCons a tNil))) G (isD (.tuple [.str z, d])) := fun {G a z d} h => sv_tup (ds := [.str z, d]) (sa_ims sv_str (sa_ims h sa_nil)) (by show 2 ≤ sizeLine; decide)
  have t : St' (tTest (tOp (rNeD K) (tSl (uSl K) (tVar 4) tNoPart (tPart (tVar 6))) (tSl (uSl K) (tVar 5) tNoPart (tPart (tVar 6))))) (B0 (.im (isD (.tuple (u.map .int)))) (.im (isD (.tuple (v.map .int)))) (.im (isD (.int (k : Int))))) (!decide (u.take k = v.take k)) :=
    st_is (st_test (sv_ne (tk' (x := u) rfl rfl) (tk' (x := v) rfl rfl) (shaped_tints _) (shaped_tints _))) (by rw [eqv_tints])
  by_cases c : u.take k = v.take k
  · rw [if_pos c]
    refine ss_seq (ss_if0 (st_is t (by rw [decide_eq_true c]; rfl)) ss_next) ?_
    show Ss _ _ _ (.rt (isD (restP (u.drop k) (v.drop k))))
    unfold restP
    by_cases e : u.length = v.length
    · rw [if_neg (by rw [Classical.not_not]; exact List.drop_eq_nil_of_le (by omega)), if_neg (by rw [Classical.not_not]; exact List.drop_eq_nil_of_le (by omega))]
      exact ss_seqRt (ss_if1 (st_is (st_test (sv_eqI (lu rfl) (lv rfl))) (decide_eq_true (by omega))) (ss_ret (two (sv_tup (ds := []) sa_nil (Nat.zero_le _)))))
    · refine ss_seq (ss_if0 (st_is (st_test (sv_eqI (lu rfl) (lv rfl))) (decide_eq_false (by omega))) ss_next) ?_
      by_cases e2 : k < u.length
      · rw [if_pos (by intro q; have := congrArg List.length q; rw [List.length_drop, List.length_nil] at this; omega)]
        exact ss_seqRt (ss_if1 (st_is (st_test (sv_cmp (g := fun i j => decide (j < i)) (lu rfl) (sv_var rfl))) (decide_eq_true (by omega))) (ss_ret (two (dr' (x := u) rfl rfl))))
      · rw [if_neg (by rw [Classical.not_not]; exact List.drop_eq_nil_of_le (by omega)), if_pos (by intro q; have := congrArg List.length q; rw [List.length_drop, List.length_nil] at this; omega)]
        exact ss_seq (ss_if0 (st_is (st_test (sv_cmp (g := fun i j => decide (j < i)) (lu rfl) (sv_var rfl))) (decide_eq_false (by omega))) ss_next) (ss_ret (two (dr' (x := v) rfl rfl)))
  · rw [if_neg c]
    exact ss_seqRt (ss_if1 (st_is t (by rw [decide_eq_false c]; rfl)) (ss_ret sv_non))
/-! ### _law_behind -/
def S_lbehind : Fs := ⟨{x : (List (List Int) × List (List Int)) × List Int // x.2.length ≤ 100 ∧ ∀ n ∈ x.2, ((wAt x.1.1 n).length ≤ 4 ∧ (wAt x.1.2 n).length ≤ 4) ∧ 0 ≤ n ∧ n < x.1.1.length ∧ n < x.1.2.length}, 3,
  fun x => [.im (isD (.list (wD x.1.1.1))), .im (isD (.list (wD x.1.1.2))), .im (isD (.tuple (x.1.2.map .int)))], fun _ => rfl, fun x => .ok (isD (resD (lawQ x.1.1.1 x.1.1.2 x.1.2 ([], []))))⟩
abbrev st__law_behind : Stmt := top 48
theorem sc__law_behind : FnScope ["first", "second", "row", "rest", "number"] ["first", "second", "row"] (defScope st__law_behind) := ⟨rfl, rfl, rfl, by decide +kernel, rfl, by decide +kernel, by decide +kernel⟩
theorem ok__law_behind {f : Addr} {fd : FuncData} (T : Txt K mg cAE cBB cBT cBN cBR cTL cBk cPr aE0 aEV aSI aBG) (F__law_step : FnC P w K mg base 1 "_law_step" (spF (S_lstep))) (F : Fun K "_law_behind" "_law_behind" st__law_behind f fd) : FnOk P w K mg base (L2.CX P w) 2 f fd ["first", "second", "row"] (spF (S_lbehind)) := by
  refine fn_ok F sc__law_behind rfl fun cdv A outer s H E hr => ?_
  have tk : Takes (cxD P w K mg base ["first", "second", "row", "rest", "number"] "_law_behind" st__law_behind f cdv A outer s H E) (fun cls d _ H => E cls d H) := takes_of rfl rfl rfl rfl
  have hx := pxM tk
  have nd := sc__law_behind.nd
  refine ⟨_, (pss_cons (ps_set (i := 3) nd rfl (Or.inl rfl) (pe_tup (pa_cons pe_str (pa_cons (pe_tup pa_nil) pa_nil))))
 (pss_cons (ps_for (passes_of rfl) rfl (pi_tup (pv 2)) (pg_name (i := 4) nd rfl (Or.inl rfl)) (pss_one (ps_if (pt_cmpR op_notN (pv 3) pe_non (nomark _)) (pss_one (ps_set (i := 3) nd rfl (Or.inl rfl) (pe_fn F__law_step hr hx (pa_cons (pv 0) (pa_cons (pv 1) (pa_cons (pv 3) (pa_cons (pv 4) pa_nil))))))) pss_nil)))
 (pss_one (ps_ret (pv 3))))), ?_⟩
  intro x
  obtain ⟨⟨⟨F, S⟩, row⟩, hl, hw⟩ := x
  have hl : row.length ≤ 100 := hl
  have hw : ∀ n ∈ row, ((wAt F n).length ≤ 4 ∧ (wAt S n).length ≤ 4) ∧ 0 ≤ n ∧ n < F.length ∧ n < S.length := hw
  have two : ∀ {G : Gm} {a : TE} {z : Str} {d : PyData}, Sv a G (isD d) → Sv (tTup (tCons (tC (.str z)) (tCons a tNil))) G (isD (.tuple [.str z, d])) := fun {G a z d} h => sv_tup (ds := [.str z, d]) (sa_ims sv_str (sa_ims h sa_nil)) (by show 2 ≤ sizeLine; decide)
  let G0 : Nat → Gm := fun i => [.im (isD (.list (wD F))), .im (isD (.list (wD S))), .im (isD (.tuple (row.map .int))), .im (isD (resD (lawQ F S (row.take i) ([], [])))), .no]
  show Mini.Ans _ _ [.im (isD (.list (wD F))), .im (isD (.list (wD S))), .im (isD (.tuple (row.map .int))), .no, .no] (.ok (isD (resD (lawQ F S row ([], [])))))
  refine .ok (ss_seq (G1 := G0 0) (ss_set (two (sv_tup (ds := []) sa_nil (Nat.zero_le _)))) (ss_seq (ss_forT (K := K) (ds := row.map .int) (sv_var rfl) G0 row.length (by rw [List.length_map]; exact Nat.le_refl _) (Le.refl _) (fun _ _ => Nat.le_of_ble_eq_true rfl) (fun i d hd hi => ?_) (.inl ⟨by rw [List.length_map], rfl⟩)) ?_))
  · rw [List.getElem?_map] at hd
    obtain ⟨n, hn, rfl⟩ : ∃ n, row[i]? = some n ∧ d = .int n := by
      cases h : row[i]? with
      | none => rw [h] at hd; cases hd
      | some a => rw [h] at hd; exact ⟨a, rfl, (Option.some.inj hd).symm⟩
    refine .inl ?_
    show Ss _ _ [.im (isD (.list (wD F))), .im (isD (.list (wD S))), .im (isD (.tuple (row.map .int))), .im (isD (resD (lawQ F S (row.take i) ([], [])))), .im (isD (.int n))] (.nx [.im (isD (.list (wD F))), .im (isD (.list (wD S))), .im (isD (.tuple (row.map .int))), .im (isD (resD (lawQ F S (row.take (i + 1)) ([], [])))), .no])
    rw [List.take_succ, hn, show row.take i ++ (some n).toList = row.take i ++ [n] from rfl, lawQ_snoc]
    have hn' := hw n (List.mem_of_getElem? hn)
    cases hq : lawQ F S (row.take i) ([], []) with
    | none => exact ss_nxLe (ss_if0 (st_is (st_test (sv_notN (d := .none) (sv_var rfl))) rfl) ss_next) (by repeat first | exact Le.nil | refine Le.eq ?_ | refine Le.no ?_)
    | some q =>
      have hs := lawQ_side hq (.inl rfl)
      have hln := lawQ_len (fun n hn => (hw n (List.mem_of_mem_take hn)).1) hq
      rw [List.length_take] at hln
      have hwl := wordP_len q
      dsimp only at hln
      have e := restP_eq q
      have est := stL_P hs
      have st : Sv (tCallS (spF S_lstep) (fun _ => E) (tCons (tVar 0) (tCons (tVar 1) (tCons (tVar 3) (tCons (tVar 4) tNil))))) [.im (isD (.list (wD F))), .im (isD (.list (wD S))), .im (isD (.tuple (row.map .int))), .im (isD (restP q.1 q.2)), .im (isD (.int n))] (isD (resD (behF q.1 q.2 (wAt F n) (wAt S n)))) := by
        rw [e]
        refine sv_call (S := S_lstep) (sa_im (sv_var rfl) (sa_im (sv_var rfl) (sa_im (sv_var rfl) (sa_im (sv_var rfl) sa_nil)))) ⟨((F, S), (sideP q, wordP q), n), sideP_ok q, ⟨?_, Nat.le_trans hn'.1.1 (by decide), Nat.le_trans hn'.1.2 (by decide)⟩, hn'.2⟩ rfl ?_
        · have : q.1.length ≤ 400 := by simp only [List.length_nil] at hln; omega
          have : q.2.length ≤ 400 := by simp only [List.length_nil] at hln; omega
          show (wordP q).length ≤ 100000
          omega
        · show Rs.ok (isD (resD (behF (stL (sideP q) (wordP q)).1 (stL (sideP q) (wordP q)).2 (wAt F n) (wAt S n)))) = _
          rw [est]
      exact ss_nxLe (ss_if1 (st_is (st_test (sv_notNb (d := restP q.1 q.2) (sv_var rfl))) (by rw [e]; rfl)) (ss_set st)) (by repeat first | exact Le.nil | refine Le.eq ?_ | refine Le.no ?_)
  · show Ss _ _ [.im (isD (.list (wD F))), .im (isD (.list (wD S))), .im (isD (.tuple (row.map .int))), .im (isD (resD (lawQ F S (row.take row.length) ([], [])))), .no] _
    rw [List.take_length]
    exact ss_ret (sv_var rfl)
end
end K60

namespace K60
open PySem L2 Evl Mini PyProof.Rows
/-! ### words of the law -/
def wordL (D : List Int) (letters most : Int) (k : Nat) : List Int := (List.range (1 + atD D (8 * k + 7) % most).toNat).map fun j => atD D (8 * k + j) % letters
def wordsL (D : List Int) (size letters most : Int) : List (List Int) := (List.range size.toNat).map (wordL D letters most)
theorem wordsL_len {D : List Int} {size letters most : Int} : (wordsL D size letters most).length = size.toNat := by unfold wordsL; rw [List.length_map, List.length_range]
theorem wordL_ok {D : List Int} {letters most : Int} {k : Nat} (hl : 1 ≤ letters) (hm : 1 ≤ most) (hm2 : most ≤ 4) : 1 ≤ (wordL D letters most k).length ∧ (wordL D letters most k).length ≤ 4 ∧ ∀ v ∈ wordL D letters most k, 0 ≤ v ∧ v < letters := by
  unfold wordL
  have h0 := Int.emod_nonneg (atD D (8 * k + 7)) (show most ≠ 0 by omega)
  have h1 := Int.emod_lt_of_pos (atD D (8 * k + 7)) (show 0 < most by omega)
  refine ⟨by rw [List.length_map, List.length_range]; omega, by rw [List.length_map, List.length_range]; omega, fun v hv => ?_⟩
  obtain ⟨j, _, rfl⟩ := List.mem_map.mp hv
  exact ⟨Int.emod_nonneg _ (by omega), Int.emod_lt_of_pos _ (by omega)⟩
section
variable {P : Program} {w : World} {K : PySem.W.Frag} {mg : Str → Option Value} {base : Heap} {cAE cBB cBT cBN cBR cTL cBk cPr aE0 aEV aSI aBG : Addr}
def S_lwords : Fs := ⟨{x : List Int × Int × Int × Int // 1 ≤ x.2.2.1 ∧ (1 ≤ x.2.2.2 ∧ x.2.2.2 ≤ 4) ∧ (0 ≤ x.2.1 ∧ x.2.1 ≤ 10) ∧ 8 * x.2.1 ≤ x.1.length}, 4,
  fun x => [.im (isD (.list (x.1.1.map .int))), .im (isD (.int x.1.2.1)), .im (isD (.int x.1.2.2.1)), .im (isD (.int x.1.2.2.2))], fun _ => rfl, fun x => .ol (wD (wordsL x.1.1 x.1.2.1 x.1.2.2.1 x.1.2.2.2))⟩
abbrev st__law_words : Stmt := top 44
theorem sc__law_words : FnScope ["draws", "size", "letters", "most", "k", "j"] ["draws", "size", "letters", "most"] (defScope st__law_words) := ⟨rfl, rfl, rfl, by decide +kernel, rfl, by decide +kernel, by decide +kernel⟩
theorem ok__law_words {f : Addr} {fd : FuncData} (T : Txt K mg cAE cBB cBT cBN cBR cTL cBk cPr aE0 aEV aSI aBG)  (F : Fun K "_law_words" "_law_words" st__law_words f fd) : FnOk P w K mg base (L2.CX P w) 1 f fd ["draws", "size", "letters", "most"] (spF (S_lwords)) := by
  refine fn_ok F sc__law_words rfl fun cdv A outer s H E hr => ?_
  have tk : Takes (cxD P w K mg base ["draws", "size", "letters", "most", "k", "j"] "_law_words" st__law_words f cdv A outer s H E) (fun cls d _ H => E cls d H) := takes_of rfl rfl rfl rfl
  have hx := pxM tk
  have nd := sc__law_words.nd
  refine ⟨_, (pss_one (ps_ret (pe_lc (own := [("k", 4)]) (g := gName 4) (tt := tYes) rfl nd (pi_range1 (by rfl) T.no_range (pa_cons (pv 1) pa_nil)) (blkOk_by (N := ["draws", "size", "letters", "most", "k", "j"]) (sc := defScope st__law_words) (by decide +kernel)) (fun _ _ _ _ _ => pg_name (i := 4) nd rfl (Or.inr rfl)) (fun _ _ _ _ _ => pts_nil) (fun _ _ _ _ _ => (pe_tupleOfK (K := K) (by rfl) T.no_tuple (pe_lc (own := [("j", 5)]) (g := gName 5) (tt := tYes) rfl nd (pi_range1 (by rfl) T.no_range (pa_cons (pe_op (r := uAdd K) op_uAdd pe_int (pe_op op_mod (pe_callTy call_int1 (by rfl) T.no_int (by decide +kernel) (pa_cons (pe_ix (r := rIx K) ix_seq (pv 0) (pe_op (r := uAdd K) op_uAdd (pe_op (r := uMul K) op_uMul pe_int (pv 4)) pe_int) (fun _ _ => rfl)) pa_nil)) (pv 3))) pa_nil)) (blkOk_in (N := ["draws", "size", "letters", "most", "k", "j"]) (scD := defScope st__law_words) rfl (by decide +kernel)) (fun _ _ _ _ _ => pg_name (i := 5) nd rfl (Or.inl rfl)) (fun _ _ _ _ _ => pts_nil) (fun _ _ _ _ _ => (pe_op op_mod (pe_callTy call_int1 (by rfl) T.no_int (by decide +kernel) (pa_cons (pe_ix (r := rIx K) ix_seq (pv 0) (pe_op (r := uAdd K) op_uAdd (pe_op (r := uMul K) op_uMul pe_int (pv 4)) (pv 5)) (fun _ _ => rfl)) pa_nil)) (pv 2))))))))), ?_⟩
  intro x
  obtain ⟨⟨D, size, letters, most⟩, hl, ⟨hm1, hm2⟩, ⟨hs0, hs1⟩, hD⟩ := x
  have hl : 1 ≤ letters := hl
  have hm1 : 1 ≤ most := hm1
  have hm2 : most ≤ 4 := hm2
  have hs0 : 0 ≤ size := hs0
  have hs1 : size ≤ 10 := hs1
  have hD : 8 * size ≤ D.length := hD
  show Mini.Ans _ _ [.im (isD (.list (D.map .int))), .im (isD (.int size)), .im (isD (.int letters)), .im (isD (.int most)), .no, .no] (.ol (wD (wordsL D size letters most)))
  have e8 : ∀ {G : Gm} {k : Nat}, G[4]? = some (.im (isD (.int (k : Int)))) → Sv (tOp (uMul K) (tC (.int 8)) (tVar 4)) G (isD (.int (8 * (k : Int)))) := fun h => sv_mul sv_int (sv_var h) (.inl ⟨by decide, by decide⟩)
  have dr : ∀ {G : Gm} {te : TE} {k : Nat}, G[0]? = some (.im (isD (.list (D.map .int)))) → k < D.length → Sv te G (isD (.int (k : Int))) → Sv (tCB cInt (tCons (tOp (rIx K) (tVar 0) te) tNil)) G (isD (.int (atD D k))) := fun {G te k} h hk ht => sv_int1 (sv_ixL (i := ((k : Nat) : Int)) (rl_sv (sv_var h)) ht (atI_ints (ds := D) (k := k) hk))
  refine .ol (ss_retL (svl_is (svl_lcMapR (j := 4) (n := size) (sv_var rfl) (fun k => .tuple ((wordL D letters most k).map .int)) (Nat.le_of_ble_eq_true rfl) (by omega) (by omega) fun k hk => ?_) (by unfold wD wordsL; rw [List.map_map]; rfl)))
  have h0 := Int.emod_nonneg (atD D (8 * k + 7)) (show most ≠ 0 by omega)
  have h1 := Int.emod_lt_of_pos (atD D (8 * k + 7)) (show 0 < most by omega)
  refine sv_tupleL (rl_svl (svl_is (svl_lcMapR (j := 5) (n := 1 + atD D (8 * k + 7) % most) (sv_add sv_int (sv_mod (dr (k := 8 * k + 7) rfl (by omega) (sv_is (sv_add (e8 rfl) sv_int) (by rw [Int.natCast_add, Int.natCast_mul]; rfl))) (sv_var rfl) (by omega))) (fun j => .int (atD D (8 * k + j) % letters)) (Nat.le_of_ble_eq_true rfl) (by omega) (by omega) fun j hj => ?_) (by unfold wordL; rw [List.map_map]; rfl)))
  exact sv_mod (dr (k := 8 * k + j) rfl (by omega) (sv_is (sv_add (e8 rfl) (sv_var rfl)) (by rw [Int.natCast_add, Int.natCast_mul]; rfl))) (sv_var rfl) (by omega)
/-! ### _law_long_ones -/
def zz (n : Nat) : List Int := List.replicate n 0
theorem zz_add (a b : Nat) : zz a ++ zz b = zz (a + b) := (List.replicate_append_replicate ..)
theorem behF_z (a b c d : Nat) : behF (zz a) (zz b) (zz c) (zz d) = some (zz (a + c - min (a + c) (b + d)), zz (b + d - min (a + c) (b + d))) := by
  unfold behF
  rw [zz_add, zz_add]
  have l : ∀ n, (zz n).length = n := fun n => List.length_replicate
  rw [l, l]
  unfold zz
  rw [List.take_replicate, List.take_replicate, List.drop_replicate, List.drop_replicate, if_pos]
  congr 1
  omega
def FZ : List (List Int) := [zz 4999, zz 3]
def SZ : List (List Int) := [zz 1, zz 2]
theorem goodZ {W : List (List Int)} (h1 : W.length ≤ 60) (h : ∀ w ∈ W, ∃ n, w = zz n ∧ 1 ≤ n ∧ n ≤ 5000) : GoodW W 1 := ⟨h1, fun w hw => by
  obtain ⟨n, rfl, a, b⟩ := h w hw
  have l : (zz n).length = n := List.length_replicate
  refine ⟨by omega, by omega, fun v hv => ?_⟩
  rw [List.eq_of_mem_replicate hv]; omega⟩
theorem goodFZ : GoodW FZ 1 := goodZ (by decide) fun w hw => by
  simp only [FZ, List.mem_cons, List.not_mem_nil, or_false] at hw
  rcases hw with rfl | rfl
  · exact ⟨4999, rfl, by omega, by omega⟩
  · exact ⟨3, rfl, by omega, by omega⟩
theorem goodSZ : GoodW SZ 1 := goodZ (by decide) fun w hw => by
  simp only [SZ, List.mem_cons, List.not_mem_nil, or_false] at hw
  rcases hw with rfl | rfl
  · exact ⟨1, rfl, by omega, by omega⟩
  · exact ⟨2, rfl, by omega, by omega⟩
theorem wordB_of {w : List Int} {m : Int} (h1 : 1 ≤ w.length) (h2 : w.length ≤ 5000) (h3 : ∀ v ∈ w, 0 ≤ v ∧ v < m) : isWordB (.tuple (w.map .int)) m = true := by
  show ((w.map PyData.int).all (fun e => belowB e m) && (decide (1 ≤ ((w.map PyData.int).length : Int)) && decide (((w.map PyData.int).length : Int) ≤ 5000))) = true
  rw [List.length_map, decide_eq_true (by omega), decide_eq_true (by omega), Bool.and_true, Bool.and_true, List.all_eq_true]
  · intro e he
    obtain ⟨v, hv, rfl⟩ := List.mem_map.mp he
    exact (belowB_int v m).mpr (h3 v hv)
theorem sd1 : (("first" : Str) ∈ sidesL) := List.mem_cons_self ..
theorem sd2 : (("second" : Str) ∈ sidesL) := List.mem_cons_of_mem _ (List.mem_cons_self ..)
theorem ahead_of {s : Str} {w : List Int} {m : Int} (hs : s ∈ sidesL) (h1 : 1 ≤ w.length) (h2 : w.length ≤ 5000) (h3 : ∀ v ∈ w, 0 ≤ v ∧ v < m) : isRestB (.tuple [.str s, .tuple (w.map .int)]) m = true := by
  show (decide (s ∈ sidesL) && isWordB _ m) = true
  rw [decide_eq_true hs, wordB_of h1 h2 h3]; rfl
/-- a step from a rest that is one -/
theorem stepO_at {m : Int} {F S : List (List Int)} {s : Str} {w : List Int} {n : Int} (he : F.length = S.length) (hr : (evenB (.tuple [.str s, .tuple (w.map .int)]) || isRestB (.tuple [.str s, .tuple (w.map .int)]) m) = true) (h0 : 0 ≤ n) (h1 : n < F.length) :
    stepO m F S (.tuple [.str s, .tuple (w.map .int)]) (.int n) = match behF (stOf s w).1 (stOf s w).2 (wAt F n) (wAt S n) with
        | none => .inl .none
        | some p => if p.1.length + p.2.length ≤ 5000 then .inl (restP p.1 p.2) else .inr .tl := by
  unfold stepO
  rw [if_pos he, if_pos hr, if_pos ((belowB_int n _).mpr ⟨h0, h1⟩)]
  show (match behF (stOf s ((w.map .int).map intD)).1 (stOf s ((w.map .int).map intD)).2 (wAt F n) (wAt S n) with
        | none => .inl .none
        | some p => if p.1.length + p.2.length ≤ 5000 then .inl (restP p.1 p.2) else .inr .tl : Ro) = _
  rw [intD_map]
theorem z_ne {n : Nat} (h : 0 < n) : zz n ≠ [] := by
  intro e
  have := congrArg List.length e
  rw [show (zz n).length = n from List.length_replicate] at this
  simp at this; omega
theorem z_len (n : Nat) : (zz n).length = n := List.length_replicate
theorem long_step (k : Nat) (hk : 0 < k) (hk2 : k ≤ 5000) : stepO 1 FZ SZ (.tuple [.str "first", .tuple ((zz k).map .int)]) (.int 0) = if k + 4998 ≤ 5000 then .inl (.tuple [.str "first", .tuple ((zz (k + 4998)).map .int)]) else .inr .tl := by
  rw [stepO_at (F := FZ) (S := SZ) rfl (by rw [ahead_of sd1 (by rw [z_len]; exact hk) (by rw [z_len]; exact hk2) (fun v hv => by rw [List.eq_of_mem_replicate hv]; omega), Bool.or_true]) (by decide) (by decide)]
  have e : stOf "first" (zz k) = (zz k, zz 0) := if_neg (by decide +kernel)
  rw [e]
  have b := behF_z k 0 4999 1
  show (match behF (zz k) (zz 0) (zz 4999) (zz 1) with
        | none => .inl .none
        | some p => if p.1.length + p.2.length ≤ 5000 then .inl (restP p.1 p.2) else .inr .tl : Ro) = _
  rw [b]
  have e1 : k + 4999 - min (k + 4999) (0 + 1) = k + 4998 := by omega
  have e2 : 0 + 1 - min (k + 4999) (0 + 1) = 0 := by omega
  rw [e1, e2]
  show (if (zz (k + 4998)).length + (zz 0).length ≤ 5000 then Sum.inl (restP (zz (k + 4998)) (zz 0)) else .inr .tl : Ro) = _
  rw [z_len, z_len, Nat.add_zero]
  by_cases c : k + 4998 ≤ 5000
  · rw [if_pos c, if_pos c]
    exact congrArg Sum.inl (if_pos (z_ne (by omega)))
  · rw [if_neg c, if_neg c]
theorem runZ (F S : List (List Int)) (n : Int) (r : List Int) (a c d : Nat) (hF : wAt F n = zz c) (hS : wAt S n = zz d) (h : d ≤ a + c) (hl : a + c - d ≤ 5000) : runQ F S (n :: r) (zz a, zz 0) = runQ F S r (zz (a + c - d), zz 0) := by
  show (match behF (zz a) (zz 0) (wAt F n) (wAt S n) with | none => some none | some q => if q.1.length + q.2.length ≤ 5000 then runQ F S r q else none) = _
  rw [hF, hS, behF_z]
  have e1 : a + c - min (a + c) (0 + d) = a + c - d := by omega
  have e2 : 0 + d - min (a + c) (0 + d) = 0 := by omega
  rw [e1, e2]
  show (if (zz (a + c - d)).length + (zz 0).length ≤ 5000 then _ else _) = _
  rw [z_len, z_len, if_pos (by omega)]
theorem runZ_long (F S : List (List Int)) (n : Int) (r : List Int) (a c d : Nat) (hF : wAt F n = zz c) (hS : wAt S n = zz d) (h : d ≤ a + c) (hl : 5000 < a + c - d) : runQ F S (n :: r) (zz a, zz 0) = none := by
  show (match behF (zz a) (zz 0) (wAt F n) (wAt S n) with | none => some none | some q => if q.1.length + q.2.length ≤ 5000 then runQ F S r q else none) = _
  rw [hF, hS, behF_z]
  have e1 : a + c - min (a + c) (0 + d) = a + c - d := by omega
  have e2 : 0 + d - min (a + c) (0 + d) = 0 := by omega
  rw [e1, e2]
  show (if (zz (a + c - d)).length + (zz 0).length ≤ 5000 then _ else _) = _
  rw [z_len, z_len, if_neg (by omega)]
theorem rowO_of {F S : List (List Int)} {row : List Int} (he : F.length = S.length) (hr : ∀ n ∈ row, 0 ≤ n ∧ n < F.length) : rowO F S (.tuple (row.map .int)) = match runQ F S row ([], []) with
      | none => .inr .tl
      | some none => .inl .none
      | some (some p) => .inl (restP p.1 p.2) := by
  unfold rowO
  rw [if_pos he, if_pos (by
    show ((row.map PyData.int).all fun e => belowB e F.length) = true
    rw [List.all_eq_true]
    intro e he
    obtain ⟨v, hv, rfl⟩ := List.mem_map.mp he
    exact (belowB_int v _).mpr (hr v hv))]
  show (match runQ F S ((row.map .int).map intD) ([], []) with
      | none => .inr .tl
      | some none => .inl .none
      | some (some p) => .inl (restP p.1 p.2) : Ro) = _
  rw [intD_map]
theorem long_row1 : rowO FZ SZ (.tuple (([0, 1, 1] : List Int).map .int)) = .inl (.tuple [.str "first", .tuple ((zz 5000).map .int)]) := by
  rw [rowO_of (F := FZ) (S := SZ) rfl (by intro n hn; simp only [List.mem_cons, List.not_mem_nil, or_false] at hn; show 0 ≤ n ∧ n < (2 : Int); omega)]
  have e : runQ FZ SZ [0, 1, 1] (zz 0, zz 0) = some (some (zz 5000, zz 0)) := by
    rw [runZ FZ SZ 0 _ 0 4999 1 rfl rfl (by omega) (by omega), runZ FZ SZ 1 _ _ 3 2 rfl rfl (by omega) (by omega), runZ FZ SZ 1 _ _ 3 2 rfl rfl (by omega) (by omega)]
    rfl
  have e' : runQ FZ SZ [0, 1, 1] ([], []) = some (some (zz 5000, zz 0)) := e
  rw [e']
  show (Sum.inl (restP (zz 5000) (zz 0)) : Ro) = _
  exact congrArg Sum.inl (if_pos (z_ne (by omega)))
theorem long_row2 : rowO FZ SZ (.tuple (([0, 1, 1, 1] : List Int).map .int)) = .inr .tl := by
  rw [rowO_of (F := FZ) (S := SZ) rfl (by intro n hn; simp only [List.mem_cons, List.not_mem_nil, or_false] at hn; show 0 ≤ n ∧ n < (2 : Int); omega)]
  have e : runQ FZ SZ [0, 1, 1, 1] (zz 0, zz 0) = none := by
    rw [runZ FZ SZ 0 _ 0 4999 1 rfl rfl (by omega) (by omega), runZ FZ SZ 1 _ _ 3 2 rfl rfl (by omega) (by omega), runZ FZ SZ 1 _ _ 3 2 rfl rfl (by omega) (by omega)]
    exact runZ_long FZ SZ 1 [] _ 3 2 rfl rfl (by omega) (by omega)
  have e' : runQ FZ SZ [0, 1, 1, 1] ([], []) = none := e
  rw [e']
end
end K60

namespace K60
open PySem L2 Evl Mini PyProof.Rows
theorem shT (s : Str) (w : List Int) (h : PyData.strOk s = true) : SeqAt.shaped (.tuple [.str s, .tuple (w.map .int)]) = true := by
  have h1 := canI w
  have h2 := depI w
  unfold SeqAt.shaped
  rw [Bool.and_eq_true]
  refine ⟨?_, decide_eq_true ?_⟩
  · simp [PyData.canLay0, PyData.canLayAll0, h1]; exact h
  · simp [PyData.depth, PyData.depthAll, h2]
theorem shR (k : Er) : SeqAt.shaped (refD k) = true := by cases k <;> decide +kernel
theorem eqv_self {d : PyData} (h : SeqAt.shaped d = true) : PyData.eqv d d = true := SeqAt.eqv_refl d (SeqAt.canLay_of_shaped h)
theorem rep_z (n : Nat) : (List.replicate n [PyData.int 0]).flatten = (zz n).map .int := by
  rw [List.flatten_replicate_singleton]
  unfold zz
  rw [List.map_replicate]
section
variable {P : Program} {w : World} {K : PySem.W.Frag} {mg : Str → Option Value} {base : Heap} {cAE cBB cBT cBN cBR cTL cBk cPr aE0 aEV aSI aBG : Addr}
def S_long (K : PySem.W.Frag) : Fs := ⟨Unit, 0, fun _ => [], fun _ => rfl, fun _ => .ok (isD (.bool true))⟩
abbrev st__law_long_ones : Stmt := top 49
theorem sc__law_long_ones : FnScope ["pair"] [] (defScope st__law_long_ones) := ⟨rfl, rfl, rfl, by decide +kernel, rfl, by decide +kernel, by decide +kernel⟩
theorem ok__law_long_ones {f : Addr} {fd : FuncData} (T : Txt K mg cAE cBB cBT cBN cBR cTL cBk cPr aE0 aEV aSI aBG) (K_Pair : MkC P w K mg base 1 cPr "Pair" (spN cPr (S_Pair cBk cBB))) (K_Book : MkC P w K mg base 4 cBk "Book" (spN cBk (S_Book cBB))) (F__law_told : FnC P w K mg base 6 "_law_told" (spF (S_told K cBk cPr))) (F__law_refused : FnC P w K mg base 1 "_law_refused" (spF (S_refused))) (F : Fun K "_law_long_ones" "_law_long_ones" st__law_long_ones f fd) : FnOk P w K mg base (L2.CX P w) 7 f fd [] (spF (S_long K)) := by
  refine fn_ok F sc__law_long_ones rfl fun cdv A outer s H E hr => ?_
  have tk : Takes (cxD P w K mg base ["pair"] "_law_long_ones" st__law_long_ones f cdv A outer s H E) (fun cls d _ H => E cls d H) := takes_of rfl rfl rfl rfl
  have hx := pxM tk
  have nd := sc__law_long_ones.nd
  refine ⟨_, (pss_cons (ps_set (i := 0) nd rfl (Or.inl rfl) (pe_mk K_Pair hr hx (pa_cons (pe_mk K_Book hr hx (pa_cons pe_int (pa_cons (pe_lst (pa_cons (pe_op op_uMul (pe_tup (pa_cons pe_int pa_nil)) pe_int) (pa_cons (pe_op op_uMul (pe_tup (pa_cons pe_int pa_nil)) pe_int) pa_nil))) pa_nil))) (pa_cons (pe_mk K_Book hr hx (pa_cons pe_int (pa_cons (pe_lst (pa_cons (pe_tup (pa_cons pe_int pa_nil)) (pa_cons (pe_tup (pa_cons pe_int (pa_cons pe_int pa_nil))) pa_nil))) pa_nil))) pa_nil))))
 (pss_cons (ps_if (pt_cmpR (op_neD hr.units) (pe_fn F__law_told hr hx (pa_cons pe_str (pa_cons (pv 0) (pa_cons (pe_tup (pa_cons pe_str (pa_cons (pe_op op_uMul (pe_tup (pa_cons pe_int pa_nil)) pe_int) pa_nil))) (pa_cons pe_int pa_nil))))) (pe_tup (pa_cons pe_str (pa_cons (pe_op op_uMul (pe_tup (pa_cons pe_int pa_nil)) pe_int) pa_nil))) (nomark _)) (pss_one (ps_ret pe_bl)) pss_nil)
 (pss_cons (ps_if (PW.pt (pw_or (pt_cmpR (op_neD hr.units) (pe_fn F__law_told hr hx (pa_cons pe_str (pa_cons (pv 0) (pa_cons (pe_tup (pa_cons pe_str (pa_cons (pe_op op_uMul (pe_tup (pa_cons pe_int pa_nil)) pe_int) pa_nil))) (pa_cons pe_int pa_nil))))) (pe_fn F__law_refused hr hx (pa_cons pe_int pa_nil)) (nomark _)) (pw_or1 (pt_cmpR (op_neD hr.units) (pe_fn F__law_told hr hx (pa_cons pe_str (pa_cons (pv 0) (pa_cons (pe_tup (pa_cons pe_int (pa_cons pe_int (pa_cons pe_int (pa_cons pe_int pa_nil))))) (pa_cons pe_int pa_nil))))) (pe_fn F__law_refused hr hx (pa_cons pe_int pa_nil)) (nomark _))))) (pss_one (ps_ret pe_bl)) pss_nil)
 (pss_one (ps_ret (pe_cmpR (op_eqD hr.units) (pe_fn F__law_told hr hx (pa_cons pe_str (pa_cons (pv 0) (pa_cons (pe_tup (pa_cons pe_int (pa_cons pe_int (pa_cons pe_int pa_nil)))) (pa_cons pe_int pa_nil))))) (pe_tup (pa_cons pe_str (pa_cons (pe_op op_uMul (pe_tup (pa_cons pe_int pa_nil)) pe_int) pa_nil))) (nomark _))))))), ?_⟩
  intro x
  have hz : (sizeLine : Nat) = 16777216 := sizeLine_eq
  have mkB : ∀ {G : Gm} {a b : TE} {m : Int} {W : List (List Int)}, Sv a G (isD (.int m)) → Sv b G (isD (.list (wD W))) → 0 ≤ m → m < 61 → GoodW W m → Sv (tMk cBk (spN cBk (S_Book cBB)) (fun _ => E) (tCons a (tCons b tNil))) G (isI cBk (bookF (.int m) (wD W))) := fun {G a b m W} h h' h0 h1 hW =>
    sv_mk (S := S_Book cBB) (sa_im h (sa_im h' sa_nil)) ⟨(.int m, .inl (.list (wD W))), hW.fits⟩ rfl (res_good _ rfl rfl (good_wD h0 h1 hW))
  have mkP : ∀ {G : Gm} {a b : TE} {n : Int} {X Y : List (List Int)}, Sv a G (isI cBk (bookF (.int n) (wD X))) → Sv b G (isI cBk (bookF (.int n) (wD Y))) → Sv (tMk cPr (spN cPr (S_Pair cBk cBB)) (fun _ => E) (tCons a (tCons b tNil))) G (isI cPr (pairF cBk n (wD X) n (wD Y))) := fun {G a b n X Y} h h' =>
    sv_mk (S := S_Pair cBk cBB) (sa_im h (sa_im h' sa_nil)) ((n, wD X), (n, wD Y)) rfl (if_pos rfl)
  have rz : ∀ {G : Gm} (n : Nat), 2 ≤ n → n ≤ 10000 → Sv (tOp (uMul K) (tTup (tCons (tC (.int 0)) tNil)) (tC (.int (n : Int)))) G (isD (.tuple ((zz n).map .int))) := fun {G} n h1 h2 =>
    sv_is (sv_repT (ds := [.int 0]) (i := (n : Int)) (sv_tup (ds := [.int 0]) (sa_ims sv_int sa_nil) (by show 1 ≤ sizeLine; decide)) sv_int (List.cons_ne_nil _ _) (by omega) (by show ((1 : Nat) : Int) * (n : Int) ≤ 1000000; omega)) (by rw [Int.toNat_natCast, rep_z])
  have two : ∀ {G : Gm} {a b : TE} {d e : PyData}, Sv a G (isD d) → Sv b G (isD e) → Sv (tLst (tCons a (tCons b tNil))) G (isD (.list [d, e])) := fun {G a b d e} h h' => sv_svl (svl_lst (ds := [d, e]) (sa_ims h (sa_ims h' sa_nil)) (by show 2 ≤ sizeLine; decide))
  have tp : ∀ {G : Gm} {a : TE} {z : Str} {d : PyData}, Sv a G (isD d) → Sv (tTup (tCons (tC (.str z)) (tCons a tNil))) G (isD (.tuple [.str z, d])) := fun {G a z d} h => sv_tup (ds := [.str z, d]) (sa_ims sv_str (sa_ims h sa_nil)) (by show 2 ≤ sizeLine; decide)
  let Pz : Ty := isI cPr (pairF cBk 1 (wD FZ) 1 (wD SZ))
  have l5 : ∀ {G : Gm}, Sv (tLst (tCons (tOp (uMul K) (tTup (tCons (tC (.int 0)) tNil)) (tC (.int 4999))) (tCons (tOp (uMul K) (tTup (tCons (tC (.int 0)) tNil)) (tC (.int 3))) tNil))) G (isD (.list (wD FZ))) := fun {G} => two (rz 4999 (by omega) (by omega)) (rz 3 (by omega) (by omega))
  have l2 : ∀ {G : Gm}, Sv (tLst (tCons (tTup (tCons (tC (.int 0)) tNil)) (tCons (tTup (tCons (tC (.int 0)) (tCons (tC (.int 0)) tNil))) tNil))) G (isD (.list (wD SZ))) := fun {G} => two (sv_tup (ds := [.int 0]) (sa_ims sv_int sa_nil) (by show 1 ≤ sizeLine; decide)) (sv_tup (ds := [.int 0, .int 0]) (sa_ims sv_int (sa_ims sv_int sa_nil)) (by show 2 ≤ sizeLine; decide))
  refine .ok (ss_seq (ss_set (P := Pz) (mkP (mkB sv_int l5 (by decide) (by decide) goodFZ) (mkB sv_int l2 (by decide) (by decide) goodSZ))) ?_)
  have okF : PyData.strOk "first" = true := by decide +kernel
  have hx : (GoodW FZ 1 ∧ GoodW SZ 1 ∧ (1 : Int) ≤ 60) := ⟨goodFZ, goodSZ, by decide⟩
  have told : ∀ {G : Gm} (q : Aq) (d : PyData) {a b : TE}, G[0]? = some (.im Pz) → q.ok → Sv a G (isD q.a) → Sv b G (isD q.b) → roD (q.o 1 FZ SZ) = d → Sv (tCallS (spF (S_told K cBk cPr)) (fun _ => E) (tCons (tC (.str q.w)) (tCons (tVar 0) (tCons a (tCons b tNil))))) G (isP K d) := fun {G} q d {a b} h0 hq ha hb he =>
    sv_call (S := S_told K cBk cPr) (sa_im sv_str (sa_im (sv_var h0) (sa_im ha (sa_im hb sa_nil)))) ⟨((1, FZ, SZ), q), hx, hq⟩ rfl (by show Rs.ok (isP K (roD (q.o 1 FZ SZ))) = _; rw [he])
  have fitZ : ∀ n, n ≤ 5000 → restFit (.tuple [.str "first", .tuple ((zz n).map .int)]) := fun n h => ⟨fun s e => by cases e; exact okF, by show ((zz n).map PyData.int).length < 10000000; rw [List.length_map, z_len]; omega⟩
  have st : ∀ {G : Gm} (n : Nat), 2 ≤ n → n ≤ 5000 → G[0]? = some (.im Pz) → Sv (tCallS (spF (S_told K cBk cPr)) (fun _ => E) (tCons (tC (.str "step")) (tCons (tVar 0) (tCons (tTup (tCons (tC (.str "first")) (tCons (tOp (uMul K) (tTup (tCons (tC (.int 0)) tNil)) (tC (.int (n : Int)))) tNil))) (tCons (tC (.int 0)) tNil))))) G (isP K (if n + 4998 ≤ 5000 then .tuple [.str "first", .tuple ((zz (n + 4998)).map .int)] else refD .tl)) := fun {G} n h1 h2 h0 =>
    told (.inl (.tuple [.str "first", .tuple ((zz n).map .int)], .int 0)) _ h0 (fitZ n h2) (tp (rz n h1 (by omega))) sv_int (by
      show roD (stepO 1 FZ SZ _ (.int 0)) = _
      rw [long_step n (by omega) h2]
      split <;> rfl)
  have big : ∀ {G : Gm}, Sv (tTup (tCons (tC (.str "first")) (tCons (tOp (uMul K) (tTup (tCons (tC (.int 0)) tNil)) (tC (.int 5000))) tNil))) G (isD (.tuple [.str "first", .tuple ((zz 5000).map .int)])) := fun {G} => tp (rz 5000 (by omega) (by omega))
  have ref : ∀ {G : Gm}, Sv (tCallS (spF S_refused) (fun _ => E) (tCons (tC (.int 4)) tNil)) G (isD (refD .tl)) := fun {G} => sv_call (S := S_refused) (sa_im sv_int sa_nil) Er.tl rfl rfl
  have shB := shT "first" (zz 5000) okF
  refine ss_seq (ss_if0 (st_is (st_test (sv_neP (st 2 (by omega) (by omega) rfl) big shB shB)) (by
    show (!PyData.eqv (.tuple [.str "first", .tuple ((zz 5000).map .int)]) (.tuple [.str "first", .tuple ((zz 5000).map .int)])) = false
    rw [eqv_self shB]; rfl)) ss_next) ?_
  have row4 : ∀ {G : Gm}, G[0]? = some (.im Pz) → Sv (tCallS (spF (S_told K cBk cPr)) (fun _ => E) (tCons (tC (.str "rest")) (tCons (tVar 0) (tCons (tTup (tCons (tC (.int 0)) (tCons (tC (.int 1)) (tCons (tC (.int 1)) (tCons (tC (.int 1)) tNil))))) (tCons (tC (.int 0)) tNil))))) G (isP K (refD .tl)) := fun {G} h0 =>
    told (.inr (.tuple (([0, 1, 1, 1] : List Int).map .int))) _ h0 ⟨by show 4 < 64; decide, by show 4 < 10000000; decide⟩ (sv_tup (ds := [.int 0, .int 1, .int 1, .int 1]) (sa_ims sv_int (sa_ims sv_int (sa_ims sv_int (sa_ims sv_int sa_nil)))) (by show 4 ≤ sizeLine; decide)) sv_int (by show roD (rowO FZ SZ _) = _; rw [long_row2]; rfl)
  have row3 : ∀ {G : Gm}, G[0]? = some (.im Pz) → Sv (tCallS (spF (S_told K cBk cPr)) (fun _ => E) (tCons (tC (.str "rest")) (tCons (tVar 0) (tCons (tTup (tCons (tC (.int 0)) (tCons (tC (.int 1)) (tCons (tC (.int 1)) tNil)))) (tCons (tC (.int 0)) tNil))))) G (isP K (.tuple [.str "first", .tuple ((zz 5000).map .int)])) := fun {G} h0 =>
    told (.inr (.tuple (([0, 1, 1] : List Int).map .int))) _ h0 ⟨by show 3 < 64; decide, by show 3 < 10000000; decide⟩ (sv_tup (ds := [.int 0, .int 1, .int 1]) (sa_ims sv_int (sa_ims sv_int (sa_ims sv_int sa_nil))) (by show 3 ≤ sizeLine; decide)) sv_int (by show roD (rowO FZ SZ _) = _; rw [long_row1]; rfl)
  refine ss_seq (ss_if0 (st_is (st_or (b := false) (c := false) (st_is (st_test (sv_neP (st 3 (by omega) (by omega) rfl) ref (shR .tl) (shR .tl))) (by
    show (!PyData.eqv (refD .tl) (refD .tl)) = false
    rw [eqv_self (shR .tl)]; rfl)) fun _ => st_is (st_test (sv_neP (row4 rfl) ref (shR .tl) (shR .tl))) (by rw [eqv_self (shR .tl)]; rfl)) rfl) ss_next) ?_
  exact ss_ret (sv_is (sv_eqP (row3 rfl) big shB shB) (by rw [eqv_self shB]))
end
end K60

namespace K60
open PySem L2 Evl Mini PyProof.Rows
/-! ### what the law looks at -/
structure Two (m : Int) (F S : List (List Int)) : Prop where
  gF : GoodW F m
  gS : GoodW S m
  sF : ∀ w ∈ F, w.length ≤ 4
  sS : ∀ w ∈ S, w.length ≤ 4
  le : F.length = S.length
  hm : m ≤ 60
theorem wAt_mem {W : List (List Int)} {n : Int} (h0 : 0 ≤ n) (h1 : n < W.length) : wAt W n ∈ W := by
  have hn : n.toNat < W.length := by omega
  have e : wAt W n = W[n.toNat] := by unfold wAt; rw [List.getD_eq_getElem?_getD, List.getElem?_eq_getElem hn]; rfl
  rw [e]
  exact List.getElem_mem hn
def RestOk (m : Int) (s : Str) (w : List Int) : Prop := (s = "even" ∧ w = []) ∨ (s ∈ sidesL ∧ 1 ≤ w.length ∧ w.length ≤ 8 ∧ ∀ v ∈ w, 0 ≤ v ∧ v < m)
theorem RestOk.str {m : Int} {s : Str} {w : List Int} (h : RestOk m s w) : PyData.strOk s = true := by
  rcases h with ⟨rfl, _⟩ | ⟨h, _⟩
  · decide +kernel
  · have : s = "first" ∨ s = "second" := by simpa [sidesL] using h
    rcases this with rfl | rfl <;> decide +kernel
theorem RestOk.len {m : Int} {s : Str} {w : List Int} (h : RestOk m s w) : w.length ≤ 8 := by
  rcases h with ⟨_, rfl⟩ | ⟨_, _, h, _⟩
  · exact Nat.zero_le _
  · exact h
theorem RestOk.fit {m : Int} {s : Str} {w : List Int} (h : RestOk m s w) : restFit (.tuple [.str s, .tuple (w.map .int)]) := ⟨fun z e => by cases e; exact h.str, by show (w.map PyData.int).length < 10000000; rw [List.length_map]; have := h.len; omega⟩
theorem RestOk.is {m : Int} {s : Str} {w : List Int} (h : RestOk m s w) : (evenB (.tuple [.str s, .tuple (w.map .int)]) || isRestB (.tuple [.str s, .tuple (w.map .int)]) m) = true := by
  rcases h with ⟨rfl, rfl⟩ | ⟨hs, h1, h2, h3⟩
  · rw [show evenB (.tuple [.str "even", .tuple (([] : List Int).map .int)]) = true from by decide +kernel]; rfl
  · rw [ahead_of hs h1 (by omega) h3, Bool.or_true]
theorem RestOk.st {m : Int} {s : Str} {w : List Int} (h : RestOk m s w) : stOf s w = stL s w := by
  have e1 : (("first" : Str) == "first") = true := by decide +kernel
  have e2 : (("first" : Str) == "second") = false := by decide +kernel
  have e3 : (("second" : Str) == "first") = false := by decide +kernel
  have e4 : (("second" : Str) == "second") = true := by decide +kernel
  have e5 : (("even" : Str) == "first") = false := by decide +kernel
  have e6 : (("even" : Str) == "second") = false := by decide +kernel
  unfold stOf stL
  rcases h with ⟨rfl, rfl⟩ | ⟨hs, _⟩
  · rw [e5, e6, if_neg Bool.false_ne_true, if_neg Bool.false_ne_true]
  · have : s = "first" ∨ s = "second" := by simpa [sidesL] using hs
    rcases this with rfl | rfl
    · rw [e1, e2, if_neg Bool.false_ne_true, if_pos rfl, if_neg Bool.false_ne_true]
    · rw [e3, e4, if_pos rfl, if_neg Bool.false_ne_true, if_pos rfl]
theorem stL_len {s : Str} {w : List Int} : (stL s w).1.length ≤ w.length ∧ (stL s w).2.length ≤ w.length := by
  unfold stL
  constructor <;> dsimp only <;> split <;> first | exact Nat.le_refl _ | exact Nat.zero_le _
theorem step_fine {m : Int} {F S : List (List Int)} {s : Str} {w : List Int} {n : Int} (T : Two m F S) (h : RestOk m s w) (h0 : 0 ≤ n) (h1 : n < F.length) : roD (stepO m F S (.tuple [.str s, .tuple (w.map .int)]) (.int n)) = resD (behF (stL s w).1 (stL s w).2 (wAt F n) (wAt S n)) := by
  rw [stepO_at T.le h.is h0 h1, h.st]
  cases hb : behF (stL s w).1 (stL s w).2 (wAt F n) (wAt S n) with
  | none => rfl
  | some p =>
    have l := behF_len hb
    have l2 := stL_len (s := s) (w := w)
    have a := T.sF _ (wAt_mem h0 h1)
    have b := T.sS _ (wAt_mem h0 (by have := T.le; omega))
    have c := h.len
    show roD (if p.1.length + p.2.length ≤ 5000 then .inl (restP p.1 p.2) else .inr .tl) = restP p.1 p.2
    rw [if_pos (by omega)]
    rfl
theorem row_fine {m : Int} {F S : List (List Int)} {row : List Int} (T : Two m F S) (hr : ∀ n ∈ row, 0 ≤ n ∧ n < F.length) (hl : row.length ≤ 20) : roD (rowO F S (.tuple (row.map .int))) = resD (lawQ F S row ([], [])) := by
  rw [rowO_of T.le hr, runQ_small (fun n hn => ⟨T.sF _ (wAt_mem (hr n hn).1 (hr n hn).2), T.sS _ (wAt_mem (hr n hn).1 (by have := (hr n hn).2; have := T.le; omega))⟩) (by show 0 + 0 + 8 * row.length ≤ 5000; omega)]
  cases lawQ F S row ([], []) <;> rfl
abbrev Q3 : PyData → Prop := Q_up (Q_up (Q_up Q_no))
theorem Q_restP {x y : List Int} (hx : x.length < 1000000) (hy : y.length < 1000000) : Q3 (restP x y) := by
  have qi : ∀ w : List Int, w.length < 1000000 → Q_up (Q_up Q_no) (.tuple (w.map .int)) := fun w h => .inr ⟨_, .inl rfl, by rw [List.length_map]; exact h, fun e he => by obtain ⟨i, _, rfl⟩ := List.mem_map.mp he; exact .inl trivial⟩
  have q2 : ∀ (s : Str) (w : List Int), PyData.strOk s = true → w.length < 1000000 → Q3 (.tuple [.str s, .tuple (w.map .int)]) := fun s w hs h => .inr ⟨_, .inl rfl, by show 2 < 1000000; decide, fun e he => by
    simp only [List.mem_cons, List.not_mem_nil, or_false] at he
    rcases he with rfl | rfl
    · exact .inl hs
    · exact qi w h⟩
  unfold restP
  split
  · exact q2 _ _ (by decide +kernel) hx
  · split
    · exact q2 _ _ (by decide +kernel) hy
    · exact q2 "even" [] (by decide +kernel) (by decide)
theorem Q_resD {o : Option (List Int × List Int)} (h : ∀ p, o = some p → p.1.length < 1000000 ∧ p.2.length < 1000000) : Q3 (resD o) := by
  cases o with
  | none => exact .inl trivial
  | some p => exact Q_restP (h p rfl).1 (h p rfl).2
theorem Q_ref (k : Er) : Q3 (refD k) := .inr ⟨_, .inl rfl, by show 2 < 1000000; decide, fun e he => by
    simp only [List.mem_cons, List.not_mem_nil, or_false] at he
    rcases he with rfl | rfl
    · exact .inl (show PyData.strOk "refused" = true by decide +kernel)
    · exact .inr ⟨_, .inr rfl, by cases k <;> decide, fun e he => by obtain ⟨i, _, rfl⟩ := List.mem_map.mp he; exact .inl trivial⟩⟩
def wrong1 (m : Int) : List PyData := [.tuple [.str "even", .tuple [.int 0]], .tuple [.str "first", .tuple []], .tuple [.str "second", .tuple []], .tuple [.str "third", .tuple [.int 0]], .list [.str "first", .tuple [.int 0]], .tuple [.str "first", .list [.int 0]], .tuple [.str "first", .tuple [.int m]], .tuple [.str "first", .tuple [.int (-1)]]]
def wrong2 : List PyData := [.tuple [.str "first", .tuple [.bool true]], .none, .int 0, .str "even", .tuple [.str "even"], .tuple [.str "even", .tuple [], .int 0], .tuple [.int 0, .tuple [.int 0]], .tuple [.str "second", .tuple ((zz 5001).map .int)]]
def WrongR (m : Int) (r : PyData) : Prop := restFit r ∧ (evenB r || isRestB r m) = false
theorem wr {m : Int} {s : Str} {b : PyData} (h1 : (evS (.str s) && nilT b) = false) (h2 : (sideB (.str s) && isWordB b m) = false) : (evenB (.tuple [.str s, b]) || isRestB (.tuple [.str s, b]) m) = false := by
  show ((evS (.str s) && nilT b) || (sideB (.str s) && isWordB b m)) = false
  rw [h1, h2]; rfl
theorem wrong_ok (m : Int) : ∀ r ∈ wrong1 m ++ wrong2, WrongR m r := by
  have ok2 : ∀ (s : Str) (b : PyData), PyData.strOk s = true → Fit b → restFit (.tuple [.str s, b]) := fun s b h h2 => ⟨fun z e => by cases e; exact h, h2⟩
  have f1 : PyData.strOk "first" = true := by decide +kernel
  have f2 : PyData.strOk "second" = true := by decide +kernel
  have e1 : evS (.str "first") = false := by decide +kernel
  have e2 : evS (.str "second") = false := by decide +kernel
  have no : ∀ (s : Str) {b : PyData}, evS (.str s) = false → (evS (.str s) && nilT b) = false := fun s b h => by rw [h, Bool.false_and]
  have nw : ∀ (s : Str) {b : PyData}, isWordB b m = false → (sideB (.str s) && isWordB b m) = false := fun s b h => by rw [h, Bool.and_false]
  intro r hr
  simp only [wrong1, wrong2, List.cons_append, List.nil_append, List.mem_cons, List.not_mem_nil, or_false] at hr
  rcases hr with rfl | rfl | rfl | rfl | rfl | rfl | rfl | rfl | rfl | rfl | rfl | rfl | rfl | rfl | rfl | rfl
  · exact ⟨ok2 _ _ (by decide +kernel) (by show 1 < 10000000; decide), wr (by decide +kernel) (by rw [show sideB (.str "even") = false from by decide +kernel, Bool.false_and])⟩
  · exact ⟨ok2 _ _ f1 (by show 0 < 10000000; decide), wr (no _ e1) (nw _ (by simp [isWordB, tupB, lenD]))⟩
  · exact ⟨ok2 _ _ f2 (by show 0 < 10000000; decide), wr (no _ e2) (nw _ (by simp [isWordB, tupB, lenD]))⟩
  · exact ⟨ok2 _ _ (by decide +kernel) (by show 1 < 10000000; decide), wr (by decide +kernel) (by rw [show sideB (.str "third") = false from by decide +kernel, Bool.false_and])⟩
  · exact ⟨trivial, rfl⟩
  · exact ⟨ok2 _ _ f1 (by show 1 < 10000000; decide), wr (no _ e1) (nw _ (by simp [isWordB, tupB]))⟩
  · exact ⟨ok2 _ _ f1 (by show 1 < 10000000; decide), wr (no _ e1) (nw _ (by simp [isWordB, tupB, belowB]))⟩
  · exact ⟨ok2 _ _ f1 (by show 1 < 10000000; decide), wr (no _ e1) (nw _ (by simp [isWordB, tupB, belowB]))⟩
  · exact ⟨ok2 _ _ f1 (by show 1 < 10000000; decide), wr (no _ e1) (nw _ (by simp [isWordB, tupB, belowB]))⟩
  · exact ⟨trivial, rfl⟩
  · exact ⟨trivial, rfl⟩
  · exact ⟨trivial, rfl⟩
  · exact ⟨trivial, rfl⟩
  · exact ⟨trivial, rfl⟩
  · exact ⟨⟨fun s e => by (cases e), by show 1 < 10000000; decide⟩, rfl⟩
  · exact ⟨ok2 _ _ f2 (by show ((zz 5001).map PyData.int).length < 10000000; rw [List.length_map, z_len]; decide), wr (no _ e2) (nw _ (by
      show (_ && (_ && decide ((((zz 5001).map PyData.int).length : Int) ≤ 5000))) = false
      rw [List.length_map, z_len, show decide (((5001 : Nat) : Int) ≤ 5000) = false from by decide, Bool.and_false, Bool.and_false]))⟩
theorem step_wrong {m : Int} {F S : List (List Int)} {r num : PyData} (T : Two m F S) (h : WrongR m r) : roD (stepO m F S r num) = refD .bt := by
  unfold stepO
  rw [if_pos T.le, if_neg (by rw [h.2]; exact Bool.false_ne_true)]; rfl
theorem step_num {m : Int} {F S : List (List Int)} {num : PyData} (T : Two m F S) (h : belowB num F.length = false) : roD (stepO m F S (.tuple [.str "even", .tuple []]) num) = refD .bn := by
  unfold stepO
  rw [if_pos T.le, if_pos (by rw [show evenB (.tuple [.str "even", .tuple []]) = true from by decide +kernel]; rfl), if_neg (by rw [h]; exact Bool.false_ne_true)]; rfl
theorem row_wrong {m : Int} {F S : List (List Int)} {r : PyData} (T : Two m F S) (h : tupB (fun e => belowB e F.length) r = false) : roD (rowO F S r) = refD .br := by
  unfold rowO
  rw [if_pos T.le, if_neg (by rw [h]; exact Bool.false_ne_true)]; rfl
section
variable {P : Program} {w : World} {K : PySem.W.Frag} {mg : Str → Option Value} {base : Heap} {cAE cBB cBT cBN cBR cTL cBk cPr aE0 aEV aSI aBG : Addr}
def S_law (K : PySem.W.Frag) : Fs := ⟨{x : List Int // x.length ≤ 63}, 1, fun x => [.im (isS K x.1)], fun _ => rfl, fun _ => .ok (isD (.bool true))⟩
abbrev st_law : Stmt := top 51
theorem sc_law : FnScope ["script", "draws", "size", "letters", "first", "second", "pair", "k", "number", "side", "word", "rest", "row", "wrong", "uneven", "j"] ["script"] (defScope st_law) := ⟨rfl, rfl, rfl, by decide +kernel, rfl, by decide +kernel, by decide +kernel⟩
theorem ok_law {f : Addr} {fd : FuncData} (T : Txt K mg cAE cBB cBT cBN cBR cTL cBk cPr aE0 aEV aSI aBG) (F__law_draws : FnC P w K mg base 1 "_law_draws" (spF (S_law_draws K))) (F__law_words : FnC P w K mg base 1 "_law_words" (spF (S_lwords))) (K_Pair : MkC P w K mg base 1 cPr "Pair" (spN cPr (S_Pair cBk cBB))) (K_Book : MkC P w K mg base 4 cBk "Book" (spN cBk (S_Book cBB))) (F__law_equal : FnC P w K mg base 4 "_law_equal" (spF (S_eqP K (Q_up (Q_up (Q_up Q_no)))))) (F__law_told : FnC P w K mg base 6 "_law_told" (spF (S_told K cBk cPr))) (F__law_step : FnC P w K mg base 1 "_law_step" (spF (S_lstep))) (F__law_behind : FnC P w K mg base 2 "_law_behind" (spF (S_lbehind))) (F__law_refused : FnC P w K mg base 1 "_law_refused" (spF (S_refused))) (F__law_long_ones : FnC P w K mg base 7 "_law_long_ones" (spF (S_long K))) (F : Fun K "law" "law" st_law f fd) : FnOk P w K mg base (L2.CX P w) 8 f fd ["script"] (spF (S_law K)) := by
  refine fn_ok F sc_law rfl fun cdv A outer s H E hr => ?_
  have tk : Takes (cxD P w K mg base ["script", "draws", "size", "letters", "first", "second", "pair", "k", "number", "side", "word", "rest", "row", "wrong", "uneven", "j"] "law" st_law f cdv A outer s H E) (fun cls d _ H => E cls d H) := takes_of rfl rfl rfl rfl
  have hx := pxM tk
  have nd := sc_law.nd
  refine ⟨_, (pss_cons (ps_set (i := 1) nd rfl (Or.inr rfl) (pe_fn F__law_draws hr hx (pa_cons (pv 0) (pa_cons pe_int pa_nil))))
 (pss_cons (ps_asg (pe_tup (pa_cons (pe_op op_uAdd pe_int (pe_op op_mod (pe_callTy call_int1 (by rfl) T.no_int (by decide +kernel) (pa_cons (pe_ix ix_seq (pv 1) pe_int (fun _ _ => rfl)) pa_nil)) pe_int)) (pa_cons (pe_op op_uAdd pe_int (pe_op op_mod (pe_callTy call_int1 (by rfl) T.no_int (by decide +kernel) (pa_cons (pe_ix ix_seq (pv 1) pe_int (fun _ _ => rfl)) pa_nil)) pe_int)) pa_nil))) (pg_tup rfl (pgs_cons (pg_name (i := 2) nd rfl (Or.inr rfl)) (pgs_cons (pg_name (i := 3) nd rfl (Or.inl rfl)) pgs_nil))))
 (pss_cons (ps_par (i := 4) (j := 5) rfl nd rfl rfl (by decide) rfl rfl (pa_cons (pe_fn F__law_words hr hx (pa_cons (pv 1) (pa_cons (pv 2) (pa_cons (pv 3) (pa_cons pe_int pa_nil))))) (pa_cons (pe_fn F__law_words hr hx (pa_cons (pe_slice sl_uSl (pv 1) (po_some pe_int) po_none) (pa_cons (pv 2) (pa_cons (pv 3) (pa_cons pe_int pa_nil))))) pa_nil)) (by rfl))
 (pss_cons (ps_set (i := 6) nd rfl (Or.inl rfl) (pe_mk K_Pair hr hx (pa_cons (pe_mk K_Book hr hx (pa_cons (pv 3) (pa_cons (pe_callTy call_list_of (by rfl) T.no_list (by decide +kernel) (pa_cons (pv 4) pa_nil)) pa_nil))) (pa_cons (pe_mk K_Book hr hx (pa_cons (pv 3) (pa_cons (pe_callTy call_list_of (by rfl) T.no_list (by decide +kernel) (pa_cons (pv 5) pa_nil)) pa_nil))) pa_nil))))
 (pss_cons (ps_for (passes_of rfl) rfl (pi_range1 (by rfl) T.no_range (pa_cons pe_int pa_nil)) (pg_name (i := 7) nd rfl (Or.inr rfl)) (pss_cons (ps_par (i := 8) (j := 9) rfl nd rfl rfl (by decide) rfl rfl (pa_cons (pe_op op_mod (pe_callTy call_int1 (by rfl) T.no_int (by decide +kernel) (pa_cons (pe_ix ix_seq (pv 1) (pe_op op_uAdd pe_int (pv 7)) (fun _ _ => rfl)) pa_nil)) (pv 2)) (pa_cons (pe_op op_mod (pe_callTy call_int1 (by rfl) T.no_int (by decide +kernel) (pa_cons (pe_ix ix_seq (pv 1) (pe_op op_uAdd pe_int (pv 7)) (fun _ _ => rfl)) pa_nil)) pe_int) pa_nil)) (by rfl))
 (pss_cons (ps_set (i := 10) nd rfl (Or.inl rfl) (pe_op op_uAdd (pe_ix ix_seq (pe_lst (pa_cons (pe_ix ix_seq (pv 5) (pv 8) (fun _ _ => rfl)) (pa_cons (pe_ix ix_seq (pv 4) (pv 8) (fun _ _ => rfl)) (pa_cons (pe_ix ix_seq (pv 5) (pe_op op_mod (pe_callTy call_int1 (by rfl) T.no_int (by decide +kernel) (pa_cons (pe_ix ix_seq (pv 1) (pe_op op_uAdd pe_int (pv 7)) (fun _ _ => rfl)) pa_nil)) (pv 2)) (fun _ _ => rfl)) pa_nil)))) (pe_op op_mod (pe_callTy call_int1 (by rfl) T.no_int (by decide +kernel) (pa_cons (pe_ix ix_seq (pv 1) (pe_op op_uAdd pe_int (pv 7)) (fun _ _ => rfl)) pa_nil)) pe_int) (fun _ _ => rfl)) (pe_ix ix_seq (pv 4) (pe_op op_mod (pe_callTy call_int1 (by rfl) T.no_int (by decide +kernel) (pa_cons (pe_ix ix_seq (pv 1) (pe_op op_uAdd pe_int (pv 7)) (fun _ _ => rfl)) pa_nil)) (pv 2)) (fun _ _ => rfl))))
 (pss_cons (ps_set (i := 10) nd rfl (Or.inl rfl) (pe_slice sl_uSl (pv 10) po_none (po_some (pe_op op_uAdd pe_int (pe_op op_mod (pe_callTy call_int1 (by rfl) T.no_int (by decide +kernel) (pa_cons (pe_ix ix_seq (pv 1) (pe_op op_uAdd pe_int (pv 7)) (fun _ _ => rfl)) pa_nil)) (pe_callB call_len (by rfl) T.no_len (by decide +kernel) (pa_cons (pv 10) pa_nil)))))))
 (pss_cons (ps_set (i := 11) nd rfl (Or.inl rfl) (pe_ix ix_seq (pe_lst (pa_cons (pe_tup (pa_cons pe_str (pa_cons (pe_tup pa_nil) pa_nil))) (pa_cons (pe_tup (pa_cons pe_str (pa_cons (pv 10) pa_nil))) (pa_cons (pe_tup (pa_cons pe_str (pa_cons (pv 10) pa_nil))) pa_nil)))) (pv 9) (fun _ _ => rfl)))
 (pss_cons (ps_if (pt_not (pt_val (pe_fn F__law_equal hr hx (pa_cons (pe_fn F__law_told hr hx (pa_cons pe_str (pa_cons (pv 6) (pa_cons (pv 11) (pa_cons (pv 8) pa_nil))))) (pa_cons (pe_fn F__law_step hr hx (pa_cons (pv 4) (pa_cons (pv 5) (pa_cons (pv 11) (pa_cons (pv 8) pa_nil))))) pa_nil))))) (pss_one (ps_ret pe_bl)) pss_nil)
 (pss_cons (ps_set (i := 12) nd rfl (Or.inl rfl) (pe_tupleOf (by rfl) T.no_tuple (pe_lc (own := [("j", 15)]) (g := gName 15) (tt := tYes) rfl nd (pi_range1 (by rfl) T.no_range (pa_cons (pe_op op_uAdd (pv 7) (pe_op op_mod (pe_callTy call_int1 (by rfl) T.no_int (by decide +kernel) (pa_cons (pe_ix ix_seq (pv 1) pe_int (fun _ _ => rfl)) pa_nil)) pe_int)) pa_nil)) (blkOk_by (N := ["script", "draws", "size", "letters", "first", "second", "pair", "k", "number", "side", "word", "rest", "row", "wrong", "uneven", "j"]) (sc := defScope st_law) (by decide +kernel)) (fun _ _ _ _ _ => pg_name (i := 15) nd rfl (Or.inl rfl)) (fun _ _ _ _ _ => pts_nil) (fun _ _ _ _ _ => (pe_op op_mod (pe_callTy call_int1 (by rfl) T.no_int (by decide +kernel) (pa_cons (pe_ix (r := rIx K) ix_seq (pv 1) (pe_op (r := uAdd K) op_uAdd (pe_op (r := uAdd K) op_uAdd pe_int (pv 7)) (pv 15)) (fun _ _ => rfl)) pa_nil)) (pv 2))))))
 (pss_one (ps_if (pt_not (pt_val (pe_fn F__law_equal hr hx (pa_cons (pe_fn F__law_told hr hx (pa_cons pe_str (pa_cons (pv 6) (pa_cons (pv 12) (pa_cons pe_int pa_nil))))) (pa_cons (pe_fn F__law_behind hr hx (pa_cons (pv 4) (pa_cons (pv 5) (pa_cons (pv 12) pa_nil)))) pa_nil))))) (pss_one (ps_ret pe_bl)) pss_nil)))))))))
 (pss_cons (ps_set (i := 13) nd rfl (Or.inl rfl) (pe_lst (pa_cons (pe_tup (pa_cons pe_str (pa_cons (pe_tup (pa_cons pe_int pa_nil)) pa_nil))) (pa_cons (pe_tup (pa_cons pe_str (pa_cons (pe_tup pa_nil) pa_nil))) (pa_cons (pe_tup (pa_cons pe_str (pa_cons (pe_tup pa_nil) pa_nil))) (pa_cons (pe_tup (pa_cons pe_str (pa_cons (pe_tup (pa_cons pe_int pa_nil)) pa_nil))) (pa_cons (pe_lst (pa_cons pe_str (pa_cons (pe_tup (pa_cons pe_int pa_nil)) pa_nil))) (pa_cons (pe_tup (pa_cons pe_str (pa_cons (pe_lst (pa_cons pe_int pa_nil)) pa_nil))) (pa_cons (pe_tup (pa_cons pe_str (pa_cons (pe_tup (pa_cons (pv 3) pa_nil)) pa_nil))) (pa_cons (pe_tup (pa_cons pe_str (pa_cons (pe_tup (pa_cons (pe_un un_neg pe_int) pa_nil)) pa_nil))) pa_nil))))))))))
 (pss_cons (ps_set (i := 13) nd rfl (Or.inl rfl) (pe_op op_uAdd (pv 13) (pe_lst (pa_cons (pe_tup (pa_cons pe_str (pa_cons (pe_tup (pa_cons pe_bl pa_nil)) pa_nil))) (pa_cons pe_non (pa_cons pe_int (pa_cons pe_str (pa_cons (pe_tup (pa_cons pe_str pa_nil)) (pa_cons (pe_tup (pa_cons pe_str (pa_cons (pe_tup pa_nil) (pa_cons pe_int pa_nil)))) (pa_cons (pe_tup (pa_cons pe_int (pa_cons (pe_tup (pa_cons pe_int pa_nil)) pa_nil))) (pa_cons (pe_tup (pa_cons pe_str (pa_cons (pe_op op_uMul (pe_tup (pa_cons pe_int pa_nil)) pe_int) pa_nil))) pa_nil)))))))))))
 (pss_cons (ps_for (passes_of rfl) rfl (pi_list (pv 13)) (pg_name (i := 11) nd rfl (Or.inl rfl)) (pss_one (ps_if (PW.pt (pw_or (pt_not (pt_val (pe_fn F__law_equal hr hx (pa_cons (pe_fn F__law_told hr hx (pa_cons pe_str (pa_cons (pv 6) (pa_cons (pv 11) (pa_cons pe_int pa_nil))))) (pa_cons (pe_fn F__law_refused hr hx (pa_cons pe_int pa_nil)) pa_nil))))) (pw_or1 (pt_not (pt_val (pe_fn F__law_equal hr hx (pa_cons (pe_fn F__law_told hr hx (pa_cons pe_str (pa_cons (pv 6) (pa_cons (pv 11) (pa_cons (pv 2) pa_nil))))) (pa_cons (pe_fn F__law_refused hr hx (pa_cons pe_int pa_nil)) pa_nil)))))))) (pss_one (ps_ret pe_bl)) pss_nil)))
 (pss_cons (ps_for (passes_of rfl) rfl (pi_list (pe_lst (pa_cons (pv 2) (pa_cons (pe_un un_neg pe_int) (pa_cons pe_bl (pa_cons pe_non (pa_cons pe_str (pa_cons (pe_tup (pa_cons pe_int pa_nil)) pa_nil)))))))) (pg_name (i := 8) nd rfl (Or.inl rfl)) (pss_one (ps_if (pt_not (pt_val (pe_fn F__law_equal hr hx (pa_cons (pe_fn F__law_told hr hx (pa_cons pe_str (pa_cons (pv 6) (pa_cons (pe_tup (pa_cons pe_str (pa_cons (pe_tup pa_nil) pa_nil))) (pa_cons (pv 8) pa_nil))))) (pa_cons (pe_fn F__law_refused hr hx (pa_cons pe_int pa_nil)) pa_nil))))) (pss_one (ps_ret pe_bl)) pss_nil)))
 (pss_cons (ps_for (passes_of rfl) rfl (pi_list (pe_lst (pa_cons (pe_tup (pa_cons (pv 2) pa_nil)) (pa_cons (pe_tup (pa_cons (pe_un un_neg pe_int) pa_nil)) (pa_cons (pe_lst (pa_cons pe_int pa_nil)) (pa_cons pe_non (pa_cons (pe_tup (pa_cons pe_bl pa_nil)) (pa_cons pe_str (pa_cons pe_int pa_nil))))))))) (pg_name (i := 12) nd rfl (Or.inl rfl)) (pss_one (ps_if (pt_not (pt_val (pe_fn F__law_equal hr hx (pa_cons (pe_fn F__law_told hr hx (pa_cons pe_str (pa_cons (pv 6) (pa_cons (pv 12) (pa_cons pe_int pa_nil))))) (pa_cons (pe_fn F__law_refused hr hx (pa_cons pe_int pa_nil)) pa_nil))))) (pss_one (ps_ret pe_bl)) pss_nil)))
 (pss_cons (ps_set (i := 14) nd rfl (Or.inl rfl) (pe_mk K_Pair hr hx (pa_cons (pe_mk K_Book hr hx (pa_cons (pv 3) (pa_cons (pe_callTy call_list_of (by rfl) T.no_list (by decide +kernel) (pa_cons (pv 4) pa_nil)) pa_nil))) (pa_cons (pe_mk K_Book hr hx (pa_cons (pv 3) (pa_cons (pe_op op_uAdd (pv 5) (pe_slice sl_uSl (pv 4) po_none (po_some pe_int))) pa_nil))) pa_nil))))
 (pss_cons (ps_if (PW.pt (pw_or (pt_not (pt_val (pe_fn F__law_equal hr hx (pa_cons (pe_fn F__law_told hr hx (pa_cons pe_str (pa_cons (pv 14) (pa_cons pe_non (pa_cons pe_non pa_nil))))) (pa_cons (pe_fn F__law_refused hr hx (pa_cons pe_int pa_nil)) pa_nil))))) (pw_or1 (pt_not (pt_val (pe_fn F__law_equal hr hx (pa_cons (pe_fn F__law_told hr hx (pa_cons pe_str (pa_cons (pv 14) (pa_cons pe_non (pa_cons pe_int pa_nil))))) (pa_cons (pe_fn F__law_refused hr hx (pa_cons pe_int pa_nil)) pa_nil)))))))) (pss_one (ps_ret pe_bl)) pss_nil)
 (pss_one (ps_ret (pe_or (pe_cmpR op_gt (pe_op op_mod (pe_callTy call_int1 (by rfl) T.no_int (by decide +kernel) (pa_cons (pe_ix ix_seq (pv 1) pe_int (fun _ _ => rfl)) pa_nil)) pe_int) pe_int (nomark _)) (pe_one (pe_fn0 F__law_long_ones hr hx))))))))))))))))), ?_⟩
  intro x
  obtain ⟨ns, hns⟩ := x
  have hns : ns.length ≤ 63 := hns
  have hz : (sizeLine : Nat) = 16777216 := sizeLine_eq
  refine .ok ?_
  have hDl : (drawsF ns 140).length = 140 := drawsF_len (by decide)
  have hDr : ∀ k, Dr (atD (drawsF ns 140) k) := atD_dr (drawsF_dr (by decide))
  refine ss_seq (ss_set (P := isD (.list ((drawsF ns 140).map .int))) (sv_svl (svl_call (S := S_law_draws K) (sa_im (sv_var rfl) (sa_im sv_int sa_nil)) ⟨(ns, 140), hns, by show (0 : Int) ≤ 140; decide, by show (140 : Int) ≤ 1000; decide⟩ rfl rfl))) ?_
  generalize drawsF ns 140 = D at hDl hDr ⊢
  have dr : ∀ {G : Gm} {te : TE} {k : Nat}, G[1]? = some (.im (isD (.list (D.map .int)))) → k < 140 → Sv te G (isD (.int (k : Int))) → Sv (tCB cInt (tCons (tOp (rIx K) (tVar 1) te) tNil)) G (isD (.int (atD D k))) := fun {G te k} h hk ht => sv_int1 (sv_ixL (i := ((k : Nat) : Int)) (rl_sv (sv_var h)) ht (atI_ints (ds := D) (k := k) (by omega)))
  refine ss_seq (ss_tupN [2, 3] (sn_im (sv_add sv_int (sv_mod (dr (k := 130) rfl (by omega) sv_int) sv_int (by decide))) (sn_im (sv_add sv_int (sv_mod (dr (k := 131) rfl (by omega) sv_int) sv_int (by decide))) sn_nil))) ?_
  have hs0 : 1 ≤ 1 + atD D 130 % 6 := by have := Int.emod_nonneg (atD D 130) (show (6 : Int) ≠ 0 by decide); omega
  have hs1 : 1 + atD D 130 % 6 ≤ 6 := by have := Int.emod_lt_of_pos (atD D 130) (show (0 : Int) < 6 by decide); omega
  have hl0 : 1 ≤ 1 + atD D 131 % 4 := by have := Int.emod_nonneg (atD D 131) (show (4 : Int) ≠ 0 by decide); omega
  have hl1 : 1 + atD D 131 % 4 ≤ 4 := by have := Int.emod_lt_of_pos (atD D 131) (show (0 : Int) < 4 by decide); omega
  generalize 1 + atD D 130 % 6 = size at hs0 hs1 ⊢
  generalize 1 + atD D 131 % 4 = m at hl0 hl1 ⊢
  refine ss_seq (ss_par (P := isD (.list (wD (wordsL D size m 4)))) (P' := isD (.list (wD (wordsL (D.drop 48) size m 4)))) (sv_svl (svl_call (S := S_lwords) (sa_im (sv_var rfl) (sa_im (sv_var rfl) (sa_im (sv_var rfl) (sa_im sv_int sa_nil)))) ⟨(D, size, m, 4), hl0, ⟨by show (1 : Int) ≤ 4; decide, by show (4 : Int) ≤ 4; decide⟩, ⟨by show 0 ≤ size; omega, by show size ≤ 10; omega⟩, by show 8 * size ≤ (D.length : Int); omega⟩ rfl rfl))
    (sv_svl (svl_call (S := S_lwords) (sa_im (P := isD (.list ((D.drop 48).map .int))) (sv_svl (svl_is (svl_slice (ds := D.map .int) (rl_sv (sv_var rfl)) (so_some (i := ((48 : Nat) : Int)) sv_int) so_none) (by rw [cut_drop _ (by omega), Int.toNat_natCast, List.map_drop]))) (sa_im (sv_var rfl) (sa_im (sv_var rfl) (sa_im sv_int sa_nil)))) ⟨(D.drop 48, size, m, 4), hl0, ⟨by show (1 : Int) ≤ 4; decide, by show (4 : Int) ≤ 4; decide⟩, ⟨by show 0 ≤ size; omega, by show size ≤ 10; omega⟩, by show 8 * size ≤ ((D.drop 48).length : Int); rw [List.length_drop]; omega⟩ rfl rfl))) ?_
  have hT : Two m (wordsL D size m 4) (wordsL (D.drop 48) size m 4) := by
    have w : ∀ (D : List Int), ∀ w ∈ wordsL D size m 4, 1 ≤ w.length ∧ w.length ≤ 4 ∧ ∀ v ∈ w, 0 ≤ v ∧ v < m := fun D w hw => by
      obtain ⟨k, _, rfl⟩ := List.mem_map.mp hw
      exact wordL_ok hl0 (by decide) (by decide)
    have g : ∀ D : List Int, GoodW (wordsL D size m 4) m := fun D => ⟨by rw [wordsL_len]; omega, fun x hx => by obtain ⟨a, b, c⟩ := w D x hx; exact ⟨a, by omega, c⟩⟩
    exact ⟨g _, g _, fun x hx => (w _ x hx).2.1, fun x hx => (w _ x hx).2.1, by rw [wordsL_len, wordsL_len], by omega⟩
  have hFl : ((wordsL D size m 4).length : Int) = size := by rw [wordsL_len]; omega
  generalize wordsL D size m 4 = F at hT hFl ⊢
  generalize wordsL (D.drop 48) size m 4 = S at hT ⊢
  have hSl : (S.length : Int) = size := by have := hT.le; omega
  have mkB : ∀ {G : Gm} {a b : TE} {W : List (List Int)}, Sv a G (isD (.int m)) → Sv b G (isD (.list (wD W))) → GoodW W m → Sv (tMk cBk (spN cBk (S_Book cBB)) (fun _ => E) (tCons a (tCons b tNil))) G (isI cBk (bookF (.int m) (wD W))) := fun {G a b W} h h' hW =>
    sv_mk (S := S_Book cBB) (sa_im h (sa_im h' sa_nil)) ⟨(.int m, .inl (.list (wD W))), hW.fits⟩ rfl (res_good _ rfl rfl (good_wD (by omega) (by omega) hW))
  have mkP : ∀ {G : Gm} {a b : TE} {X Y : List (List Int)}, Sv a G (isI cBk (bookF (.int m) (wD X))) → Sv b G (isI cBk (bookF (.int m) (wD Y))) → Sv (tMk cPr (spN cPr (S_Pair cBk cBB)) (fun _ => E) (tCons a (tCons b tNil))) G (isI cPr (pairF cBk m (wD X) m (wD Y))) := fun {G a b X Y} h h' =>
    sv_mk (S := S_Pair cBk cBB) (sa_im h (sa_im h' sa_nil)) ((m, wD X), (m, wD Y)) rfl (if_pos rfl)
  let Pr : Sl := .im (isI cPr (pairF cBk m (wD F) m (wD S)))
  let Gx : Sl → Sl → Sl → Sl → Sl → Sl → Sl → Sl → Sl → Gm := fun k n sd wd rs rw wr un jj => [.im (isS K ns), .im (isD (.list (D.map .int))), .im (isD (.int size)), .im (isD (.int m)), .im (isD (.list (wD F))), .im (isD (.list (wD S))), Pr, k, n, sd, wd, rs, rw, wr, un, jj]
  refine ss_seq (G1 := Gx .no .no .no .no .no .no .no .no .no) (ss_set (mkP (mkB (sv_var rfl) (sv_svl (svl_list (rl_sv (sv_var rfl)))) hT.gF) (mkB (sv_var rfl) (sv_svl (svl_list (rl_sv (sv_var rfl)))) hT.gS))) ?_
  have hx : (GoodW F m ∧ GoodW S m ∧ m ≤ 60) := ⟨hT.gF, hT.gS, hT.hm⟩
  have told : ∀ {G : Gm} (q : Aq) (d : PyData) {a b : TE}, G[6]? = some Pr → q.ok → Sv a G (isD q.a) → Sv b G (isD q.b) → roD (q.o m F S) = d → Sv (tCallS (spF (S_told K cBk cPr)) (fun _ => E) (tCons (tC (.str q.w)) (tCons (tVar 6) (tCons a (tCons b tNil))))) G (isP K d) := fun {G} q d {a b} h0 hq ha hb he =>
    sv_call (S := S_told K cBk cPr) (sa_im sv_str (sa_im (sv_var h0) (sa_im ha (sa_im hb sa_nil)))) ⟨((m, F, S), q), hx, hq⟩ rfl (by show Rs.ok (isP K (roD (q.o m F S))) = _; rw [he])
  have eqv : ∀ {G : Gm} {a b : TE} {d : PyData}, Q3 d → Sv a G (isP K d) → Sv b G (isD d) → St' (tNot (tB (tCallS (spF (S_eqP K Q3)) (fun _ => E) (tCons a (tCons b tNil))))) G false := fun {G a b d} hq ha hb =>
    st_is (st_not (st_B (sv_call (S := S_eqP K Q3) (sa_im ha (sa_im hb sa_nil)) ⟨d, hq⟩ rfl rfl))) rfl
  have ref : ∀ {G : Gm} (k : Er), Sv (tCallS (spF S_refused) (fun _ => E) (tCons (tC (.int (erN k))) tNil)) G (isD (refD k)) := fun {G} k => sv_call (S := S_refused) (sa_im sv_int sa_nil) k rfl rfl
  have mo : ∀ (k : Nat) {c : Int}, 0 < c → 0 ≤ atD D k % c ∧ atD D k % c < c := fun k {c} h => ⟨Int.emod_nonneg _ (by omega), Int.emod_lt_of_pos _ h⟩
  have idx : ∀ {W : List (List Int)} {i : Int}, 0 ≤ i → i < W.length → atI (wD W) i = some (.tuple ((wAt W i).map .int)) := fun {W i} h0 h1 => by
    have e : ((i.toNat : Nat) : Int) = i := by omega
    rw [← e]
    exact atI_nat (by rw [e]; exact wD_get (by omega))
  have okW : ∀ {W : List (List Int)} {i : Int}, GoodW W m → (∀ w ∈ W, w.length ≤ 4) → 0 ≤ i → i < W.length → 1 ≤ (wAt W i).length ∧ (wAt W i).length ≤ 4 ∧ ∀ v ∈ wAt W i, 0 ≤ v ∧ v < m := fun {W i} g s h0 h1 => by
    obtain ⟨a, _, c⟩ := wAt_ok g h0 h1
    exact ⟨a, s _ (wAt_mem h0 h1), c⟩
  refine ss_seq (ss_forR (n := 6) sv_int (by decide) (fun _ => Gx .no .no .no .no .no .no .no .no .no) 6 (by decide) (Le.refl _) (fun _ _ => Nat.le_of_ble_eq_true rfl) (fun k hk => ?_) (.inl ⟨rfl, rfl⟩)) ?_
  · have hn := mo (96 + k) (c := size) (by omega)
    have hsd := mo (102 + k) (c := 3) (by decide)
    have h3 := mo (103 + k) (c := size) (by omega)
    have h4 := mo (104 + k) (c := 3) (by decide)
    have h5 := mo (105 + k) (c := size) (by omega)
    have ik : ∀ {G : Gm} (c : Nat), G[7]? = some (.im (isD (.int (k : Int)))) → Sv (tOp (uAdd K) (tC (.int (c : Int))) (tVar 7)) G (isD (.int ((c + k : Nat) : Int))) := fun {G} c h => sv_is (sv_add sv_int (sv_var h)) (by rw [Int.natCast_add])
    refine .inl ?_
    show Ss _ _ (Gx (.im (isD (.int (k : Int)))) .no .no .no .no .no .no .no .no) (.nx (Gx .no .no .no .no .no .no .no .no .no))
    refine ss_seq (ss_par (P := isD (.int (atD D (96 + k) % size))) (P' := isD (.int (atD D (102 + k) % 3))) (sv_mod (dr (k := 96 + k) rfl (by omega) (ik 96 rfl)) (sv_var rfl) (by omega)) (sv_mod (dr (k := 102 + k) rfl (by omega) (ik 102 rfl)) sv_int (by decide))) ?_
    generalize atD D (96 + k) % size = n at hn ⊢
    generalize atD D (102 + k) % 3 = sd at hsd ⊢
    have hnF : n < F.length := by omega
    have hnS : n < S.length := by omega
    have oF := okW hT.gF hT.sF hn.1 hnF
    have oS := okW hT.gS hT.sS hn.1 hnS
    have o3 := okW hT.gS hT.sS (i := atD D (103 + k) % size) h3.1 (by omega)
    have o5 := okW hT.gF hT.sF (i := atD D (105 + k) % size) h5.1 (by omega)
    obtain ⟨W3, hW3⟩ : ∃ W3 : List (List Int), W3 = [wAt S n, wAt F n, wAt S (atD D (103 + k) % size)] := ⟨_, rfl⟩
    have W3ok : ∀ w ∈ W3, 1 ≤ w.length ∧ w.length ≤ 4 ∧ ∀ v ∈ w, 0 ≤ v ∧ v < m := fun w hw => by
      rw [hW3] at hw
      simp only [List.mem_cons, List.not_mem_nil, or_false] at hw
      rcases hw with rfl | rfl | rfl
      · exact oS
      · exact oF
      · exact o3
    have W3l : (W3.length : Int) = 3 := by rw [hW3]; rfl
    have ob := W3ok _ (wAt_mem h4.1 (by rw [W3l]; exact h4.2))
    refine ss_seq (ss_set (P := isD (.tuple ((wAt W3 (atD D (104 + k) % 3) ++ wAt F (atD D (105 + k) % size)).map .int))) (sv_is (sv_catT (ds := (wAt W3 (atD D (104 + k) % 3)).map .int) (es := (wAt F (atD D (105 + k) % size)).map .int)
      (sv_ixL (ds := wD W3) (rl_svl (svl_is (svl_lst (ds := [.tuple ((wAt S n).map .int), .tuple ((wAt F n).map .int), .tuple ((wAt S (atD D (103 + k) % size)).map .int)]) (sa_ims (sv_ixL (rl_sv (sv_var rfl)) (sv_var rfl) (idx hn.1 hnS)) (sa_ims (sv_ixL (rl_sv (sv_var rfl)) (sv_var rfl) (idx hn.1 hnF)) (sa_ims (sv_ixL (rl_sv (sv_var rfl)) (sv_mod (dr (k := 103 + k) rfl (by omega) (ik 103 rfl)) (sv_var rfl) (by omega)) (idx h3.1 (by omega))) sa_nil))) (by show 3 ≤ sizeLine; decide)) (by rw [hW3]; rfl))) (sv_mod (dr (k := 104 + k) rfl (by omega) (ik 104 rfl)) sv_int (by decide)) (idx h4.1 (by rw [W3l]; exact h4.2)))
      (sv_ixL (rl_sv (sv_var rfl)) (sv_mod (dr (k := 105 + k) rfl (by omega) (ik 105 rfl)) (sv_var rfl) (by omega)) (idx h5.1 (by omega))) (by rw [List.length_map, List.length_map]; omega)) (by rw [List.map_append]))) ?_
    have ow : 1 ≤ (wAt W3 (atD D (104 + k) % 3) ++ wAt F (atD D (105 + k) % size)).length ∧ (wAt W3 (atD D (104 + k) % 3) ++ wAt F (atD D (105 + k) % size)).length ≤ 8 ∧ ∀ v ∈ wAt W3 (atD D (104 + k) % 3) ++ wAt F (atD D (105 + k) % size), 0 ≤ v ∧ v < m := by
      refine ⟨by rw [List.length_append]; omega, by rw [List.length_append]; omega, fun v hv => ?_⟩
      rcases List.mem_append.mp hv with z | z
      · exact ob.2.2 v z
      · exact o5.2.2 v z
    generalize wAt W3 (atD D (104 + k) % 3) ++ wAt F (atD D (105 + k) % size) = w1 at ow ⊢
    have h6 := mo (106 + k) (c := (w1.length : Int)) (by omega)
    refine ss_seq (ss_set (P := isD (.tuple ((w1.take (1 + atD D (106 + k) % (w1.length : Int)).toNat).map .int))) (sv_is (sv_sliceT (ds := w1.map .int) (sv_var rfl) so_none (so_some (sv_add sv_int (sv_mod (dr (k := 106 + k) rfl (by omega) (ik 106 rfl)) (sv_is (sv_lenT (ds := w1.map .int) (sv_var rfl)) (by rw [List.length_map])) (by omega))))) (by rw [cut_take _ (by omega), List.map_take]))) ?_
    have ow2 : 1 ≤ (w1.take (1 + atD D (106 + k) % (w1.length : Int)).toNat).length ∧ (w1.take (1 + atD D (106 + k) % (w1.length : Int)).toNat).length ≤ 8 ∧ ∀ v ∈ w1.take (1 + atD D (106 + k) % (w1.length : Int)).toNat, 0 ≤ v ∧ v < m := ⟨by rw [List.length_take]; omega, by rw [List.length_take]; omega, fun v hv => ow.2.2 v (List.mem_of_mem_take hv)⟩
    generalize w1.take (1 + atD D (106 + k) % (w1.length : Int)).toNat = w2 at ow2 ⊢
    obtain ⟨s, w', hat, hok⟩ : ∃ (s : Str) (w' : List Int), atI [PyData.tuple [.str "even", .tuple []], .tuple [.str "first", .tuple (w2.map .int)], .tuple [.str "second", .tuple (w2.map .int)]] sd = some (.tuple [.str s, .tuple (w'.map .int)]) ∧ RestOk m s w' := by
      have : sd = 0 ∨ sd = 1 ∨ sd = 2 := by omega
      rcases this with rfl | rfl | rfl
      · exact ⟨"even", [], atI_nat (j := 0) rfl, .inl ⟨rfl, rfl⟩⟩
      · exact ⟨"first", w2, atI_nat (j := 1) rfl, .inr ⟨sd1, ow2⟩⟩
      · exact ⟨"second", w2, atI_nat (j := 2) rfl, .inr ⟨sd2, ow2⟩⟩
    have tp : ∀ {G : Gm} {a : TE} {z : Str} {d : PyData}, Sv a G (isD d) → Sv (tTup (tCons (tC (.str z)) (tCons a tNil))) G (isD (.tuple [.str z, d])) := fun {G a z d} h => sv_tup (ds := [.str z, d]) (sa_ims sv_str (sa_ims h sa_nil)) (by show 2 ≤ sizeLine; decide)
    refine ss_seq (ss_set (P := isD (.tuple [.str s, .tuple (w'.map .int)])) (sv_ixL (rl_svl (svl_lst (ds := [.tuple [.str "even", .tuple []], .tuple [.str "first", .tuple (w2.map .int)], .tuple [.str "second", .tuple (w2.map .int)]]) (sa_ims (tp (sv_tup (ds := []) sa_nil (Nat.zero_le _))) (sa_ims (tp (sv_var rfl)) (sa_ims (tp (sv_var rfl)) sa_nil))) (by show 3 ≤ sizeLine; decide))) (sv_var rfl) hat)) ?_
    have hst := stL_len (s := s) (w := w')
    have hwl := hok.len
    have lF := oF.2.1
    have lS := oS.2.1
    refine ss_seq (ss_if0 (eqv (d := resD (behF (stL s w').1 (stL s w').2 (wAt F n) (wAt S n))) (Q_resD fun p hp => by have := behF_len hp; omega)
      (told (.inl (.tuple [.str s, .tuple (w'.map .int)], .int n)) _ rfl hok.fit (sv_var rfl) (sv_var rfl) (step_fine hT hok hn.1 hnF))
      (sv_call (S := S_lstep) (sa_im (sv_var rfl) (sa_im (sv_var rfl) (sa_im (sv_var rfl) (sa_im (sv_var rfl) sa_nil)))) ⟨((F, S), (s, w'), n), hok.str, ⟨Nat.le_trans hwl (by decide), Nat.le_trans lF (by decide), Nat.le_trans lS (by decide)⟩, hn.1, hnF, hnS⟩ rfl rfl)) ss_next) ?_
    have h2 := mo 132 (c := 3) (by decide)
    obtain ⟨rowL, hrow⟩ : ∃ rowL : List Int, rowL = (List.range ((k : Int) + atD D 132 % 3).toNat).map fun j => atD D (108 + k + j) % size := ⟨_, rfl⟩
    have rl : rowL.length ≤ 8 := by rw [hrow, List.length_map, List.length_range]; omega
    have rr : ∀ v ∈ rowL, 0 ≤ v ∧ v < F.length := fun v hv => by
      rw [hrow] at hv
      obtain ⟨j, _, rfl⟩ := List.mem_map.mp hv
      have := mo (108 + k + j) (c := size) (by omega)
      omega
    refine ss_seq (ss_set (P := isD (.tuple (rowL.map .int))) (sv_tupleL (rl_svl (svl_is (svl_lcMapR (j := 15) (n := (k : Int) + atD D 132 % 3) (sv_add (sv_var rfl) (sv_mod (dr (k := 132) rfl (by omega) sv_int) sv_int (by decide))) (fun j => .int (atD D (108 + k + j) % size)) (Nat.le_of_ble_eq_true rfl) (by omega) (by omega) fun j hj => ?_) (by rw [hrow, List.map_map]; rfl))))) ?_
    · exact sv_mod (dr (k := 108 + k + j) rfl (by omega) (sv_is (sv_add (ik 108 rfl) (sv_var rfl)) (by rw [Int.natCast_add, Int.natCast_add, Int.natCast_add]))) (sv_var rfl) (by omega)
    have rs : ∀ v ∈ rowL, ((wAt F v).length ≤ 4 ∧ (wAt S v).length ≤ 4) ∧ 0 ≤ v ∧ v < F.length ∧ v < S.length := fun v hv => by
      have := rr v hv
      exact ⟨⟨hT.sF _ (wAt_mem this.1 this.2), hT.sS _ (wAt_mem this.1 (by omega))⟩, this.1, this.2, by omega⟩
    refine ss_nxLe (ss_if0 (eqv (d := resD (lawQ F S rowL ([], []))) (Q_resD fun p hp => by
        have := lawQ_len (fun n hn => (rs n hn).1) hp
        simp only [List.length_nil] at this
        omega)
      (told (.inr (.tuple (rowL.map .int))) _ rfl ⟨by show (rowL.map PyData.int).length < 64; rw [List.length_map]; omega, by show (rowL.map PyData.int).length < 10000000; rw [List.length_map]; omega⟩ (sv_var rfl) sv_int (row_fine hT rr (by omega)))
      (sv_call (S := S_lbehind) (sa_im (sv_var rfl) (sa_im (sv_var rfl) (sa_im (sv_var rfl) sa_nil))) ⟨((F, S), rowL), by show rowL.length ≤ 100; omega, rs⟩ rfl rfl)) ss_next) (by repeat first | exact Le.nil | refine Le.eq ?_ | refine Le.no ?_)
  -- what is no rest
  have tp : ∀ {G : Gm} {a b : TE} {d e : PyData}, Sv a G (isD d) → Sv b G (isD e) → Sv (tTup (tCons a (tCons b tNil))) G (isD (.tuple [d, e])) := fun {G a b d e} h h' => sv_tup (ds := [d, e]) (sa_ims h (sa_ims h' sa_nil)) (by show 2 ≤ sizeLine; decide)
  have t1 : ∀ {G : Gm} {a : TE} {d : PyData}, Sv a G (isD d) → Sv (tTup (tCons a tNil)) G (isD (.tuple [d])) := fun {G a d} h => sv_tup (ds := [d]) (sa_ims h sa_nil) (by show 1 ≤ sizeLine; decide)
  have l1 : ∀ {G : Gm} {a : TE} {d : PyData}, Sv a G (isD d) → Sv (tLst (tCons a tNil)) G (isD (.list [d])) := fun {G a d} h => sv_svl (svl_lst (ds := [d]) (sa_ims h sa_nil) (by show 1 ≤ sizeLine; decide))
  have l2 : ∀ {G : Gm} {a b : TE} {d e : PyData}, Sv a G (isD d) → Sv b G (isD e) → Sv (tLst (tCons a (tCons b tNil))) G (isD (.list [d, e])) := fun {G a b d e} h h' => sv_svl (svl_lst (ds := [d, e]) (sa_ims h (sa_ims h' sa_nil)) (by show 2 ≤ sizeLine; decide))
  have t0 : ∀ {G : Gm}, Sv (tTup tNil) G (isD (.tuple [])) := fun {G} => sv_tup (ds := []) sa_nil (Nat.zero_le _)
  refine ss_seq (ss_set (P := isD (.list (wrong1 m))) (sv_svl (svl_lst (ds := wrong1 m) (sa_ims (tp sv_str (t1 sv_int)) (sa_ims (tp sv_str t0) (sa_ims (tp sv_str t0) (sa_ims (tp sv_str (t1 sv_int)) (sa_ims (l2 sv_str (t1 sv_int)) (sa_ims (tp sv_str (l1 sv_int)) (sa_ims (tp sv_str (t1 (sv_var rfl))) (sa_ims (tp sv_str (t1 (sv_neg sv_int))) sa_nil)))))))) (by show 8 ≤ sizeLine; decide)))) ?_
  refine ss_seq (ss_set (P := isD (.list (wrong1 m ++ wrong2))) (sv_svl (svl_cat (ds := wrong1 m) (es := wrong2) (rl_sv (sv_var rfl)) (rl_svl (svl_lst (ds := wrong2) (sa_ims (tp sv_str (t1 sv_bl)) (sa_ims sv_non (sa_ims sv_int (sa_ims sv_str (sa_ims (t1 sv_str) (sa_ims (sv_tup (ds := [.str "even", .tuple [], .int 0]) (sa_ims sv_str (sa_ims t0 (sa_ims sv_int sa_nil))) (by show 3 ≤ sizeLine; decide)) (sa_ims (tp sv_int (t1 sv_int)) (sa_ims (tp sv_str (sv_is (sv_repT (ds := [.int 0]) (i := 5001) (t1 sv_int) sv_int (List.cons_ne_nil _ _) (by decide) (by decide)) (congrArg PyData.tuple (rep_z 5001)))) sa_nil)))))))) (by show 8 ≤ sizeLine; decide))) (by show 8 + 8 ≤ sizeLine; decide)))) ?_
  refine ss_seq (ss_forL (j := 11) (ds := wrong1 m ++ wrong2) (sv_var rfl) (fun _ => Gx .no .no .no .no .no .no (.im (isD (.list (wrong1 m ++ wrong2)))) .no .no) 16 (by show 16 ≤ 16; decide) (Le.refl _) (fun _ _ => Nat.le_of_ble_eq_true rfl) (fun i r hr hi => ?_) (.inl ⟨rfl, rfl⟩)) ?_
  · have hw := wrong_ok m r (List.mem_of_getElem? hr)
    refine .inl ?_
    show Ss _ _ (Gx .no .no .no .no (.im (isD r)) .no (.im (isD (.list (wrong1 m ++ wrong2)))) .no .no) _
    exact ss_nxLe (ss_if0 (st_is (st_or (b := false) (c := false) (eqv (d := refD .bt) (Q_ref _) (told (.inl (r, .int 0)) _ rfl hw.1 (sv_var rfl) sv_int (step_wrong hT hw)) (ref .bt)) fun _ => eqv (d := refD .bt) (Q_ref _) (told (.inl (r, .int size)) _ rfl hw.1 (sv_var rfl) (sv_var rfl) (step_wrong hT hw)) (ref .bt)) rfl) ss_next) (by repeat first | exact Le.nil | refine Le.eq ?_ | refine Le.no ?_)
  -- what is no number
  have evf : restFit (.tuple [.str "even", .tuple []]) := ⟨fun s e => by cases e; decide +kernel, by show 0 < 10000000; decide⟩
  let wnum : List PyData := [.int size, .int (-1), .bool true, .none, .str "0", .tuple [.int 0]]
  refine ss_seq (ss_forL (j := 8) (ds := wnum) (sv_svl (svl_lst (ds := wnum) (sa_ims (sv_var rfl) (sa_ims (sv_neg sv_int) (sa_ims sv_bl (sa_ims sv_non (sa_ims sv_str (sa_ims (t1 sv_int) sa_nil)))))) (by show 6 ≤ sizeLine; decide))) (fun _ => Gx .no .no .no .no .no .no (.im (isD (.list (wrong1 m ++ wrong2)))) .no .no) 6 (by show 6 ≤ 6; decide) (Le.refl _) (fun _ _ => Nat.le_of_ble_eq_true rfl) (fun i r hr hi => ?_) (.inl ⟨rfl, rfl⟩)) ?_
  · have hb : belowB r F.length = false := by
      have hm := List.mem_of_getElem? hr
      simp only [wnum, List.mem_cons, List.not_mem_nil, or_false] at hm
      rcases hm with rfl | rfl | rfl | rfl | rfl | rfl
      · show (decide (0 ≤ size) && decide (size < (F.length : Int))) = false
        rw [decide_eq_false (p := size < (F.length : Int)) (by omega), Bool.and_false]
      all_goals rfl
    refine .inl ?_
    show Ss _ _ (Gx .no (.im (isD r)) .no .no .no .no (.im (isD (.list (wrong1 m ++ wrong2)))) .no .no) _
    exact ss_nxLe (ss_if0 (eqv (d := refD .bn) (Q_ref _) (told (.inl (.tuple [.str "even", .tuple []], r)) _ rfl evf (tp sv_str t0) (sv_var rfl) (step_num hT hb)) (ref .bn)) ss_next) (by repeat first | exact Le.nil | refine Le.eq ?_ | refine Le.no ?_)
  -- what is no row
  let wrow : List PyData := [.tuple [.int size], .tuple [.int (-1)], .list [.int 0], .none, .tuple [.bool true], .str "0", .int 0]
  refine ss_seq (ss_forL (j := 12) (ds := wrow) (sv_svl (svl_lst (ds := wrow) (sa_ims (t1 (sv_var rfl)) (sa_ims (t1 (sv_neg sv_int)) (sa_ims (l1 sv_int) (sa_ims sv_non (sa_ims (t1 sv_bl) (sa_ims sv_str (sa_ims sv_int sa_nil))))))) (by show 7 ≤ sizeLine; decide))) (fun _ => Gx .no .no .no .no .no .no (.im (isD (.list (wrong1 m ++ wrong2)))) .no .no) 7 (by show 7 ≤ 7; decide) (Le.refl _) (fun _ _ => Nat.le_of_ble_eq_true rfl) (fun i r hr hi => ?_) (.inl ⟨rfl, rfl⟩)) ?_
  · have hb : tupB (fun e => belowB e F.length) r = false ∧ rowFit r ∧ Fit r := by
      have hm := List.mem_of_getElem? hr
      simp only [wrow, List.mem_cons, List.not_mem_nil, or_false] at hm
      rcases hm with rfl | rfl | rfl | rfl | rfl | rfl | rfl
      · refine ⟨?_, by show 1 < 64; decide, by show 1 < 10000000; decide⟩
        show ((decide (0 ≤ size) && decide (size < (F.length : Int))) && true) = false
        rw [decide_eq_false (p := size < (F.length : Int)) (by omega), Bool.and_false]; rfl
      · exact ⟨rfl, by show 1 < 64; decide, by show 1 < 10000000; decide⟩
      · exact ⟨rfl, trivial, by show 1 < 10000000; decide⟩
      · exact ⟨rfl, trivial, by show 0 < 10000000; decide⟩
      · exact ⟨rfl, by show 1 < 64; decide, by show 1 < 10000000; decide⟩
      · exact ⟨rfl, trivial, by show 0 < 10000000; decide⟩
      · exact ⟨rfl, trivial, by show 0 < 10000000; decide⟩
    refine .inl ?_
    show Ss _ _ (Gx .no .no .no .no .no (.im (isD r)) (.im (isD (.list (wrong1 m ++ wrong2)))) .no .no) _
    exact ss_nxLe (ss_if0 (eqv (d := refD .br) (Q_ref _) (told (.inr r) _ rfl hb.2 (sv_var rfl) sv_int (row_wrong hT hb.1)) (ref .br)) ss_next) (by repeat first | exact Le.nil | refine Le.eq ?_ | refine Le.no ?_)
  -- books of unlike sizes
  have gU : GoodW (S ++ F.take 1) m := ⟨by rw [List.length_append, List.length_take]; have := hT.le; omega, fun x hx => by
    rcases List.mem_append.mp hx with z | z
    · exact hT.gS.2 x z
    · exact hT.gF.2 x (List.mem_of_mem_take z)⟩
  have hne : ¬ F.length = (S ++ F.take 1).length := by rw [List.length_append, List.length_take]; have := hT.le; omega
  refine ss_seq (ss_set (P := isI cPr (pairF cBk m (wD F) m (wD (S ++ F.take 1)))) (mkP (mkB (sv_var rfl) (sv_svl (svl_list (rl_sv (sv_var rfl)))) hT.gF) (mkB (sv_var rfl) (sv_svl (svl_is (svl_cat (ds := wD S) (es := wD (F.take 1)) (rl_sv (sv_var rfl)) (rl_svl (svl_is (svl_slice (ds := wD F) (rl_sv (sv_var rfl)) so_none (so_some (i := 1) sv_int)) (by rw [cut_take _ (by omega), wD_take]; rfl))) (by rw [wDl, wDl, List.length_take]; have := hT.gS.1; omega)) (by unfold wD; rw [List.map_append]))) gU))) ?_
  have toldU : ∀ {G : Gm} (q : Aq) {a b : TE}, G[14]? = some (.im (isI cPr (pairF cBk m (wD F) m (wD (S ++ F.take 1))))) → q.ok → Sv a G (isD q.a) → Sv b G (isD q.b) → roD (q.o m F (S ++ F.take 1)) = refD .bb → Sv (tCallS (spF (S_told K cBk cPr)) (fun _ => E) (tCons (tC (.str q.w)) (tCons (tVar 14) (tCons a (tCons b tNil))))) G (isP K (refD .bb)) := fun {G} q {a b} h0 hq ha hb he =>
    sv_call (S := S_told K cBk cPr) (sa_im sv_str (sa_im (sv_var h0) (sa_im ha (sa_im hb sa_nil)))) ⟨((m, F, S ++ F.take 1), q), ⟨hT.gF, gU, hT.hm⟩, hq⟩ rfl (by show Rs.ok (isP K (roD (q.o m F (S ++ F.take 1)))) = _; rw [he])
  refine ss_seq (ss_if0 (st_is (st_or (b := false) (c := false) (eqv (d := refD .bb) (Q_ref _) (toldU (.inl (.none, .none)) rfl trivial sv_non sv_non (by show roD (stepO m F (S ++ F.take 1) .none .none) = _; unfold stepO; rw [if_neg hne]; rfl)) (ref .bb)) fun _ => eqv (d := refD .bb) (Q_ref _) (toldU (.inr .none) rfl ⟨trivial, by show 0 < 10000000; decide⟩ sv_non sv_int (by show roD (rowO F (S ++ F.take 1) .none) = _; unfold rowO; rw [if_neg hne]; rfl)) (ref .bb)) rfl) ss_next) ?_
  exact ss_ret (sv_is (sv_or (c := true) (sv_cmp (g := fun i j => decide (j < i)) (sv_mod (dr (k := 133) rfl (by omega) sv_int) sv_int (by decide)) sv_int) fun _ => sv_call (S := S_long K) sa_nil () rfl rfl) (by rw [Bool.or_true]))
end
end K60

namespace K60
open PySem L2 Evl Mini PyProof.Rows
theorem all_mk {l : PySem.W.OpenLaw} {w : World} {K : PySem.W.Frag} {h : Heap} {mg : Str → Option Value} {fa : Addr} {cAE cBB cBT cBN cBR cTL cBk cPr aE0 aEV aSI aBG : Addr} {f_law_draws f_law_words fPair_init fis_count fis_below fare_below f_is_word f_are_words fBook_init feq_no feq0 feq1 f_law_equal fPair_is_even f_check_books f_is_even_rest fis_rest_ahead f_behind f_state fBook_word f_size f_check_state f_rest fstep fsigns_of f_word_pair fword_of f_rest_of_signs frest_of f_law_told f_law_step f_law_behind f_law_refused f_law_long_ones flaw : Addr} (X : K.In h) (G : h.Ns mainGlobals mg) (hfa : mg "law" = some (.ref fa))
    {od_law_draws an_law_draws od_law_words an_law_words odPair_init anPair_init odis_count anis_count odis_below anis_below odare_below anare_below od_is_word an_is_word od_are_words an_are_words odBook_init anBook_init odeq_no aneq_no odeq0 aneq0 odeq1 aneq1 od_law_equal an_law_equal odPair_is_even anPair_is_even od_check_books an_check_books od_is_even_rest an_is_even_rest odis_rest_ahead anis_rest_ahead od_behind an_behind od_state an_state odBook_word anBook_word od_size an_size od_check_state an_check_state od_rest an_rest odstep anstep odsigns_of ansigns_of od_word_pair an_word_pair odword_of anword_of od_rest_of_signs an_rest_of_signs odrest_of anrest_of od_law_told an_law_told od_law_step an_law_step od_law_behind an_law_behind od_law_refused an_law_refused od_law_long_ones an_law_long_ones odlaw anlaw : Option Addr} {sl_law_draws sl_law_words slPair_init slis_count slis_below slare_below sl_is_word sl_are_words slBook_init sleq_no sleq0 sleq1 sl_law_equal slPair_is_even sl_check_books sl_is_even_rest slis_rest_ahead sl_behind sl_state slBook_word sl_size sl_check_state sl_rest slstep slsigns_of sl_word_pair slword_of sl_rest_of_signs slrest_of sl_law_told sl_law_step sl_law_behind sl_law_refused sl_law_long_ones sllaw : Array (Option Value)} {oc_law_draws kV_law_draws dc_law_draws pm_law_draws cd_law_draws ct_law_draws oc_law_words kV_law_words dc_law_words pm_law_words cd_law_words ct_law_words ocPair_init kVPair_init dcPair_init pmPair_init cdPair_init ctPair_init ocis_count kVis_count dcis_count pmis_count cdis_count ctis_count ocis_below kVis_below dcis_below pmis_below cdis_below ctis_below ocare_below kVare_below dcare_below pmare_below cdare_below ctare_below oc_is_word kV_is_word dc_is_word pm_is_word cd_is_word ct_is_word oc_are_words kV_are_words dc_are_words pm_are_words cd_are_words ct_are_words ocBook_init kVBook_init dcBook_init pmBook_init cdBook_init ctBook_init oceq_no kVeq_no dceq_no pmeq_no cdeq_no cteq_no oceq0 kVeq0 dceq0 pmeq0 cdeq0 cteq0 oceq1 kVeq1 dceq1 pmeq1 cdeq1 cteq1 oc_law_equal kV_law_equal dc_law_equal pm_law_equal cd_law_equal ct_law_equal ocPair_is_even kVPair_is_even dcPair_is_even pmPair_is_even cdPair_is_even ctPair_is_even oc_check_books kV_check_books dc_check_books pm_check_books cd_check_books ct_check_books oc_is_even_rest kV_is_even_rest dc_is_even_rest pm_is_even_rest cd_is_even_rest ct_is_even_rest ocis_rest_ahead kVis_rest_ahead dcis_rest_ahead pmis_rest_ahead cdis_rest_ahead ctis_rest_ahead oc_behind kV_behind dc_behind pm_behind cd_behind ct_behind oc_state kV_state dc_state pm_state cd_state ct_state ocBook_word kVBook_word dcBook_word pmBook_word cdBook_word ctBook_word oc_size kV_size dc_size pm_size cd_size ct_size oc_check_state kV_check_state dc_check_state pm_check_state cd_check_state ct_check_state oc_rest kV_rest dc_rest pm_rest cd_rest ct_rest ocstep kVstep dcstep pmstep cdstep ctstep ocsigns_of kVsigns_of dcsigns_of pmsigns_of cdsigns_of ctsigns_of oc_word_pair kV_word_pair dc_word_pair pm_word_pair cd_word_pair ct_word_pair ocword_of kVword_of dcword_of pmword_of cdword_of ctword_of oc_rest_of_signs kV_rest_of_signs dc_rest_of_signs pm_rest_of_signs cd_rest_of_signs ct_rest_of_signs ocrest_of kVrest_of dcrest_of pmrest_of cdrest_of ctrest_of oc_law_told kV_law_told dc_law_told pm_law_told cd_law_told ct_law_told oc_law_step kV_law_step dc_law_step pm_law_step cd_law_step ct_law_step oc_law_behind kV_law_behind dc_law_behind pm_law_behind cd_law_behind ct_law_behind oc_law_refused kV_law_refused dc_law_refused pm_law_refused cd_law_refused ct_law_refused oc_law_long_ones kV_law_long_ones dc_law_long_ones pm_law_long_ones cd_law_long_ones ct_law_long_ones oclaw kVlaw dclaw pmlaw cdlaw ctlaw : Value}
    {t_c_MOST_LETTERS t_c_MOST_WORDS t_c_LONGEST_WORD t_c_SIGNS : _}
    {t_aEV0 : Tok} {t_aSI0 t_aSI1 : Tok} {t_aBG0 t_aBG1 : Tok} {n_aE0 : Nat} {s_aE0 : Array (Option Value)} {n_aEV : Nat} {s_aEV : Array (Option Value)} {n_aSI : Nat} {s_aSI : Array (Option Value)} {n_aBG : Nat} {s_aBG : Array (Option Value)} (l_aE0 : K.lookup aE0 = some ⟨.type "tuple", none, .seq #[] n_aE0, s_aE0⟩)
    (g_aEV : PySem.W.nsIn K mainGlobals "EVEN" = some (some (.ref aEV)))
    (l_aEV : K.lookup aEV = some ⟨.type "tuple", none, .seq #[.str "even" t_aEV0, .ref aE0] n_aEV, s_aEV⟩)
    (g_aSI : PySem.W.nsIn K mainGlobals "SIDES" = some (some (.ref aSI)))
    (l_aSI : K.lookup aSI = some ⟨.type "tuple", none, .seq #[.str "first" t_aSI0, .str "second" t_aSI1] n_aSI, s_aSI⟩)
    (g_aBG : PySem.W.nsIn K mainGlobals "BEGIN" = some (some (.ref aBG)))
    (l_aBG : K.lookup aBG = some ⟨.type "tuple", none, .seq #[.str "" t_aBG0, .str "" t_aBG1] n_aBG, s_aBG⟩)
    (a_cAE : PySem.W.nsIn K mainGlobals "AlikeError" = some (some (.ref cAE)))
    (a_cBB : PySem.W.nsIn K mainGlobals "BadBook" = some (some (.ref cBB)))
    (a_cBT : PySem.W.nsIn K mainGlobals "BadRest" = some (some (.ref cBT)))
    (a_cBN : PySem.W.nsIn K mainGlobals "BadNumber" = some (some (.ref cBN)))
    (a_cBR : PySem.W.nsIn K mainGlobals "BadRow" = some (some (.ref cBR)))
    (a_cTL : PySem.W.nsIn K mainGlobals "TooLong" = some (some (.ref cTL)))
    (a_cBk : PySem.W.nsIn K mainGlobals "Book" = some (some (.ref cBk)))
    (a_cPr : PySem.W.nsIn K mainGlobals "Pair" = some (some (.ref cPr)))
    (k_c_MOST_LETTERS : PySem.W.nsIn K mainGlobals "MOST_LETTERS" = some (some (.int 60 t_c_MOST_LETTERS)))
    (k_c_MOST_WORDS : PySem.W.nsIn K mainGlobals "MOST_WORDS" = some (some (.int 60 t_c_MOST_WORDS)))
    (k_c_LONGEST_WORD : PySem.W.nsIn K mainGlobals "LONGEST_WORD" = some (some (.int 5000 t_c_LONGEST_WORD)))
    (k_c_SIGNS : PySem.W.nsIn K mainGlobals "SIGNS" = some (some (.str "0123456789ABCDEFGHIJKLMNOPQRSTUVWXYZabcdefghijklmnopqrstuvwx" t_c_SIGNS)))
    (z_isinstance : PySem.W.nsIn K mainGlobals "isinstance" = some none)
    (z_int : PySem.W.nsIn K mainGlobals "int" = some none)
    (z_bool : PySem.W.nsIn K mainGlobals "bool" = some none)
    (z_tuple : PySem.W.nsIn K mainGlobals "tuple" = some none)
    (z_list : PySem.W.nsIn K mainGlobals "list" = some none)
    (z_all : PySem.W.nsIn K mainGlobals "all" = some none)
    (z_len : PySem.W.nsIn K mainGlobals "len" = some none)
    (z_abs : PySem.W.nsIn K mainGlobals "abs" = some none)
    (z_range : PySem.W.nsIn K mainGlobals "range" = some none)
    (z_min : PySem.W.nsIn K mainGlobals "min" = some none)
    (z_set : PySem.W.nsIn K mainGlobals "set" = some none)
    (z_str : PySem.W.nsIn K mainGlobals "str" = some none)
    (z_enumerate : PySem.W.nsIn K mainGlobals "enumerate" = some none)
    (z_sorted : PySem.W.nsIn K mainGlobals "sorted" = some none)
    (z_sum : PySem.W.nsIn K mainGlobals "sum" = some none)
    (x_cAE : PySem.W.excIn K cAE veT "ValueError.__new__" = true)
    (p_cAE : PySem.W.keepIn K (.ref cAE) = true)
    (b_cAE : PySem.W.subIn K (.ref cAE) (.type "BaseException") = some true)
    (t_cAE : PySem.W.typeIn K (.ref cAE) = some (.type "type"))
    (x_cBB : PySem.W.excIn K cBB veT "ValueError.__new__" = true)
    (p_cBB : PySem.W.keepIn K (.ref cBB) = true)
    (b_cBB : PySem.W.subIn K (.ref cBB) (.type "BaseException") = some true)
    (t_cBB : PySem.W.typeIn K (.ref cBB) = some (.type "type"))
    (x_cBT : PySem.W.excIn K cBT veT "ValueError.__new__" = true)
    (p_cBT : PySem.W.keepIn K (.ref cBT) = true)
    (b_cBT : PySem.W.subIn K (.ref cBT) (.type "BaseException") = some true)
    (t_cBT : PySem.W.typeIn K (.ref cBT) = some (.type "type"))
    (x_cBN : PySem.W.excIn K cBN veT "ValueError.__new__" = true)
    (p_cBN : PySem.W.keepIn K (.ref cBN) = true)
    (b_cBN : PySem.W.subIn K (.ref cBN) (.type "BaseException") = some true)
    (t_cBN : PySem.W.typeIn K (.ref cBN) = some (.type "type"))
    (x_cBR : PySem.W.excIn K cBR veT "ValueError.__new__" = true)
    (p_cBR : PySem.W.keepIn K (.ref cBR) = true)
    (b_cBR : PySem.W.subIn K (.ref cBR) (.type "BaseException") = some true)
    (t_cBR : PySem.W.typeIn K (.ref cBR) = some (.type "type"))
    (x_cTL : PySem.W.excIn K cTL veT "ValueError.__new__" = true)
    (p_cTL : PySem.W.keepIn K (.ref cTL) = true)
    (b_cTL : PySem.W.subIn K (.ref cTL) (.type "BaseException") = some true)
    (t_cTL : PySem.W.typeIn K (.ref cTL) = some (.type "type"))
    (e6 : PySem.W.specialIn K (.builtin "object.__class__") "__get__" = some (some (.builtin "getset_descriptor.__get__")))
    (e7 : PySem.W.takesIn K (.builtin "object.__class__") = some true)
    (e1_cBB : PySem.W.findIn K (.ref cBB) "__getattribute__" = some (some (.builtin "BaseException.__getattribute__")))
    (e2_cBB : PySem.W.findIn K (.ref cBB) "__getattr__" = some none)
    (e4_cBB : PySem.W.hasDictIn K cBB = true)
    (e5_cBB : PySem.W.findIn K (.ref cBB) "__class__" = some (some (.builtin "object.__class__")))
    (e8_cBB : PySem.W.mroIn K cBB (.type "object") = some true)
    (e1_cBT : PySem.W.findIn K (.ref cBT) "__getattribute__" = some (some (.builtin "BaseException.__getattribute__")))
    (e2_cBT : PySem.W.findIn K (.ref cBT) "__getattr__" = some none)
    (e4_cBT : PySem.W.hasDictIn K cBT = true)
    (e5_cBT : PySem.W.findIn K (.ref cBT) "__class__" = some (some (.builtin "object.__class__")))
    (e8_cBT : PySem.W.mroIn K cBT (.type "object") = some true)
    (e1_cBN : PySem.W.findIn K (.ref cBN) "__getattribute__" = some (some (.builtin "BaseException.__getattribute__")))
    (e2_cBN : PySem.W.findIn K (.ref cBN) "__getattr__" = some none)
    (e4_cBN : PySem.W.hasDictIn K cBN = true)
    (e5_cBN : PySem.W.findIn K (.ref cBN) "__class__" = some (some (.builtin "object.__class__")))
    (e8_cBN : PySem.W.mroIn K cBN (.type "object") = some true)
    (e1_cBR : PySem.W.findIn K (.ref cBR) "__getattribute__" = some (some (.builtin "BaseException.__getattribute__")))
    (e2_cBR : PySem.W.findIn K (.ref cBR) "__getattr__" = some none)
    (e4_cBR : PySem.W.hasDictIn K cBR = true)
    (e5_cBR : PySem.W.findIn K (.ref cBR) "__class__" = some (some (.builtin "object.__class__")))
    (e8_cBR : PySem.W.mroIn K cBR (.type "object") = some true)
    (e1_cTL : PySem.W.findIn K (.ref cTL) "__getattribute__" = some (some (.builtin "BaseException.__getattribute__")))
    (e2_cTL : PySem.W.findIn K (.ref cTL) "__getattr__" = some none)
    (e4_cTL : PySem.W.hasDictIn K cTL = true)
    (e5_cTL : PySem.W.findIn K (.ref cTL) "__class__" = some (some (.builtin "object.__class__")))
    (e8_cTL : PySem.W.mroIn K cTL (.type "object") = some true)
    (e4_cAE : PySem.W.hasDictIn K cAE = true)
    (s_m_cBB : PySem.W.subIn K (.ref cBB) (.ref cAE) = some true)
    (s_m_cBT : PySem.W.subIn K (.ref cBT) (.ref cAE) = some true)
    (s_m_cBN : PySem.W.subIn K (.ref cBN) (.ref cAE) = some true)
    (s_m_cBR : PySem.W.subIn K (.ref cBR) (.ref cAE) = some true)
    (s_m_cTL : PySem.W.subIn K (.ref cTL) (.ref cAE) = some true)
    (s_k_cBB_cBB : PySem.W.kitOne K (.ref cBB) (.ref cBB) = some true)
    (s_k_cBB_cBT : PySem.W.kitOne K (.ref cBB) (.ref cBT) = some false)
    (s_k_cBB_cBN : PySem.W.kitOne K (.ref cBB) (.ref cBN) = some false)
    (s_k_cBB_cBR : PySem.W.kitOne K (.ref cBB) (.ref cBR) = some false)
    (s_k_cBB_cTL : PySem.W.kitOne K (.ref cBB) (.ref cTL) = some false)
    (s_k_cBT_cBB : PySem.W.kitOne K (.ref cBT) (.ref cBB) = some false)
    (s_k_cBT_cBT : PySem.W.kitOne K (.ref cBT) (.ref cBT) = some true)
    (s_k_cBT_cBN : PySem.W.kitOne K (.ref cBT) (.ref cBN) = some false)
    (s_k_cBT_cBR : PySem.W.kitOne K (.ref cBT) (.ref cBR) = some false)
    (s_k_cBT_cTL : PySem.W.kitOne K (.ref cBT) (.ref cTL) = some false)
    (s_k_cBN_cBB : PySem.W.kitOne K (.ref cBN) (.ref cBB) = some false)
    (s_k_cBN_cBT : PySem.W.kitOne K (.ref cBN) (.ref cBT) = some false)
    (s_k_cBN_cBN : PySem.W.kitOne K (.ref cBN) (.ref cBN) = some true)
    (s_k_cBN_cBR : PySem.W.kitOne K (.ref cBN) (.ref cBR) = some false)
    (s_k_cBN_cTL : PySem.W.kitOne K (.ref cBN) (.ref cTL) = some false)
    (s_k_cBR_cBB : PySem.W.kitOne K (.ref cBR) (.ref cBB) = some false)
    (s_k_cBR_cBT : PySem.W.kitOne K (.ref cBR) (.ref cBT) = some false)
    (s_k_cBR_cBN : PySem.W.kitOne K (.ref cBR) (.ref cBN) = some false)
    (s_k_cBR_cBR : PySem.W.kitOne K (.ref cBR) (.ref cBR) = some true)
    (s_k_cBR_cTL : PySem.W.kitOne K (.ref cBR) (.ref cTL) = some false)
    (s_k_cTL_cBB : PySem.W.kitOne K (.ref cTL) (.ref cBB) = some false)
    (s_k_cTL_cBT : PySem.W.kitOne K (.ref cTL) (.ref cBT) = some false)
    (s_k_cTL_cBN : PySem.W.kitOne K (.ref cTL) (.ref cBN) = some false)
    (s_k_cTL_cBR : PySem.W.kitOne K (.ref cTL) (.ref cBR) = some false)
    (s_k_cTL_cTL : PySem.W.kitOne K (.ref cTL) (.ref cTL) = some true)
    (pg_cBk : PySem.W.plainGet K cBk Str.empty = true)
    (hd_cBk : PySem.W.hasDictIn K cBk = true)
    (po_cBk : PySem.W.plainOver K cBk = true)
    (sa_cBk : PySem.W.findIn K (.ref cBk) "__setattr__" = some (some (.builtin "object.__setattr__")))
    (mk_cBk : PySem.W.makesIn K cBk = true)
    (kc_cBk : PySem.W.keepIn K (.ref cBk) = true)
    (pg_cPr : PySem.W.plainGet K cPr Str.empty = true)
    (hd_cPr : PySem.W.hasDictIn K cPr = true)
    (po_cPr : PySem.W.plainOver K cPr = true)
    (sa_cPr : PySem.W.findIn K (.ref cPr) "__setattr__" = some (some (.builtin "object.__setattr__")))
    (mk_cPr : PySem.W.makesIn K cPr = true)
    (kc_cPr : PySem.W.keepIn K (.ref cPr) = true)
    (n_n_cBk_letters : PySem.W.findIn K (.ref cBk) "letters" = some none)
    (n_n_cBk_size : PySem.W.findIn K (.ref cBk) "size" = some none)
    (n_n_cBk__words : PySem.W.findIn K (.ref cBk) "_words" = some none)
    (n_n_cPr_first : PySem.W.findIn K (.ref cPr) "first" = some none)
    (n_n_cPr_second : PySem.W.findIn K (.ref cPr) "second" = some none)
    (n_n_cPr_letters : PySem.W.findIn K (.ref cPr) "letters" = some none)
    (a_law_draws : PySem.W.nsIn K mainGlobals "_law_draws" = some (some (.ref f_law_draws)))
    (l_law_draws : K.lookup f_law_draws = some ⟨oc_law_draws, od_law_draws, .func (PySem.W.fnOf "_law_draws" "_law_draws" (defArgs st__law_draws) (defBody st__law_draws) (defScope st__law_draws) .none kV_law_draws dc_law_draws pm_law_draws an_law_draws cd_law_draws ct_law_draws), sl_law_draws⟩)
    (c_law_draws : PySem.W.codeIn K cd_law_draws "_law_draws" = true)
    (p_law_draws : PySem.W.keepIn K (.ref f_law_draws) = true)
    (a_law_words : PySem.W.nsIn K mainGlobals "_law_words" = some (some (.ref f_law_words)))
    (l_law_words : K.lookup f_law_words = some ⟨oc_law_words, od_law_words, .func (PySem.W.fnOf "_law_words" "_law_words" (defArgs st__law_words) (defBody st__law_words) (defScope st__law_words) .none kV_law_words dc_law_words pm_law_words an_law_words cd_law_words ct_law_words), sl_law_words⟩)
    (c_law_words : PySem.W.codeIn K cd_law_words "_law_words" = true)
    (p_law_words : PySem.W.keepIn K (.ref f_law_words) = true)
    (aPair_init : PySem.W.findIn K (.ref cPr) "__init__" = some (some (.ref fPair_init)))
    (iPair_init : PySem.W.isFn K (.ref fPair_init) = true)
    (lPair_init : K.lookup fPair_init = some ⟨ocPair_init, odPair_init, .func (PySem.W.fnOf "__init__" "Pair.__init__" (defArgs st_Pair_init) (defBody st_Pair_init) (defScope st_Pair_init) .none kVPair_init dcPair_init pmPair_init anPair_init cdPair_init ctPair_init), slPair_init⟩)
    (cPair_init : PySem.W.codeIn K cdPair_init "Pair.__init__" = true)
    (pPair_init : PySem.W.keepIn K (.ref fPair_init) = true)
    (ais_count : PySem.W.nsIn K mainGlobals "is_count" = some (some (.ref fis_count)))
    (lis_count : K.lookup fis_count = some ⟨ocis_count, odis_count, .func (PySem.W.fnOf "is_count" "is_count" (defArgs st_is_count) (defBody st_is_count) (defScope st_is_count) .none kVis_count dcis_count pmis_count anis_count cdis_count ctis_count), slis_count⟩)
    (cis_count : PySem.W.codeIn K cdis_count "is_count" = true)
    (pis_count : PySem.W.keepIn K (.ref fis_count) = true)
    (ais_below : PySem.W.nsIn K mainGlobals "is_below" = some (some (.ref fis_below)))
    (lis_below : K.lookup fis_below = some ⟨ocis_below, odis_below, .func (PySem.W.fnOf "is_below" "is_below" (defArgs st_is_below) (defBody st_is_below) (defScope st_is_below) .none kVis_below dcis_below pmis_below anis_below cdis_below ctis_below), slis_below⟩)
    (cis_below : PySem.W.codeIn K cdis_below "is_below" = true)
    (pis_below : PySem.W.keepIn K (.ref fis_below) = true)
    (aare_below : PySem.W.nsIn K mainGlobals "are_below" = some (some (.ref fare_below)))
    (lare_below : K.lookup fare_below = some ⟨ocare_below, odare_below, .func (PySem.W.fnOf "are_below" "are_below" (defArgs st_are_below) (defBody st_are_below) (defScope st_are_below) .none kVare_below dcare_below pmare_below anare_below cdare_below ctare_below), slare_below⟩)
    (care_below : PySem.W.codeIn K cdare_below "are_below" = true)
    (pare_below : PySem.W.keepIn K (.ref fare_below) = true)
    (a_is_word : PySem.W.nsIn K mainGlobals "_is_word" = some (some (.ref f_is_word)))
    (l_is_word : K.lookup f_is_word = some ⟨oc_is_word, od_is_word, .func (PySem.W.fnOf "_is_word" "_is_word" (defArgs st__is_word) (defBody st__is_word) (defScope st__is_word) .none kV_is_word dc_is_word pm_is_word an_is_word cd_is_word ct_is_word), sl_is_word⟩)
    (c_is_word : PySem.W.codeIn K cd_is_word "_is_word" = true)
    (p_is_word : PySem.W.keepIn K (.ref f_is_word) = true)
    (a_are_words : PySem.W.nsIn K mainGlobals "_are_words" = some (some (.ref f_are_words)))
    (l_are_words : K.lookup f_are_words = some ⟨oc_are_words, od_are_words, .func (PySem.W.fnOf "_are_words" "_are_words" (defArgs st__are_words) (defBody st__are_words) (defScope st__are_words) .none kV_are_words dc_are_words pm_are_words an_are_words cd_are_words ct_are_words), sl_are_words⟩)
    (c_are_words : PySem.W.codeIn K cd_are_words "_are_words" = true)
    (p_are_words : PySem.W.keepIn K (.ref f_are_words) = true)
    (aBook_init : PySem.W.findIn K (.ref cBk) "__init__" = some (some (.ref fBook_init)))
    (iBook_init : PySem.W.isFn K (.ref fBook_init) = true)
    (lBook_init : K.lookup fBook_init = some ⟨ocBook_init, odBook_init, .func (PySem.W.fnOf "__init__" "Book.__init__" (defArgs st_Book_init) (defBody st_Book_init) (defScope st_Book_init) .none kVBook_init dcBook_init pmBook_init anBook_init cdBook_init ctBook_init), slBook_init⟩)
    (cBook_init : PySem.W.codeIn K cdBook_init "Book.__init__" = true)
    (pBook_init : PySem.W.keepIn K (.ref fBook_init) = true)
    (aeq_no : PySem.W.nsIn K mainGlobals "_law_equal" = some (some (.ref feq_no)))
    (leq_no : K.lookup feq_no = some ⟨oceq_no, odeq_no, .func (PySem.W.fnOf "_law_equal" "_law_equal" (defArgs st_eq_no) (defBody st_eq_no) (defScope st_eq_no) .none kVeq_no dceq_no pmeq_no aneq_no cdeq_no cteq_no), sleq_no⟩)
    (ceq_no : PySem.W.codeIn K cdeq_no "_law_equal" = true)
    (peq_no : PySem.W.keepIn K (.ref feq_no) = true)
    (aeq0 : PySem.W.nsIn K mainGlobals "_law_equal" = some (some (.ref feq0)))
    (leq0 : K.lookup feq0 = some ⟨oceq0, odeq0, .func (PySem.W.fnOf "_law_equal" "_law_equal" (defArgs st_eq0) (defBody st_eq0) (defScope st_eq0) .none kVeq0 dceq0 pmeq0 aneq0 cdeq0 cteq0), sleq0⟩)
    (ceq0 : PySem.W.codeIn K cdeq0 "_law_equal" = true)
    (peq0 : PySem.W.keepIn K (.ref feq0) = true)
    (aeq1 : PySem.W.nsIn K mainGlobals "_law_equal" = some (some (.ref feq1)))
    (leq1 : K.lookup feq1 = some ⟨oceq1, odeq1, .func (PySem.W.fnOf "_law_equal" "_law_equal" (defArgs st_eq1) (defBody st_eq1) (defScope st_eq1) .none kVeq1 dceq1 pmeq1 aneq1 cdeq1 cteq1), sleq1⟩)
    (ceq1 : PySem.W.codeIn K cdeq1 "_law_equal" = true)
    (peq1 : PySem.W.keepIn K (.ref feq1) = true)
    (a_law_equal : PySem.W.nsIn K mainGlobals "_law_equal" = some (some (.ref f_law_equal)))
    (l_law_equal : K.lookup f_law_equal = some ⟨oc_law_equal, od_law_equal, .func (PySem.W.fnOf "_law_equal" "_law_equal" (defArgs st__law_equal) (defBody st__law_equal) (defScope st__law_equal) .none kV_law_equal dc_law_equal pm_law_equal an_law_equal cd_law_equal ct_law_equal), sl_law_equal⟩)
    (c_law_equal : PySem.W.codeIn K cd_law_equal "_law_equal" = true)
    (p_law_equal : PySem.W.keepIn K (.ref f_law_equal) = true)
    (aPair_is_even : PySem.W.findIn K (.ref cPr) "is_even" = some (some (.ref fPair_is_even)))
    (iPair_is_even : PySem.W.isFn K (.ref fPair_is_even) = true)
    (lPair_is_even : K.lookup fPair_is_even = some ⟨ocPair_is_even, odPair_is_even, .func (PySem.W.fnOf "is_even" "Pair.is_even" (defArgs st_Pair_is_even) (defBody st_Pair_is_even) (defScope st_Pair_is_even) .none kVPair_is_even dcPair_is_even pmPair_is_even anPair_is_even cdPair_is_even ctPair_is_even), slPair_is_even⟩)
    (cPair_is_even : PySem.W.codeIn K cdPair_is_even "Pair.is_even" = true)
    (pPair_is_even : PySem.W.keepIn K (.ref fPair_is_even) = true)
    (a_check_books : PySem.W.nsIn K mainGlobals "_check_books" = some (some (.ref f_check_books)))
    (l_check_books : K.lookup f_check_books = some ⟨oc_check_books, od_check_books, .func (PySem.W.fnOf "_check_books" "_check_books" (defArgs st__check_books) (defBody st__check_books) (defScope st__check_books) .none kV_check_books dc_check_books pm_check_books an_check_books cd_check_books ct_check_books), sl_check_books⟩)
    (c_check_books : PySem.W.codeIn K cd_check_books "_check_books" = true)
    (p_check_books : PySem.W.keepIn K (.ref f_check_books) = true)
    (a_is_even_rest : PySem.W.nsIn K mainGlobals "_is_even_rest" = some (some (.ref f_is_even_rest)))
    (l_is_even_rest : K.lookup f_is_even_rest = some ⟨oc_is_even_rest, od_is_even_rest, .func (PySem.W.fnOf "_is_even_rest" "_is_even_rest" (defArgs st__is_even_rest) (defBody st__is_even_rest) (defScope st__is_even_rest) .none kV_is_even_rest dc_is_even_rest pm_is_even_rest an_is_even_rest cd_is_even_rest ct_is_even_rest), sl_is_even_rest⟩)
    (c_is_even_rest : PySem.W.codeIn K cd_is_even_rest "_is_even_rest" = true)
    (p_is_even_rest : PySem.W.keepIn K (.ref f_is_even_rest) = true)
    (ais_rest_ahead : PySem.W.nsIn K mainGlobals "is_rest_ahead" = some (some (.ref fis_rest_ahead)))
    (lis_rest_ahead : K.lookup fis_rest_ahead = some ⟨ocis_rest_ahead, odis_rest_ahead, .func (PySem.W.fnOf "is_rest_ahead" "is_rest_ahead" (defArgs st_is_rest_ahead) (defBody st_is_rest_ahead) (defScope st_is_rest_ahead) .none kVis_rest_ahead dcis_rest_ahead pmis_rest_ahead anis_rest_ahead cdis_rest_ahead ctis_rest_ahead), slis_rest_ahead⟩)
    (cis_rest_ahead : PySem.W.codeIn K cdis_rest_ahead "is_rest_ahead" = true)
    (pis_rest_ahead : PySem.W.keepIn K (.ref fis_rest_ahead) = true)
    (a_behind : PySem.W.nsIn K mainGlobals "_behind" = some (some (.ref f_behind)))
    (l_behind : K.lookup f_behind = some ⟨oc_behind, od_behind, .func (PySem.W.fnOf "_behind" "_behind" (defArgs st__behind) (defBody st__behind) (defScope st__behind) .none kV_behind dc_behind pm_behind an_behind cd_behind ct_behind), sl_behind⟩)
    (c_behind : PySem.W.codeIn K cd_behind "_behind" = true)
    (p_behind : PySem.W.keepIn K (.ref f_behind) = true)
    (a_state : PySem.W.nsIn K mainGlobals "_state" = some (some (.ref f_state)))
    (l_state : K.lookup f_state = some ⟨oc_state, od_state, .func (PySem.W.fnOf "_state" "_state" (defArgs st__state) (defBody st__state) (defScope st__state) .none kV_state dc_state pm_state an_state cd_state ct_state), sl_state⟩)
    (c_state : PySem.W.codeIn K cd_state "_state" = true)
    (p_state : PySem.W.keepIn K (.ref f_state) = true)
    (aBook_word : PySem.W.findIn K (.ref cBk) "word" = some (some (.ref fBook_word)))
    (iBook_word : PySem.W.isFn K (.ref fBook_word) = true)
    (lBook_word : K.lookup fBook_word = some ⟨ocBook_word, odBook_word, .func (PySem.W.fnOf "word" "Book.word" (defArgs st_Book_word) (defBody st_Book_word) (defScope st_Book_word) .none kVBook_word dcBook_word pmBook_word anBook_word cdBook_word ctBook_word), slBook_word⟩)
    (cBook_word : PySem.W.codeIn K cdBook_word "Book.word" = true)
    (pBook_word : PySem.W.keepIn K (.ref fBook_word) = true)
    (a_size : PySem.W.nsIn K mainGlobals "_size" = some (some (.ref f_size)))
    (l_size : K.lookup f_size = some ⟨oc_size, od_size, .func (PySem.W.fnOf "_size" "_size" (defArgs st__size) (defBody st__size) (defScope st__size) .none kV_size dc_size pm_size an_size cd_size ct_size), sl_size⟩)
    (c_size : PySem.W.codeIn K cd_size "_size" = true)
    (p_size : PySem.W.keepIn K (.ref f_size) = true)
    (a_check_state : PySem.W.nsIn K mainGlobals "_check_state" = some (some (.ref f_check_state)))
    (l_check_state : K.lookup f_check_state = some ⟨oc_check_state, od_check_state, .func (PySem.W.fnOf "_check_state" "_check_state" (defArgs st__check_state) (defBody st__check_state) (defScope st__check_state) .none kV_check_state dc_check_state pm_check_state an_check_state cd_check_state ct_check_state), sl_check_state⟩)
    (c_check_state : PySem.W.codeIn K cd_check_state "_check_state" = true)
    (p_check_state : PySem.W.keepIn K (.ref f_check_state) = true)
    (a_rest : PySem.W.nsIn K mainGlobals "_rest" = some (some (.ref f_rest)))
    (l_rest : K.lookup f_rest = some ⟨oc_rest, od_rest, .func (PySem.W.fnOf "_rest" "_rest" (defArgs st__rest) (defBody st__rest) (defScope st__rest) .none kV_rest dc_rest pm_rest an_rest cd_rest ct_rest), sl_rest⟩)
    (c_rest : PySem.W.codeIn K cd_rest "_rest" = true)
    (p_rest : PySem.W.keepIn K (.ref f_rest) = true)
    (astep : PySem.W.nsIn K mainGlobals "step" = some (some (.ref fstep)))
    (lstep : K.lookup fstep = some ⟨ocstep, odstep, .func (PySem.W.fnOf "step" "step" (defArgs st_step) (defBody st_step) (defScope st_step) .none kVstep dcstep pmstep anstep cdstep ctstep), slstep⟩)
    (cstep : PySem.W.codeIn K cdstep "step" = true)
    (pstep : PySem.W.keepIn K (.ref fstep) = true)
    (asigns_of : PySem.W.nsIn K mainGlobals "signs_of" = some (some (.ref fsigns_of)))
    (lsigns_of : K.lookup fsigns_of = some ⟨ocsigns_of, odsigns_of, .func (PySem.W.fnOf "signs_of" "signs_of" (defArgs st_signs_of) (defBody st_signs_of) (defScope st_signs_of) .none kVsigns_of dcsigns_of pmsigns_of ansigns_of cdsigns_of ctsigns_of), slsigns_of⟩)
    (csigns_of : PySem.W.codeIn K cdsigns_of "signs_of" = true)
    (psigns_of : PySem.W.keepIn K (.ref fsigns_of) = true)
    (a_word_pair : PySem.W.nsIn K mainGlobals "_word_pair" = some (some (.ref f_word_pair)))
    (l_word_pair : K.lookup f_word_pair = some ⟨oc_word_pair, od_word_pair, .func (PySem.W.fnOf "_word_pair" "_word_pair" (defArgs st__word_pair) (defBody st__word_pair) (defScope st__word_pair) .none kV_word_pair dc_word_pair pm_word_pair an_word_pair cd_word_pair ct_word_pair), sl_word_pair⟩)
    (c_word_pair : PySem.W.codeIn K cd_word_pair "_word_pair" = true)
    (p_word_pair : PySem.W.keepIn K (.ref f_word_pair) = true)
    (aword_of : PySem.W.nsIn K mainGlobals "word_of" = some (some (.ref fword_of)))
    (lword_of : K.lookup fword_of = some ⟨ocword_of, odword_of, .func (PySem.W.fnOf "word_of" "word_of" (defArgs st_word_of) (defBody st_word_of) (defScope st_word_of) .none kVword_of dcword_of pmword_of anword_of cdword_of ctword_of), slword_of⟩)
    (cword_of : PySem.W.codeIn K cdword_of "word_of" = true)
    (pword_of : PySem.W.keepIn K (.ref fword_of) = true)
    (a_rest_of_signs : PySem.W.nsIn K mainGlobals "_rest_of_signs" = some (some (.ref f_rest_of_signs)))
    (l_rest_of_signs : K.lookup f_rest_of_signs = some ⟨oc_rest_of_signs, od_rest_of_signs, .func (PySem.W.fnOf "_rest_of_signs" "_rest_of_signs" (defArgs st__rest_of_signs) (defBody st__rest_of_signs) (defScope st__rest_of_signs) .none kV_rest_of_signs dc_rest_of_signs pm_rest_of_signs an_rest_of_signs cd_rest_of_signs ct_rest_of_signs), sl_rest_of_signs⟩)
    (c_rest_of_signs : PySem.W.codeIn K cd_rest_of_signs "_rest_of_signs" = true)
    (p_rest_of_signs : PySem.W.keepIn K (.ref f_rest_of_signs) = true)
    (arest_of : PySem.W.nsIn K mainGlobals "rest_of" = some (some (.ref frest_of)))
    (lrest_of : K.lookup frest_of = some ⟨ocrest_of, odrest_of, .func (PySem.W.fnOf "rest_of" "rest_of" (defArgs st_rest_of) (defBody st_rest_of) (defScope st_rest_of) .none kVrest_of dcrest_of pmrest_of anrest_of cdrest_of ctrest_of), slrest_of⟩)
    (crest_of : PySem.W.codeIn K cdrest_of "rest_of" = true)
    (prest_of : PySem.W.keepIn K (.ref frest_of) = true)
    (a_law_told : PySem.W.nsIn K mainGlobals "_law_told" = some (some (.ref f_law_told)))
    (l_law_told : K.lookup f_law_told = some ⟨oc_law_told, od_law_told, .func (PySem.W.fnOf "_law_told" "_law_told" (defArgs st__law_told) (defBody st__law_told) (defScope st__law_told) .none kV_law_told dc_law_told pm_law_told an_law_told cd_law_told ct_law_told), sl_law_told⟩)
    (c_law_told : PySem.W.codeIn K cd_law_told "_law_told" = true)
    (p_law_told : PySem.W.keepIn K (.ref f_law_told) = true)
    (a_law_step : PySem.W.nsIn K mainGlobals "_law_step" = some (some (.ref f_law_step)))
    (l_law_step : K.lookup f_law_step = some ⟨oc_law_step, od_law_step, .func (PySem.W.fnOf "_law_step" "_law_step" (defArgs st__law_step) (defBody st__law_step) (defScope st__law_step) .none kV_law_step dc_law_step pm_law_step an_law_step cd_law_step ct_law_step), sl_law_step⟩)
    (c_law_step : PySem.W.codeIn K cd_law_step "_law_step" = true)
    (p_law_step : PySem.W.keepIn K (.ref f_law_step) = true)
    (a_law_behind : PySem.W.nsIn K mainGlobals "_law_behind" = some (some (.ref f_law_behind)))
    (l_law_behind : K.lookup f_law_behind = some ⟨oc_law_behind, od_law_behind, .func (PySem.W.fnOf "_law_behind" "_law_behind" (defArgs st__law_behind) (defBody st__law_behind) (defScope st__law_behind) .none kV_law_behind dc_law_behind pm_law_behind an_law_behind cd_law_behind ct_law_behind), sl_law_behind⟩)
    (c_law_behind : PySem.W.codeIn K cd_law_behind "_law_behind" = true)
    (p_law_behind : PySem.W.keepIn K (.ref f_law_behind) = true)
    (a_law_refused : PySem.W.nsIn K mainGlobals "_law_refused" = some (some (.ref f_law_refused)))
    (l_law_refused : K.lookup f_law_refused = some ⟨oc_law_refused, od_law_refused, .func (PySem.W.fnOf "_law_refused" "_law_refused" (defArgs st__law_refused) (defBody st__law_refused) (defScope st__law_refused) .none kV_law_refused dc_law_refused pm_law_refused an_law_refused cd_law_refused ct_law_refused), sl_law_refused⟩)
    (c_law_refused : PySem.W.codeIn K cd_law_refused "_law_refused" = true)
    (p_law_refused : PySem.W.keepIn K (.ref f_law_refused) = true)
    (a_law_long_ones : PySem.W.nsIn K mainGlobals "_law_long_ones" = some (some (.ref f_law_long_ones)))
    (l_law_long_ones : K.lookup f_law_long_ones = some ⟨oc_law_long_ones, od_law_long_ones, .func (PySem.W.fnOf "_law_long_ones" "_law_long_ones" (defArgs st__law_long_ones) (defBody st__law_long_ones) (defScope st__law_long_ones) .none kV_law_long_ones dc_law_long_ones pm_law_long_ones an_law_long_ones cd_law_long_ones ct_law_long_ones), sl_law_long_ones⟩)
    (c_law_long_ones : PySem.W.codeIn K cd_law_long_ones "_law_long_ones" = true)
    (p_law_long_ones : PySem.W.keepIn K (.ref f_law_long_ones) = true)
    (alaw : PySem.W.nsIn K mainGlobals "law" = some (some (.ref flaw)))
    (llaw : K.lookup flaw = some ⟨oclaw, odlaw, .func (PySem.W.fnOf "law" "law" (defArgs st_law) (defBody st_law) (defScope st_law) .none kVlaw dclaw pmlaw anlaw cdlaw ctlaw), sllaw⟩)
    (claw : PySem.W.codeIn K cdlaw "law" = true)
    (plaw : PySem.W.keepIn K (.ref flaw) = true) :
    ∃ fd : FuncData, (∀ (s : Shared) (u : Value), BindsTo s fd ⟨[u], []⟩ [("script", u)]) ∧ ∀ base : Heap, K.In base → base.Ns mainGlobals mg → FnOk l.prog w K mg base (L2.CX l.prog w) 8 fa fd ["script"] (spF (S_law K)) := by
  have e := hfa.symm.trans (PySem.W.mg_of X G alaw)
  cases e
  have T : Txt K mg cAE cBB cBT cBN cBR cTL cBk cPr aE0 aEV aSI aBG := { no_isinstance := PySem.W.mg_none_of X G z_isinstance, no_int := PySem.W.mg_none_of X G z_int, no_bool := PySem.W.mg_none_of X G z_bool, no_tuple := PySem.W.mg_none_of X G z_tuple, no_list := PySem.W.mg_none_of X G z_list, no_all := PySem.W.mg_none_of X G z_all, no_len := PySem.W.mg_none_of X G z_len, no_abs := PySem.W.mg_none_of X G z_abs, no_range := PySem.W.mg_none_of X G z_range, no_min := PySem.W.mg_none_of X G z_min, no_set := PySem.W.mg_none_of X G z_set, no_str := PySem.W.mg_none_of X G z_str, no_enumerate := PySem.W.mg_none_of X G z_enumerate, no_sorted := PySem.W.mg_none_of X G z_sorted, no_sum := PySem.W.mg_none_of X G z_sum, c_MOST_LETTERS := ⟨_, PySem.W.mg_of X G k_c_MOST_LETTERS, ⟨_, rfl⟩⟩, c_MOST_WORDS := ⟨_, PySem.W.mg_of X G k_c_MOST_WORDS, ⟨_, rfl⟩⟩, c_LONGEST_WORD := ⟨_, PySem.W.mg_of X G k_c_LONGEST_WORD, ⟨_, rfl⟩⟩, c_SIGNS := ⟨_, PySem.W.mg_of X G k_c_SIGNS, ⟨_, rfl⟩⟩, e_AlikeError := ⟨PySem.W.mg_of X G a_cAE, x_cAE, p_cAE, b_cAE, t_cAE⟩, e_BadBook := ⟨PySem.W.mg_of X G a_cBB, x_cBB, p_cBB, b_cBB, t_cBB⟩, e_BadRest := ⟨PySem.W.mg_of X G a_cBT, x_cBT, p_cBT, b_cBT, t_cBT⟩, e_BadNumber := ⟨PySem.W.mg_of X G a_cBN, x_cBN, p_cBN, b_cBN, t_cBN⟩, e_BadRow := ⟨PySem.W.mg_of X G a_cBR, x_cBR, p_cBR, b_cBR, t_cBR⟩, e_TooLong := ⟨PySem.W.mg_of X G a_cTL, x_cTL, p_cTL, b_cTL, t_cTL⟩, x_cBB := ⟨e1_cBB, e2_cBB, b_cBB, e4_cBB, e5_cBB, e6, e7, e8_cBB⟩, x_cBT := ⟨e1_cBT, e2_cBT, b_cBT, e4_cBT, e5_cBT, e6, e7, e8_cBT⟩, x_cBN := ⟨e1_cBN, e2_cBN, b_cBN, e4_cBN, e5_cBN, e6, e7, e8_cBN⟩, x_cBR := ⟨e1_cBR, e2_cBR, b_cBR, e4_cBR, e5_cBR, e6, e7, e8_cBR⟩, x_cTL := ⟨e1_cTL, e2_cTL, b_cTL, e4_cTL, e5_cTL, e6, e7, e8_cTL⟩, m_cBB := PySem.W.exm_ref b_cAE e4_cAE t_cAE s_m_cBB, m_cBT := PySem.W.exm_ref b_cAE e4_cAE t_cAE s_m_cBT, m_cBN := PySem.W.exm_ref b_cAE e4_cAE t_cAE s_m_cBN, m_cBR := PySem.W.exm_ref b_cAE e4_cAE t_cAE s_m_cBR, m_cTL := PySem.W.exm_ref b_cAE e4_cAE t_cAE s_m_cTL, k_cBB_cBB := s_k_cBB_cBB, k_cBB_cBT := s_k_cBB_cBT, k_cBB_cBN := s_k_cBB_cBN, k_cBB_cBR := s_k_cBB_cBR, k_cBB_cTL := s_k_cBB_cTL, k_cBT_cBB := s_k_cBT_cBB, k_cBT_cBT := s_k_cBT_cBT, k_cBT_cBN := s_k_cBT_cBN, k_cBT_cBR := s_k_cBT_cBR, k_cBT_cTL := s_k_cBT_cTL, k_cBN_cBB := s_k_cBN_cBB, k_cBN_cBT := s_k_cBN_cBT, k_cBN_cBN := s_k_cBN_cBN, k_cBN_cBR := s_k_cBN_cBR, k_cBN_cTL := s_k_cBN_cTL, k_cBR_cBB := s_k_cBR_cBB, k_cBR_cBT := s_k_cBR_cBT, k_cBR_cBN := s_k_cBR_cBN, k_cBR_cBR := s_k_cBR_cBR, k_cBR_cTL := s_k_cBR_cTL, k_cTL_cBB := s_k_cTL_cBB, k_cTL_cBT := s_k_cTL_cBT, k_cTL_cBN := s_k_cTL_cBN, k_cTL_cBR := s_k_cTL_cBR, k_cTL_cTL := s_k_cTL_cTL, cl_cBk := ⟨pg_cBk, hd_cBk, po_cBk, sa_cBk⟩, cl_cPr := ⟨pg_cPr, hd_cPr, po_cPr, sa_cPr⟩, kt_aE0 := ⟨_, _, _, l_aE0, Nat.le_of_ble_eq_true rfl, .nil⟩, c_EVEN := ⟨_, PySem.W.mg_of X G g_aEV, rfl⟩, kt_aEV := ⟨_, _, _, l_aEV, Nat.le_of_ble_eq_true rfl, (.cons ⟨_, rfl⟩ (.cons rfl .nil))⟩, c_SIDES := ⟨_, PySem.W.mg_of X G g_aSI, rfl⟩, kt_aSI := ⟨_, _, _, l_aSI, Nat.le_of_ble_eq_true rfl, (.cons ⟨_, rfl⟩ (.cons ⟨_, rfl⟩ .nil))⟩, c_BEGIN := ⟨_, PySem.W.mg_of X G g_aBG, rfl⟩, kt_aBG := ⟨_, _, _, l_aBG, Nat.le_of_ble_eq_true rfl, (.cons ⟨_, rfl⟩ (.cons ⟨_, rfl⟩ .nil))⟩, n_cBk_letters := n_n_cBk_letters, n_cBk_size := n_n_cBk_size, n_cBk__words := n_n_cBk__words, n_cPr_first := n_n_cPr_first, n_cPr_second := n_n_cPr_second, n_cPr_letters := n_n_cPr_letters }
  have F_law_draws := fun_mk (st := st__law_draws) l_law_draws c_law_draws p_law_draws
  have b_law_draws := F_law_draws.binds (ps := ["script", "many"]) fun _ _ _ _ _ _ us hl => match us, hl with | [_, _], _ => rfl
  have F_law_words := fun_mk (st := st__law_words) l_law_words c_law_words p_law_words
  have b_law_words := F_law_words.binds (ps := ["draws", "size", "letters", "most"]) fun _ _ _ _ _ _ us hl => match us, hl with | [_, _, _, _], _ => rfl
  have FPair_init := fun_mk (st := st_Pair_init) lPair_init cPair_init pPair_init
  have bPair_init := FPair_init.binds (ps := ["self", "first", "second"]) fun _ _ _ _ _ _ us hl => match us, hl with | [_, _, _], _ => rfl
  have Fis_count := fun_mk (st := st_is_count) lis_count cis_count pis_count
  have bis_count := Fis_count.binds (ps := ["value"]) fun _ _ _ _ _ _ us hl => match us, hl with | [_], _ => rfl
  have Fis_below := fun_mk (st := st_is_below) lis_below cis_below pis_below
  have bis_below := Fis_below.binds (ps := ["value", "end"]) fun _ _ _ _ _ _ us hl => match us, hl with | [_, _], _ => rfl
  have Fare_below := fun_mk (st := st_are_below) lare_below care_below pare_below
  have bare_below := Fare_below.binds (ps := ["value", "end"]) fun _ _ _ _ _ _ us hl => match us, hl with | [_, _], _ => rfl
  have F_is_word := fun_mk (st := st__is_word) l_is_word c_is_word p_is_word
  have b_is_word := F_is_word.binds (ps := ["value", "letters"]) fun _ _ _ _ _ _ us hl => match us, hl with | [_, _], _ => rfl
  have F_are_words := fun_mk (st := st__are_words) l_are_words c_are_words p_are_words
  have b_are_words := F_are_words.binds (ps := ["value", "letters"]) fun _ _ _ _ _ _ us hl => match us, hl with | [_, _], _ => rfl
  have FBook_init := fun_mk (st := st_Book_init) lBook_init cBook_init pBook_init
  have bBook_init := FBook_init.binds (ps := ["self", "letters", "words"]) fun _ _ _ _ _ _ us hl => match us, hl with | [_, _, _], _ => rfl
  have Feq_no := fun_mk (st := st_eq_no) leq_no ceq_no peq_no
  have beq_no := Feq_no.binds (ps := ["actual", "due"]) fun _ _ _ _ _ _ us hl => match us, hl with | [_, _], _ => rfl
  have Feq0 := fun_mk (st := st_eq0) leq0 ceq0 peq0
  have beq0 := Feq0.binds (ps := ["actual", "due"]) fun _ _ _ _ _ _ us hl => match us, hl with | [_, _], _ => rfl
  have Feq1 := fun_mk (st := st_eq1) leq1 ceq1 peq1
  have beq1 := Feq1.binds (ps := ["actual", "due"]) fun _ _ _ _ _ _ us hl => match us, hl with | [_, _], _ => rfl
  have F_law_equal := fun_mk (st := st__law_equal) l_law_equal c_law_equal p_law_equal
  have b_law_equal := F_law_equal.binds (ps := ["actual", "due"]) fun _ _ _ _ _ _ us hl => match us, hl with | [_, _], _ => rfl
  have FPair_is_even := fun_mk (st := st_Pair_is_even) lPair_is_even cPair_is_even pPair_is_even
  have bPair_is_even := FPair_is_even.binds (ps := ["self"]) fun _ _ _ _ _ _ us hl => match us, hl with | [_], _ => rfl
  have F_check_books := fun_mk (st := st__check_books) l_check_books c_check_books p_check_books
  have b_check_books := F_check_books.binds (ps := ["pair"]) fun _ _ _ _ _ _ us hl => match us, hl with | [_], _ => rfl
  have F_is_even_rest := fun_mk (st := st__is_even_rest) l_is_even_rest c_is_even_rest p_is_even_rest
  have b_is_even_rest := F_is_even_rest.binds (ps := ["value"]) fun _ _ _ _ _ _ us hl => match us, hl with | [_], _ => rfl
  have Fis_rest_ahead := fun_mk (st := st_is_rest_ahead) lis_rest_ahead cis_rest_ahead pis_rest_ahead
  have bis_rest_ahead := Fis_rest_ahead.binds (ps := ["value", "letters"]) fun _ _ _ _ _ _ us hl => match us, hl with | [_, _], _ => rfl
  have F_behind := fun_mk (st := st__behind) l_behind c_behind p_behind
  have b_behind := F_behind.binds (ps := ["state", "first", "second"]) fun _ _ _ _ _ _ us hl => match us, hl with | [_, _, _], _ => rfl
  have F_state := fun_mk (st := st__state) l_state c_state p_state
  have b_state := F_state.binds (ps := ["rest"]) fun _ _ _ _ _ _ us hl => match us, hl with | [_], _ => rfl
  have FBook_word := fun_mk (st := st_Book_word) lBook_word cBook_word pBook_word
  have bBook_word := FBook_word.binds (ps := ["self", "number"]) fun _ _ _ _ _ _ us hl => match us, hl with | [_, _], _ => rfl
  have F_size := fun_mk (st := st__size) l_size c_size p_size
  have b_size := F_size.binds (ps := ["state"]) fun _ _ _ _ _ _ us hl => match us, hl with | [_], _ => rfl
  have F_check_state := fun_mk (st := st__check_state) l_check_state c_check_state p_check_state
  have b_check_state := F_check_state.binds (ps := ["state"]) fun _ _ _ _ _ _ us hl => match us, hl with | [_], _ => rfl
  have F_rest := fun_mk (st := st__rest) l_rest c_rest p_rest
  have b_rest := F_rest.binds (ps := ["state"]) fun _ _ _ _ _ _ us hl => match us, hl with | [_], _ => rfl
  have Fstep := fun_mk (st := st_step) lstep cstep pstep
  have bstep := Fstep.binds (ps := ["pair", "rest", "number"]) fun _ _ _ _ _ _ us hl => match us, hl with | [_, _, _], _ => rfl
  have Fsigns_of := fun_mk (st := st_signs_of) lsigns_of csigns_of psigns_of
  have bsigns_of := Fsigns_of.binds (ps := ["word"]) fun _ _ _ _ _ _ us hl => match us, hl with | [_], _ => rfl
  have F_word_pair := fun_mk (st := st__word_pair) l_word_pair c_word_pair p_word_pair
  have b_word_pair := F_word_pair.binds (ps := ["pair", "number"]) fun _ _ _ _ _ _ us hl => match us, hl with | [_, _], _ => rfl
  have Fword_of := fun_mk (st := st_word_of) lword_of cword_of pword_of
  have bword_of := Fword_of.binds (ps := ["signs"]) fun _ _ _ _ _ _ us hl => match us, hl with | [_], _ => rfl
  have F_rest_of_signs := fun_mk (st := st__rest_of_signs) l_rest_of_signs c_rest_of_signs p_rest_of_signs
  have b_rest_of_signs := F_rest_of_signs.binds (ps := ["state"]) fun _ _ _ _ _ _ us hl => match us, hl with | [_], _ => rfl
  have Frest_of := fun_mk (st := st_rest_of) lrest_of crest_of prest_of
  have brest_of := Frest_of.binds (ps := ["pair", "row"]) fun _ _ _ _ _ _ us hl => match us, hl with | [_, _], _ => rfl
  have F_law_told := fun_mk (st := st__law_told) l_law_told c_law_told p_law_told
  have b_law_told := F_law_told.binds (ps := ["word", "pair", "rest", "number"]) fun _ _ _ _ _ _ us hl => match us, hl with | [_, _, _, _], _ => rfl
  have F_law_step := fun_mk (st := st__law_step) l_law_step c_law_step p_law_step
  have b_law_step := F_law_step.binds (ps := ["first", "second", "rest", "number"]) fun _ _ _ _ _ _ us hl => match us, hl with | [_, _, _, _], _ => rfl
  have F_law_behind := fun_mk (st := st__law_behind) l_law_behind c_law_behind p_law_behind
  have b_law_behind := F_law_behind.binds (ps := ["first", "second", "row"]) fun _ _ _ _ _ _ us hl => match us, hl with | [_, _, _], _ => rfl
  have F_law_refused := fun_mk (st := st__law_refused) l_law_refused c_law_refused p_law_refused
  have b_law_refused := F_law_refused.binds (ps := ["at"]) fun _ _ _ _ _ _ us hl => match us, hl with | [_], _ => rfl
  have F_law_long_ones := fun_mk (st := st__law_long_ones) l_law_long_ones c_law_long_ones p_law_long_ones
  have b_law_long_ones := F_law_long_ones.binds (ps := []) fun _ _ _ _ _ _ us hl => match us, hl with | [], _ => rfl
  have Flaw := fun_mk (st := st_law) llaw claw plaw
  refine ⟨PySem.W.fnOf "law" "law" (defArgs st_law) (defBody st_law) (defScope st_law) .none kVlaw dclaw pmlaw anlaw cdlaw ctlaw, fun s u => .of_eq rfl, fun base _ _ => ?_⟩
  have C_law_draws : FnC l.prog w K mg base 1 "_law_draws" (spF (S_law_draws K)) := ⟨⟨_, _, _, ok__law_draws T  F_law_draws, PySem.W.mg_of X G a_law_draws, p_law_draws, b_law_draws⟩⟩
  have C_law_words : FnC l.prog w K mg base 1 "_law_words" (spF (S_lwords)) := ⟨⟨_, _, _, ok__law_words T  F_law_words, PySem.W.mg_of X G a_law_words, p_law_words, b_law_words⟩⟩
  have CPair_init : MkC l.prog w K mg base 1 cPr "Pair" (spN cPr (S_Pair cBk cBB)) := ⟨⟨_, _, _, ok_Pair_init T  FPair_init, ⟨mk_cPr, aPair_init, iPair_init, kc_cPr⟩, PySem.W.mg_of X G a_cPr, bPair_init⟩⟩
  have Cis_count : FnC l.prog w K mg base 1 "is_count" (spF (S_is_count)) := ⟨⟨_, _, _, ok_is_count T  Fis_count, PySem.W.mg_of X G ais_count, pis_count, bis_count⟩⟩
  have Cis_below : FnC l.prog w K mg base 2 "is_below" (spF (S_is_below)) := ⟨⟨_, _, _, ok_is_below T Cis_count Fis_below, PySem.W.mg_of X G ais_below, pis_below, bis_below⟩⟩
  have Care_below : FnC l.prog w K mg base 1 "are_below" (spF (S_are_below)) := ⟨⟨_, _, _, ok_are_below T  Fare_below, PySem.W.mg_of X G aare_below, pare_below, bare_below⟩⟩
  have C_is_word : FnC l.prog w K mg base 2 "_is_word" (spF (S_is_word)) := ⟨⟨_, _, _, ok__is_word T Care_below F_is_word, PySem.W.mg_of X G a_is_word, p_is_word, b_is_word⟩⟩
  have C_are_words : FnC l.prog w K mg base 3 "_are_words" (spF (S_are_words)) := ⟨⟨_, _, _, ok__are_words T C_is_word F_are_words, PySem.W.mg_of X G a_are_words, p_are_words, b_are_words⟩⟩
  have CBook_init : MkC l.prog w K mg base 4 cBk "Book" (spN cBk (S_Book cBB)) := ⟨⟨_, _, _, ok_Book_init T Cis_below C_are_words FBook_init, ⟨mk_cBk, aBook_init, iBook_init, kc_cBk⟩, PySem.W.mg_of X G a_cBk, bBook_init⟩⟩
  have Ceq_no : FnC l.prog w K mg base 1 "_law_equal" (spF (S_eqP K Q_no)) := ⟨⟨_, _, _, ok_eq_no T  Feq_no, PySem.W.mg_of X G aeq_no, peq_no, beq_no⟩⟩
  have Ceq0 : FnC l.prog w K mg base 2 "_law_equal" (spF (S_eqP K (Q_up Q_no))) := ⟨⟨_, _, _, ok_eq0 T Ceq_no Feq0, PySem.W.mg_of X G aeq0, peq0, beq0⟩⟩
  have Ceq1 : FnC l.prog w K mg base 3 "_law_equal" (spF (S_eqP K (Q_up (Q_up Q_no)))) := ⟨⟨_, _, _, ok_eq1 T Ceq0 Feq1, PySem.W.mg_of X G aeq1, peq1, beq1⟩⟩
  have C_law_equal : FnC l.prog w K mg base 4 "_law_equal" (spF (S_eqP K (Q_up (Q_up (Q_up Q_no))))) := ⟨⟨_, _, _, ok__law_equal T Ceq1 F_law_equal, PySem.W.mg_of X G a_law_equal, p_law_equal, b_law_equal⟩⟩
  have CPair_is_even : MtC l.prog w K mg base 1 cPr "is_even" (spF (S_is_even cBk cPr)) := ⟨⟨_, _, _, ok_Pair_is_even T  FPair_is_even, T.cl_cPr, ⟨aPair_is_even, iPair_is_even, pPair_is_even⟩, bPair_is_even⟩⟩
  have C_check_books : FnC l.prog w K mg base 2 "_check_books" (spF (S_check_books cBk cPr cBB)) := ⟨⟨_, _, _, ok__check_books T CPair_is_even F_check_books, PySem.W.mg_of X G a_check_books, p_check_books, b_check_books⟩⟩
  have C_is_even_rest : FnC l.prog w K mg base 1 "_is_even_rest" (spF (S_is_evenR)) := ⟨⟨_, _, _, ok__is_even_rest T  F_is_even_rest, PySem.W.mg_of X G a_is_even_rest, p_is_even_rest, b_is_even_rest⟩⟩
  have Cis_rest_ahead : FnC l.prog w K mg base 2 "is_rest_ahead" (spF (S_is_ahead)) := ⟨⟨_, _, _, ok_is_rest_ahead T Care_below Fis_rest_ahead, PySem.W.mg_of X G ais_rest_ahead, pis_rest_ahead, bis_rest_ahead⟩⟩
  have C_behind : FnC l.prog w K mg base 1 "_behind" (spF (S_behind K)) := ⟨⟨_, _, _, ok__behind T  F_behind, PySem.W.mg_of X G a_behind, p_behind, b_behind⟩⟩
  have C_state : FnC l.prog w K mg base 1 "_state" (spF (S_state)) := ⟨⟨_, _, _, ok__state T  F_state, PySem.W.mg_of X G a_state, p_state, b_state⟩⟩
  have CBook_word : MtC l.prog w K mg base 3 cBk "word" (spF (S_word cBk cBN)) := ⟨⟨_, _, _, ok_Book_word T Cis_below FBook_word, T.cl_cBk, ⟨aBook_word, iBook_word, pBook_word⟩, bBook_word⟩⟩
  have C_size : FnC l.prog w K mg base 1 "_size" (spF (S_size K)) := ⟨⟨_, _, _, ok__size T  F_size, PySem.W.mg_of X G a_size, p_size, b_size⟩⟩
  have C_check_state : FnC l.prog w K mg base 2 "_check_state" (spF (S_check_state K cTL)) := ⟨⟨_, _, _, ok__check_state T C_size F_check_state, PySem.W.mg_of X G a_check_state, p_check_state, b_check_state⟩⟩
  have C_rest : FnC l.prog w K mg base 1 "_rest" (spF (S_rest K)) := ⟨⟨_, _, _, ok__rest T  F_rest, PySem.W.mg_of X G a_rest, p_rest, b_rest⟩⟩
  have Cstep : FnC l.prog w K mg base 4 "step" (spF (S_step K cBk cPr cBB cBT cBN cTL)) := ⟨⟨_, _, _, ok_step T C_check_books C_is_even_rest Cis_rest_ahead C_behind C_state CBook_word C_check_state C_rest Fstep, PySem.W.mg_of X G astep, pstep, bstep⟩⟩
  have Csigns_of : FnC l.prog w K mg base 1 "signs_of" (spF (S_signs_of)) := ⟨⟨_, _, _, ok_signs_of T  Fsigns_of, PySem.W.mg_of X G asigns_of, psigns_of, bsigns_of⟩⟩
  have C_word_pair : FnC l.prog w K mg base 4 "_word_pair" (spF (S_word_pair cBk cPr)) := ⟨⟨_, _, _, ok__word_pair T Csigns_of CBook_word F_word_pair, PySem.W.mg_of X G a_word_pair, p_word_pair, b_word_pair⟩⟩
  have Cword_of : FnC l.prog w K mg base 1 "word_of" (spF (S_word_of)) := ⟨⟨_, _, _, ok_word_of T  Fword_of, PySem.W.mg_of X G aword_of, pword_of, bword_of⟩⟩
  have C_rest_of_signs : FnC l.prog w K mg base 2 "_rest_of_signs" (spF (S_rest_signs K)) := ⟨⟨_, _, _, ok__rest_of_signs T Cword_of C_rest F_rest_of_signs, PySem.W.mg_of X G a_rest_of_signs, p_rest_of_signs, b_rest_of_signs⟩⟩
  have Crest_of : FnC l.prog w K mg base 5 "rest_of" (spF (S_rest_of K cBk cPr cBB cBR cTL)) := ⟨⟨_, _, _, ok_rest_of T C_check_books Care_below C_word_pair C_behind C_check_state C_rest_of_signs Frest_of, PySem.W.mg_of X G arest_of, prest_of, brest_of⟩⟩
  have C_law_told : FnC l.prog w K mg base 6 "_law_told" (spF (S_told K cBk cPr)) := ⟨⟨_, _, _, ok__law_told T Cstep Crest_of F_law_told, PySem.W.mg_of X G a_law_told, p_law_told, b_law_told⟩⟩
  have C_law_step : FnC l.prog w K mg base 1 "_law_step" (spF (S_lstep)) := ⟨⟨_, _, _, ok__law_step T  F_law_step, PySem.W.mg_of X G a_law_step, p_law_step, b_law_step⟩⟩
  have C_law_behind : FnC l.prog w K mg base 2 "_law_behind" (spF (S_lbehind)) := ⟨⟨_, _, _, ok__law_behind T C_law_step F_law_behind, PySem.W.mg_of X G a_law_behind, p_law_behind, b_law_behind⟩⟩
  have C_law_refused : FnC l.prog w K mg base 1 "_law_refused" (spF (S_refused)) := ⟨⟨_, _, _, ok__law_refused T  F_law_refused, PySem.W.mg_of X G a_law_refused, p_law_refused, b_law_refused⟩⟩
  have C_law_long_ones : FnC l.prog w K mg base 7 "_law_long_ones" (spF (S_long K)) := ⟨⟨_, _, _, ok__law_long_ones T CPair_init CBook_init C_law_told C_law_refused F_law_long_ones, PySem.W.mg_of X G a_law_long_ones, p_law_long_ones, b_law_long_ones⟩⟩
  exact ok_law T C_law_draws C_law_words CPair_init CBook_init C_law_equal C_law_told C_law_step C_law_behind C_law_refused C_law_long_ones Flaw
theorem walk {l : PySem.W.OpenLaw} {q : Program} {loose : List Str} {XP : (Str → Option Value) → Heap → Prop} {YP : World → Heap → Prop} {d : DefRec} {K : Params → PySem.W.Frag} (hn : l.most = some 63) (hdf : d.params.defaults = [])
    (hY : ∀ (w : World) (h : Heap), YP w h → (K w.params).In h)
    (F : ∀ (w : World) (mg : Str → Option Value) (fa : Addr) (h : Heap), (K w.params).In h → h.Ns mainGlobals mg → mg d.name = some (.ref fa) →
      ∃ fd : FuncData, (∀ (s : Shared) (u : Value), BindsTo s fd ⟨[u], []⟩ [("script", u)]) ∧ ∀ base : Heap, (K w.params).In base → base.Ns mainGlobals mg → FnOk l.prog w (K w.params) mg base (L2.CX l.prog w) 8 fa fd ["script"] (spF (S_law (K w.params)))) :
    PySem.W.WalkO q loose XP YP l.row.toRowW d [] (fun f vs => PySem.call f vs) := by
  refine L2.walk_of (n := 63) (k := 8) (x := "script") (CX := fun w => L2.CX l.prog w) (sp := fun w => spF (S_law (K w.params))) hn (by decide) hdf ⟨rfl, by decide, by decide⟩ hY F (fun w H a ns hl _ hS => ?_) fun w H s e s' z => ?_
  · exact ⟨⟨ns, hl⟩, H, fun _ => none, rfl, fun _ _ _ => rfl, .cons ⟨a, rfl, hS⟩ .nil, fun v B' _ _ hv => dp_bool hv⟩
  · obtain ⟨a, B, H', cls, d, _, _, _, _, _, _, _, q⟩ := z
    exact q
end K60

open PySem PySem.W PyProof.Rows in
set_option maxRecDepth 100000 in
set_option maxHeartbeats 0 in
theorem PySem.Challenge.cw_alikeread_k60_steps_and_rests_holds : PySem.Challenge.rw_alikeread_k60_steps_and_rests.Holds := by
  w_on; o_law; k_head; (case hw => w_witness2)
  k_fill
  refine K60.walk (l := PySem.Challenge.rw_alikeread_k60_steps_and_rests) rfl rfl (fun w h Y => PySem.W.kIn_of Y) ?F
  case F =>
    intro w mg fa h KX G hmg
    refine' K60.all_mk KX G hmg ?l_aE0 ?g_aEV ?l_aEV ?g_aSI ?l_aSI ?g_aBG ?l_aBG ?a_cAE ?a_cBB ?a_cBT ?a_cBN ?a_cBR ?a_cTL ?a_cBk ?a_cPr ?k_c_MOST_LETTERS ?k_c_MOST_WORDS ?k_c_LONGEST_WORD ?k_c_SIGNS ?z_isinstance ?z_int ?z_bool ?z_tuple ?z_list ?z_all ?z_len ?z_abs ?z_range ?z_min ?z_set ?z_str ?z_enumerate ?z_sorted ?z_sum ?x_cAE ?p_cAE ?b_cAE ?t_cAE ?x_cBB ?p_cBB ?b_cBB ?t_cBB ?x_cBT ?p_cBT ?b_cBT ?t_cBT ?x_cBN ?p_cBN ?b_cBN ?t_cBN ?x_cBR ?p_cBR ?b_cBR ?t_cBR ?x_cTL ?p_cTL ?b_cTL ?t_cTL ?e6 ?e7 ?e1_cBB ?e2_cBB ?e4_cBB ?e5_cBB ?e8_cBB ?e1_cBT ?e2_cBT ?e4_cBT ?e5_cBT ?e8_cBT ?e1_cBN ?e2_cBN ?e4_cBN ?e5_cBN ?e8_cBN ?e1_cBR ?e2_cBR ?e4_cBR ?e5_cBR ?e8_cBR ?e1_cTL ?e2_cTL ?e4_cTL ?e5_cTL ?e8_cTL ?e4_cAE ?s_m_cBB ?s_m_cBT ?s_m_cBN ?s_m_cBR ?s_m_cTL ?s_k_cBB_cBB ?s_k_cBB_cBT ?s_k_cBB_cBN ?s_k_cBB_cBR ?s_k_cBB_cTL ?s_k_cBT_cBB ?s_k_cBT_cBT ?s_k_cBT_cBN ?s_k_cBT_cBR ?s_k_cBT_cTL ?s_k_cBN_cBB ?s_k_cBN_cBT ?s_k_cBN_cBN ?s_k_cBN_cBR ?s_k_cBN_cTL ?s_k_cBR_cBB ?s_k_cBR_cBT ?s_k_cBR_cBN ?s_k_cBR_cBR ?s_k_cBR_cTL ?s_k_cTL_cBB ?s_k_cTL_cBT ?s_k_cTL_cBN ?s_k_cTL_cBR ?s_k_cTL_cTL ?pg_cBk ?hd_cBk ?po_cBk ?sa_cBk ?mk_cBk ?kc_cBk ?pg_cPr ?hd_cPr ?po_cPr ?sa_cPr ?mk_cPr ?kc_cPr ?n_n_cBk_letters ?n_n_cBk_size ?n_n_cBk__words ?n_n_cPr_first ?n_n_cPr_second ?n_n_cPr_letters ?a_law_draws ?l_law_draws ?c_law_draws ?p_law_draws ?a_law_words ?l_law_words ?c_law_words ?p_law_words ?aPair_init ?iPair_init ?lPair_init ?cPair_init ?pPair_init ?ais_count ?lis_count ?cis_count ?pis_count ?ais_below ?lis_below ?cis_below ?pis_below ?aare_below ?lare_below ?care_below ?pare_below ?a_is_word ?l_is_word ?c_is_word ?p_is_word ?a_are_words ?l_are_words ?c_are_words ?p_are_words ?aBook_init ?iBook_init ?lBook_init ?cBook_init ?pBook_init ?aeq_no ?leq_no ?ceq_no ?peq_no ?aeq0 ?leq0 ?ceq0 ?peq0 ?aeq1 ?leq1 ?ceq1 ?peq1 ?a_law_equal ?l_law_equal ?c_law_equal ?p_law_equal ?aPair_is_even ?iPair_is_even ?lPair_is_even ?cPair_is_even ?pPair_is_even ?a_check_books ?l_check_books ?c_check_books ?p_check_books ?a_is_even_rest ?l_is_even_rest ?c_is_even_rest ?p_is_even_rest ?ais_rest_ahead ?lis_rest_ahead ?cis_rest_ahead ?pis_rest_ahead ?a_behind ?l_behind ?c_behind ?p_behind ?a_state ?l_state ?c_state ?p_state ?aBook_word ?iBook_word ?lBook_word ?cBook_word ?pBook_word ?a_size ?l_size ?c_size ?p_size ?a_check_state ?l_check_state ?c_check_state ?p_check_state ?a_rest ?l_rest ?c_rest ?p_rest ?astep ?lstep ?cstep ?pstep ?asigns_of ?lsigns_of ?csigns_of ?psigns_of ?a_word_pair ?l_word_pair ?c_word_pair ?p_word_pair ?aword_of ?lword_of ?cword_of ?pword_of ?a_rest_of_signs ?l_rest_of_signs ?c_rest_of_signs ?p_rest_of_signs ?arest_of ?lrest_of ?crest_of ?prest_of ?a_law_told ?l_law_told ?c_law_told ?p_law_told ?a_law_step ?l_law_step ?c_law_step ?p_law_step ?a_law_behind ?l_law_behind ?c_law_behind ?p_law_behind ?a_law_refused ?l_law_refused ?c_law_refused ?p_law_refused ?a_law_long_ones ?l_law_long_ones ?c_law_long_ones ?p_law_long_ones ?alaw ?llaw ?claw ?plaw
    (case g_aEV => k_is)
    (case l_aEV => k_is)
    (case g_aSI => k_is)
    (case l_aSI => k_is)
    (case g_aBG => k_is)
    (case l_aBG => k_is)
    (case l_aE0 => k_is)
    (case a_cAE => k_is)
    (case a_cBB => k_is)
    (case a_cBT => k_is)
    (case a_cBN => k_is)
    (case a_cBR => k_is)
    (case a_cTL => k_is)
    (case a_cBk => k_is)
    (case a_cPr => k_is)
    (case k_c_MOST_LETTERS => k_is)
    (case k_c_MOST_WORDS => k_is)
    (case k_c_LONGEST_WORD => k_is)
    (case k_c_SIGNS => k_is)
    (case z_isinstance => k_is)
    (case z_int => k_is)
    (case z_bool => k_is)
    (case z_tuple => k_is)
    (case z_list => k_is)
    (case z_all => k_is)
    (case z_len => k_is)
    (case z_abs => k_is)
    (case z_range => k_is)
    (case z_min => k_is)
    (case z_set => k_is)
    (case z_str => k_is)
    (case z_enumerate => k_is)
    (case z_sorted => k_is)
    (case z_sum => k_is)
    (case x_cAE => k_exc)
    (case p_cAE => k_is)
    (case b_cAE => k_is)
    (case t_cAE => k_is)
    (case x_cBB => k_exc)
    (case p_cBB => k_is)
    (case b_cBB => k_is)
    (case t_cBB => k_is)
    (case x_cBT => k_exc)
    (case p_cBT => k_is)
    (case b_cBT => k_is)
    (case t_cBT => k_is)
    (case x_cBN => k_exc)
    (case p_cBN => k_is)
    (case b_cBN => k_is)
    (case t_cBN => k_is)
    (case x_cBR => k_exc)
    (case p_cBR => k_is)
    (case b_cBR => k_is)
    (case t_cBR => k_is)
    (case x_cTL => k_exc)
    (case p_cTL => k_is)
    (case b_cTL => k_is)
    (case t_cTL => k_is)
    (case e6 => k_is)
    (case e7 => k_is)
    (case e1_cBB => k_is)
    (case e2_cBB => k_is)
    (case e4_cBB => k_is)
    (case e5_cBB => k_is)
    (case e8_cBB => k_is)
    (case e1_cBT => k_is)
    (case e2_cBT => k_is)
    (case e4_cBT => k_is)
    (case e5_cBT => k_is)
    (case e8_cBT => k_is)
    (case e1_cBN => k_is)
    (case e2_cBN => k_is)
    (case e4_cBN => k_is)
    (case e5_cBN => k_is)
    (case e8_cBN => k_is)
    (case e1_cBR => k_is)
    (case e2_cBR => k_is)
    (case e4_cBR => k_is)
    (case e5_cBR => k_is)
    (case e8_cBR => k_is)
    (case e1_cTL => k_is)
    (case e2_cTL => k_is)
    (case e4_cTL => k_is)
    (case e5_cTL => k_is)
    (case e8_cTL => k_is)
    (case e4_cAE => k_is)
    (case s_m_cBB => (first | rfl | k_is))
    (case s_m_cBT => (first | rfl | k_is))
    (case s_m_cBN => (first | rfl | k_is))
    (case s_m_cBR => (first | rfl | k_is))
    (case s_m_cTL => (first | rfl | k_is))
    (case s_k_cBB_cBB => (first | rfl | k_is))
    (case s_k_cBB_cBT => (first | rfl | k_is))
    (case s_k_cBB_cBN => (first | rfl | k_is))
    (case s_k_cBB_cBR => (first | rfl | k_is))
    (case s_k_cBB_cTL => (first | rfl | k_is))
    (case s_k_cBT_cBB => (first | rfl | k_is))
    (case s_k_cBT_cBT => (first | rfl | k_is))
    (case s_k_cBT_cBN => (first | rfl | k_is))
    (case s_k_cBT_cBR => (first | rfl | k_is))
    (case s_k_cBT_cTL => (first | rfl | k_is))
    (case s_k_cBN_cBB => (first | rfl | k_is))
    (case s_k_cBN_cBT => (first | rfl | k_is))
    (case s_k_cBN_cBN => (first | rfl | k_is))
    (case s_k_cBN_cBR => (first | rfl | k_is))
    (case s_k_cBN_cTL => (first | rfl | k_is))
    (case s_k_cBR_cBB => (first | rfl | k_is))
    (case s_k_cBR_cBT => (first | rfl | k_is))
    (case s_k_cBR_cBN => (first | rfl | k_is))
    (case s_k_cBR_cBR => (first | rfl | k_is))
    (case s_k_cBR_cTL => (first | rfl | k_is))
    (case s_k_cTL_cBB => (first | rfl | k_is))
    (case s_k_cTL_cBT => (first | rfl | k_is))
    (case s_k_cTL_cBN => (first | rfl | k_is))
    (case s_k_cTL_cBR => (first | rfl | k_is))
    (case s_k_cTL_cTL => (first | rfl | k_is))
    (case pg_cBk => k_is)
    (case hd_cBk => k_is)
    (case po_cBk => k_is)
    (case sa_cBk => k_is)
    (case mk_cBk => k_is)
    (case kc_cBk => k_is)
    (case pg_cPr => k_is)
    (case hd_cPr => k_is)
    (case po_cPr => k_is)
    (case sa_cPr => k_is)
    (case mk_cPr => k_is)
    (case kc_cPr => k_is)
    (case n_n_cBk_letters => k_is)
    (case n_n_cBk_size => k_is)
    (case n_n_cBk__words => k_is)
    (case n_n_cPr_first => k_is)
    (case n_n_cPr_second => k_is)
    (case n_n_cPr_letters => k_is)
    (case a_law_draws => k_is)
    (case l_law_draws => k_is)
    (case c_law_draws => k_is)
    (case p_law_draws => k_is)
    (case a_law_words => k_is)
    (case l_law_words => k_is)
    (case c_law_words => k_is)
    (case p_law_words => k_is)
    (case aPair_init => k_is)
    (case iPair_init => k_is)
    (case lPair_init => k_is)
    (case cPair_init => k_is)
    (case pPair_init => k_is)
    (case ais_count => k_is)
    (case lis_count => k_is)
    (case cis_count => k_is)
    (case pis_count => k_is)
    (case ais_below => k_is)
    (case lis_below => k_is)
    (case cis_below => k_is)
    (case pis_below => k_is)
    (case aare_below => k_is)
    (case lare_below => k_is)
    (case care_below => k_is)
    (case pare_below => k_is)
    (case a_is_word => k_is)
    (case l_is_word => k_is)
    (case c_is_word => k_is)
    (case p_is_word => k_is)
    (case a_are_words => k_is)
    (case l_are_words => k_is)
    (case c_are_words => k_is)
    (case p_are_words => k_is)
    (case aBook_init => k_is)
    (case iBook_init => k_is)
    (case lBook_init => k_is)
    (case cBook_init => k_is)
    (case pBook_init => k_is)
    (case aeq_no => k_is)
    (case leq_no => k_is)
    (case ceq_no => k_is)
    (case peq_no => k_is)
    (case aeq0 => k_is)
    (case leq0 => k_is)
    (case ceq0 => k_is)
    (case peq0 => k_is)
    (case aeq1 => k_is)
    (case leq1 => k_is)
    (case ceq1 => k_is)
    (case peq1 => k_is)
    (case a_law_equal => k_is)
    (case l_law_equal => k_is)
    (case c_law_equal => k_is)
    (case p_law_equal => k_is)
    (case aPair_is_even => k_is)
    (case iPair_is_even => k_is)
    (case lPair_is_even => k_is)
    (case cPair_is_even => k_is)
    (case pPair_is_even => k_is)
    (case a_check_books => k_is)
    (case l_check_books => k_is)
    (case c_check_books => k_is)
    (case p_check_books => k_is)
    (case a_is_even_rest => k_is)
    (case l_is_even_rest => k_is)
    (case c_is_even_rest => k_is)
    (case p_is_even_rest => k_is)
    (case ais_rest_ahead => k_is)
    (case lis_rest_ahead => k_is)
    (case cis_rest_ahead => k_is)
    (case pis_rest_ahead => k_is)
    (case a_behind => k_is)
    (case l_behind => k_is)
    (case c_behind => k_is)
    (case p_behind => k_is)
    (case a_state => k_is)
    (case l_state => k_is)
    (case c_state => k_is)
    (case p_state => k_is)
    (case aBook_word => k_is)
    (case iBook_word => k_is)
    (case lBook_word => k_is)
    (case cBook_word => k_is)
    (case pBook_word => k_is)
    (case a_size => k_is)
    (case l_size => k_is)
    (case c_size => k_is)
    (case p_size => k_is)
    (case a_check_state => k_is)
    (case l_check_state => k_is)
    (case c_check_state => k_is)
    (case p_check_state => k_is)
    (case a_rest => k_is)
    (case l_rest => k_is)
    (case c_rest => k_is)
    (case p_rest => k_is)
    (case astep => k_is)
    (case lstep => k_is)
    (case cstep => k_is)
    (case pstep => k_is)
    (case asigns_of => k_is)
    (case lsigns_of => k_is)
    (case csigns_of => k_is)
    (case psigns_of => k_is)
    (case a_word_pair => k_is)
    (case l_word_pair => k_is)
    (case c_word_pair => k_is)
    (case p_word_pair => k_is)
    (case aword_of => k_is)
    (case lword_of => k_is)
    (case cword_of => k_is)
    (case pword_of => k_is)
    (case a_rest_of_signs => k_is)
    (case l_rest_of_signs => k_is)
    (case c_rest_of_signs => k_is)
    (case p_rest_of_signs => k_is)
    (case arest_of => k_is)
    (case lrest_of => k_is)
    (case crest_of => k_is)
    (case prest_of => k_is)
    (case a_law_told => k_is)
    (case l_law_told => k_is)
    (case c_law_told => k_is)
    (case p_law_told => k_is)
    (case a_law_step => k_is)
    (case l_law_step => k_is)
    (case c_law_step => k_is)
    (case p_law_step => k_is)
    (case a_law_behind => k_is)
    (case l_law_behind => k_is)
    (case c_law_behind => k_is)
    (case p_law_behind => k_is)
    (case a_law_refused => k_is)
    (case l_law_refused => k_is)
    (case c_law_refused => k_is)
    (case p_law_refused => k_is)
    (case a_law_long_ones => k_is)
    (case l_law_long_ones => k_is)
    (case c_law_long_ones => k_is)
    (case p_law_long_ones => k_is)
    (case alaw => k_is)
    (case llaw => k_is)
    (case claw => k_is)
    (case plaw => k_is)

