import PyProof.Rows.All
import Wide.All
import OpenK.AllK
import Wide.FinOn
import HandS.ForMost
import HandS.ForExc
import HandS.Evl
import HandS.IsInst
import HandS.ExcIs
import HandS.Conv
import HandS.TupMul
import HandS.TupAny
import HandS.CallSlots
import HandS.SetBool
import HandS.Strs
import HandS.Zip
import HandS.Style
import HandS.Comp
import HandS.DictComp
import HandS.Iter
import HandS.TupLe
import HandS.Text
import HandS.Walk
import HandS.Dict
import HandS.SetFor
import PyProof.EnumMake
import PyProof.Draws
import HandS.WordsDict
import PySem.Challenge.RW_alikeread_k58_alike_rows_to_sixty
set_option Elab.async false
set_option linter.all false
set_option maxRecDepth 100000
set_option maxHeartbeats 4000000
namespace Mini
open PySem L2 Evl

/-! ### the heap in two parts: B what stays, M what is owned and may change -/
def jn (B M : Hp) : Hp := fun a => match M a with
  | some o => some o
  | none => B a
def Dj (B M : Hp) : Prop := ∀ a o, B a = some o → M a = none
theorem jn_M {B M : Hp} {a : Addr} {o : HO} (h : M a = some o) : jn B M a = some o := by unfold jn; rw [h]
theorem jn_N {B M : Hp} {a : Addr} (h : M a = none) : jn B M a = B a := by unfold jn; rw [h]
theorem jn_B {B M : Hp} {a : Addr} {o : HO} (d : Dj B M) (h : B a = some o) : jn B M a = some o := by rw [jn_N (d a o h), h]
theorem jn_free {B M : Hp} {a : Addr} (h : jn B M a = none) : B a = none ∧ M a = none := by
  unfold jn at h
  cases e : M a with
  | some o => rw [e] at h; cases h
  | none => rw [e] at h; exact ⟨h, rfl⟩
theorem jn_ex {B M : Hp} (d : Dj B M) : Ex B (jn B M) := fun a o h => jn_B d h
theorem jn_mono {B B' M : Hp} (e : Ex B B') (d : Dj B' M) : Ex (jn B M) (jn B' M) := fun a o h => by
  unfold jn at h ⊢
  cases q : M a with
  | some u => rw [q] at h; exact h
  | none => rw [q] at h; exact e a o h
theorem upd_new {B M : Hp} {p : Addr} {o : HO} (h : jn B M p = none) : upd (jn B M) p o = jn (upd B p o) M := by
  obtain ⟨_, hM⟩ := jn_free h
  funext a
  unfold upd jn
  dsimp only
  by_cases e : a = p
  · rw [if_pos e, e, hM]; simp
  · rw [if_neg e, if_neg e]
theorem dj_new {B M : Hp} {p : Addr} {o : HO} (d : Dj B M) (h : jn B M p = none) : Dj (upd B p o) M := fun a u e => by
  by_cases q : a = p
  · rw [q]; exact (jn_free h).2
  · rw [upd_ne q] at e; exact d a u e
theorem ex_new {B M : Hp} {p : Addr} {o : HO} (h : jn B M p = none) : Ex B (upd B p o) := Ex.new (jn_free h).1
theorem upd_own {B M : Hp} {p : Addr} {o : HO} : upd (jn B M) p o = jn B (upd M p o) := by
  funext a
  unfold upd jn
  dsimp only
  by_cases e : a = p
  · rw [if_pos e, if_pos e]
  · rw [if_neg e, if_neg e]
theorem dj_own {B M : Hp} {p : Addr} {o : HO} (d : Dj B M) (h : B p = none) : Dj B (upd M p o) := fun a u e => by
  by_cases q : a = p
  · rw [q, h] at e; cases e
  · rw [upd_ne q]; exact d a u e
theorem dj_free {B M : Hp} {p : Addr} {o : HO} (d : Dj B M) (h : M p = some o) : B p = none := by
  cases e : B p with
  | none => rfl
  | some u => rw [d p u e] at h; cases h

/-! ### data: what a value is, read out of the heap -/
mutual
inductive Dq (H : Hp) : V → PyData → Prop
  | non : Dq H .non .none
  | bl (b : Bool) : Dq H (.bl b) (.bool b)
  | int (i : Int) : Dq H (.int i) (.int i)
  | str (x : Str) : Dq H (.str x) (.str x)
  | lst {a : Addr} {xs : List V} {ds : List PyData} : H a = some (.lst xs) → DqAll H xs ds → Dq H (.ref a) (.list ds)
  | tup {a : Addr} {xs : List V} {ds : List PyData} : H a = some (.tup xs) → DqAll H xs ds → Dq H (.ref a) (.tuple ds)
inductive DqAll (H : Hp) : List V → List PyData → Prop
  | nil : DqAll H [] []
  | cons {v : V} {vs : List V} {d : PyData} {ds : List PyData} : Dq H v d → DqAll H vs ds → DqAll H (v :: vs) (d :: ds)
end
theorem Dq_ex {H H' : Hp} (e : Ex H H') : ∀ (d : PyData) (v : V), Dq H v d → Dq H' v d
  | .none, _, h => by cases h; exact .non
  | .bool b, _, h => by cases h; exact .bl b
  | .int i, _, h => by cases h; exact .int i
  | .str x, _, h => by cases h; exact .str x
  | .list ds, _, h => by
    cases h with
    | lst hs ha => exact .lst (e _ _ hs) (go e ds _ ha)
  | .tuple ds, _, h => by
    cases h with
    | tup hs ha => exact .tup (e _ _ hs) (go e ds _ ha)
  | .dict _, _, h => by cases h
where
  go {H H' : Hp} (e : Ex H H') : ∀ (ds : List PyData) (vs : List V), DqAll H vs ds → DqAll H' vs ds
  | [], _, h => by cases h; exact .nil
  | d :: ds, _, h => by
    cases h with
    | cons a b => exact .cons (Dq_ex e d _ a) (go e ds _ b)
theorem Dq_dp {K : PySem.W.Frag} {H : Hp} : ∀ (d : PyData) (v : V), Dq H v d → Dp K H v d
  | .none, _, h => by cases h; exact .non
  | .bool b, _, h => by cases h; exact .bl b
  | .int i, _, h => by cases h; exact .int i
  | .str x, _, h => by cases h; exact .str x
  | .list ds, _, h => by
    cases h with
    | lst hs ha => exact .lst (sq_of hs) (go ds _ ha)
  | .tuple ds, _, h => by
    cases h with
    | tup hs ha => exact .tup (st_of hs) (go ds _ ha)
  | .dict _, _, h => by cases h
where
  go {K : PySem.W.Frag} {H : Hp} : ∀ (ds : List PyData) (vs : List V), DqAll H vs ds → DpAll K H vs ds
  | [], _, h => by cases h; exact .nil
  | d :: ds, _, h => by
    cases h with
    | cons a b => exact .cons (Dq_dp d _ a) (go ds _ b)
theorem DqAll_ex {H H' : Hp} (e : Ex H H') {ds : List PyData} {vs : List V} (h : DqAll H vs ds) : DqAll H' vs ds := Dq_ex.go e ds vs h
theorem DqAll_len {H : Hp} : ∀ {ds : List PyData} {vs : List V}, DqAll H vs ds → vs.length = ds.length
  | [], _, h => by cases h; rfl
  | d :: ds, _, h => by cases h with | cons a b => simp [DqAll_len b]
theorem DqAll_get {H : Hp} : ∀ {ds : List PyData} {vs : List V} {i : Nat} {d : PyData}, DqAll H vs ds → ds[i]? = some d → ∃ v, vs[i]? = some v ∧ Dq H v d
  | [], _, i, d, h, e => by simp at e
  | x :: ds, _, 0, d, h, e => by
    cases h with | cons a b => simp at e; subst e; exact ⟨_, rfl, a⟩
  | x :: ds, _, i + 1, d, h, e => by
    cases h with | cons a b => simpa using DqAll_get (i := i) b (by simpa using e)
theorem DqAll_getV {H : Hp} : ∀ {ds : List PyData} {vs : List V} {i : Nat} {v : V}, DqAll H vs ds → vs[i]? = some v → ∃ d, ds[i]? = some d ∧ Dq H v d
  | [], _, i, d, h, e => by cases h; simp at e
  | x :: ds, _, 0, d, h, e => by
    cases h with | cons a b => simp at e; subst e; exact ⟨_, rfl, a⟩
  | x :: ds, _, i + 1, d, h, e => by
    cases h with | cons a b => simpa using DqAll_getV (i := i) b (by simpa using e)
theorem DqAll_append {H : Hp} : ∀ {ds es : List PyData} {vs us : List V}, DqAll H vs ds → DqAll H us es → DqAll H (vs ++ us) (ds ++ es)
  | [], _, _, _, h, g => by cases h; exact g
  | x :: ds, _, _, _, h, g => by cases h with | cons a b => exact .cons a (DqAll_append b g)
theorem DqAll_take {H : Hp} : ∀ {ds : List PyData} {vs : List V} (n : Nat), DqAll H vs ds → DqAll H (vs.take n) (ds.take n)
  | _, _, 0, _ => by simpa using DqAll.nil
  | [], _, n + 1, h => by cases h; simpa using DqAll.nil
  | x :: ds, _, n + 1, h => by cases h with | cons a b => simpa using DqAll.cons a (DqAll_take n b)
theorem DqAll_drop {H : Hp} : ∀ {ds : List PyData} {vs : List V} (n : Nat), DqAll H vs ds → DqAll H (vs.drop n) (ds.drop n)
  | _, _, 0, h => by simpa using h
  | [], _, n + 1, h => by cases h; simpa using DqAll.nil
  | x :: ds, _, n + 1, h => by cases h with | cons a b => simpa using DqAll_drop n b
theorem DqAll_set {H : Hp} {v : V} {d : PyData} (hv : Dq H v d) : ∀ {ds : List PyData} {vs : List V} (n : Nat), DqAll H vs ds → DqAll H (vs.set n v) (ds.set n d)
  | [], _, n, h => by cases h; simpa using DqAll.nil
  | x :: ds, _, 0, h => by cases h with | cons a b => simpa using DqAll.cons hv b
  | x :: ds, _, n + 1, h => by cases h with | cons a b => simpa using DqAll.cons a (DqAll_set hv n b)
theorem DqAll_eraseIdx {H : Hp} : ∀ {ds : List PyData} {vs : List V} (n : Nat), DqAll H vs ds → DqAll H (vs.eraseIdx n) (ds.eraseIdx n)
  | [], _, n, h => by cases h; simpa using DqAll.nil
  | x :: ds, _, 0, h => by cases h with | cons a b => simpa using b
  | x :: ds, _, n + 1, h => by cases h with | cons a b => simpa using DqAll.cons a (DqAll_eraseIdx n b)
theorem DqAll_dropLast {H : Hp} {ds : List PyData} {vs : List V} (h : DqAll H vs ds) : DqAll H vs.dropLast ds.dropLast := by
  rw [List.dropLast_eq_take, List.dropLast_eq_take, DqAll_len h]
  exact DqAll_take _ h
theorem DqAll_rep {H : Hp} {ds : List PyData} {vs : List V} (h : DqAll H vs ds) : ∀ n, DqAll H (List.replicate n vs).flatten (List.replicate n ds).flatten
  | 0 => by simpa using DqAll.nil
  | n + 1 => by simpa [List.replicate_succ] using DqAll_append h (DqAll_rep h n)
theorem DqAll_reverse {H : Hp} : ∀ {ds : List PyData} {vs : List V}, DqAll H vs ds → DqAll H vs.reverse ds.reverse
  | [], _, h => by cases h; exact .nil
  | x :: ds, _, h => by cases h with | cons a b => simpa using DqAll_append (DqAll_reverse b) (.cons a .nil)
theorem DqAll_ints {H : Hp} : ∀ {ns : List Int} {vs : List V}, DqAll H vs (ns.map PyData.int) → vs = ns.map V.int
  | [], _, h => by cases h; rfl
  | n :: ns, _, h => by
    cases h with
    | cons a b => cases a; rw [DqAll_ints b]; rfl
theorem DqAll_ofInts {H : Hp} : ∀ (ns : List Int), DqAll H (ns.map V.int) (ns.map PyData.int)
  | [] => .nil
  | n :: ns => .cons (.int n) (DqAll_ofInts ns)
theorem DqAll_bools {H : Hp} : ∀ {ns : List Bool} {vs : List V}, DqAll H vs (ns.map PyData.bool) → vs = ns.map V.bl
  | [], _, h => by cases h; rfl
  | n :: ns, _, h => by
    cases h with
    | cons a b => cases a; rw [DqAll_bools b]; rfl

/-! ### types of slots -/
structure Ty where
  p : V → Hp → Prop
  mono : ∀ {v : V} {B B' : Hp}, Ex B B' → p v B → p v B'
structure Ow where
  r : Addr → HO → Hp → Prop
  mono : ∀ {a : Addr} {o : HO} {B B' : Hp}, Ex B B' → r a o B → r a o B'
def isD (d : PyData) : Ty := ⟨fun v B => Dq B v d, fun e h => Dq_ex e d _ h⟩
/-- an owned list -/
def isL (ds : List PyData) : Ow := ⟨fun _ o B => ∃ vs, o = .lst vs ∧ DqAll B vs ds, fun e ⟨vs, h, q⟩ => ⟨vs, h, DqAll_ex e q⟩⟩
/-- an instance of the class at C, its attributes as R says -/
def isO (C : Addr) (R : List (Str × V) → Hp → Prop) (mono : ∀ {fs : List (Str × V)} {B B' : Hp}, Ex B B' → R fs B → R fs B') : Ty :=
  ⟨fun v B => ∃ p dx fs, v = .ref p ∧ B p = some (.ins C dx fs) ∧ R fs B, fun e ⟨p, dx, fs, h1, h2, h3⟩ => ⟨p, dx, fs, h1, e _ _ h2, mono e h3⟩⟩
/-- a value of the built-in class or of a class of one's own, as a value -/
def isV (v : V) : Ty := ⟨fun u _ => u = v, fun _ h => h⟩
inductive Sl where
  | no
  | im (P : Ty)
  | ow (R : Ow)
  | bw (R : Ow)
abbrev Gm := List Sl
structure Holds (M0 : Hp) (G : Gm) (σ : L2.St) (B M : Hp) : Prop where
  len : σ.length = G.length
  dj : Dj B M
  cal : Ex M0 M
  im : ∀ (i : Nat) P, G[i]? = some (.im P) → ∃ v, σ[i]? = some (some v) ∧ P.p v B
  ow : ∀ (i : Nat) R, G[i]? = some (.ow R) → ∃ l o, σ[i]? = some (some (.ref l)) ∧ M l = some o ∧ R.r l o B ∧ M0 l = none
  bw : ∀ (i : Nat) R, G[i]? = some (.bw R) → ∃ l o, σ[i]? = some (some (.ref l)) ∧ M0 l = some o ∧ R.r l o B
  ne : ∀ (i j : Nat) R R' l, G[i]? = some (.ow R) → G[j]? = some (.ow R') → σ[i]? = some (some (.ref l)) → σ[j]? = some (some (.ref l)) → i = j
theorem Holds.ext {M0 : Hp} {G : Gm} {σ : L2.St} {B B' M : Hp} (h : Holds M0 G σ B M) (e : Ex B B') (d : Dj B' M) : Holds M0 G σ B' M where
  len := h.len
  dj := d
  cal := h.cal
  im := fun i P q => by obtain ⟨v, a, b⟩ := h.im i P q; exact ⟨v, a, P.mono e b⟩
  ow := fun i R q => by obtain ⟨l, o, a, b, c, f⟩ := h.ow i R q; exact ⟨l, o, a, b, R.mono e c, f⟩
  bw := fun i R q => by obtain ⟨l, o, a, b, c⟩ := h.bw i R q; exact ⟨l, o, a, b, R.mono e c⟩
  ne := h.ne

/-! ### what an expression is worth -/
def Sv (te : TE) (G : Gm) (P : Ty) : Prop := ∀ (M0 : Hp) (σ : L2.St) (B M : Hp), Holds M0 G σ B M → ∀ Q : VK, (∀ v B', Ex B B' → Dj B' M → P.p v B' → Q v (jn B' M)) → te σ (jn B M) Q
/-- a new list -/
def Svl (te : TE) (G : Gm) (ds : List PyData) : Prop := ∀ (M0 : Hp) (σ : L2.St) (B M : Hp), Holds M0 G σ B M → ∀ Q : VK,
  (∀ p vs B', Ex B B' → Dj B' M → jn B' M p = none → DqAll B' vs ds → Q (.ref p) (upd (jn B' M) p (.lst vs))) → te σ (jn B M) Q
/-- a list that can be read -/
def Rl (te : TE) (G : Gm) (ds : List PyData) : Prop := ∀ (M0 : Hp) (σ : L2.St) (B M : Hp), Holds M0 G σ B M → ∀ Q : VK,
  (∀ a vs B', Ex B B' → Dj B' M → jn B' M a = some (.lst vs) → DqAll B' vs ds → Q (.ref a) (jn B' M)) → te σ (jn B M) Q
/-- a test -/
def St' (tt : TT) (G : Gm) (b : Bool) : Prop := ∀ (M0 : Hp) (σ : L2.St) (B M : Hp), Holds M0 G σ B M → ∀ Q : Bool → Hp → Prop, (∀ B', Ex B B' → Dj B' M → Q b (jn B' M)) → tt σ (jn B M) Q
/-- arguments -/
inductive Ar where
  | im (P : Ty)
  | ow (R : Ow)
def ArOk (a : Ar) (v : V) (B M : Hp) : Prop := match a with
  | .im P => P.p v B
  | .ow R => ∃ l o, v = .ref l ∧ M l = some o ∧ R.r l o B
inductive ArsOk : List Ar → List V → Hp → Hp → Prop where
  | nil {B M} : ArsOk [] [] B M
  | cons {a as v vs B M} : ArOk a v B M → ArsOk as vs B M → ArsOk (a :: as) (v :: vs) B M
theorem ArOk.ext {a : Ar} {v : V} {B B' M : Hp} (e : Ex B B') (h : ArOk a v B M) : ArOk a v B' M := by
  cases a with
  | im P => exact P.mono e h
  | ow R => obtain ⟨l, o, h1, h2, h3⟩ := h; exact ⟨l, o, h1, h2, R.mono e h3⟩
theorem ArsOk.ext {as : List Ar} {vs : List V} {B B' M : Hp} (e : Ex B B') (h : ArsOk as vs B M) : ArsOk as vs B' M := by
  induction h with
  | nil => exact .nil
  | cons a _ ih => exact .cons (a.ext e) (ih e)
theorem ArsOk.len {as : List Ar} {vs : List V} {B M : Hp} (h : ArsOk as vs B M) : vs.length = as.length := by
  induction h with
  | nil => rfl
  | cons a _ ih => simp [ih]
def Sa (ta : TA) (G : Gm) (as : List Ar) : Prop := ∀ (M0 : Hp) (σ : L2.St) (B M : Hp), Holds M0 G σ B M → ∀ Q : List V → Hp → Prop, (∀ vs B', Ex B B' → Dj B' M → ArsOk as vs B' M → Q vs (jn B' M)) → ta σ (jn B M) Q
/-- an optional part of a slice -/
def So (to : TO) (G : Gm) (o : Option Int) : Prop := ∀ (M0 : Hp) (σ : L2.St) (B M : Hp), Holds M0 G σ B M → ∀ Q : Option Int → Hp → Prop, (∀ B', Ex B B' → Dj B' M → Q o (jn B' M)) → to σ (jn B M) Q

section
variable {G : Gm} {te ta tb tl : TE} {tt tu : TT} {tas : TA} {P Pa Pb : Ty} {R : Ow} {d e : PyData} {ds es : List PyData} {b c : Bool} {i j : Int} {r : R2}

theorem sv_is (h : Sv te G (isD d)) (q : d = e) : Sv te G (isD e) := q ▸ h
theorem st_is (h : St' tt G b) (q : b = c) : St' tt G c := q ▸ h
theorem svl_is (h : Svl te G ds) (q : ds = es) : Svl te G es := q ▸ h
theorem rl_is (h : Rl te G ds) (q : ds = es) : Rl te G es := q ▸ h
theorem sv_svl (h : Svl te G ds) : Sv te G (isD (.list ds)) := fun M0 σ B M H Q q => h M0 σ B M H Q fun p vs B' e dj hn ha => by
  rw [upd_new hn]
  exact q _ _ (e.trans (ex_new hn)) (dj_new dj hn) (.lst upd_same (DqAll_ex (ex_new hn) ha))
theorem rl_sv (h : Sv te G (isD (.list ds))) : Rl te G ds := fun M0 σ B M H Q q => h M0 σ B M H Q fun v B' e dj hv => by
  cases (show Dq B' v (.list ds) from hv) with
  | lst hs ha => exact q _ _ _ e dj (jn_B dj hs) ha
theorem rl_svl (h : Svl te G ds) : Rl te G ds := rl_sv (sv_svl h)
theorem sv_var {n : Nat} (h : G[n]? = some (.im P)) : Sv (tVar n) G P := fun M0 σ B M H Q q => by
  obtain ⟨v, a, b⟩ := H.im n P h
  exact ⟨v, a, q v B (Ex.refl B) H.dj b⟩
theorem rl_ow {n : Nat} (h : G[n]? = some (.ow (isL ds))) : Rl (tVar n) G ds := fun M0 σ B M H Q q => by
  obtain ⟨l, o, a, b, ⟨vs, rfl, c⟩, _⟩ := H.ow n _ h
  exact ⟨_, a, q l vs B (Ex.refl B) H.dj (jn_M b) c⟩
theorem rl_bw {n : Nat} (h : G[n]? = some (.bw (isL ds))) : Rl (tVar n) G ds := fun M0 σ B M H Q q => by
  obtain ⟨l, o, a, b, ⟨vs, rfl, c⟩⟩ := H.bw n _ h
  exact ⟨_, a, q l vs B (Ex.refl B) H.dj (jn_M (H.cal _ _ b)) c⟩
theorem sv_cV {v : V} (h : ∀ B, P.p v B) : Sv (tC v) G P := fun M0 σ B M H Q q => q v B (Ex.refl B) H.dj (h B)
theorem sv_int : Sv (tC (.int i)) G (isD (.int i)) := sv_cV fun _ => .int i
theorem sv_bl : Sv (tC (.bl b)) G (isD (.bool b)) := sv_cV fun _ => .bl b
theorem sv_non : Sv (tC .non) G (isD .none) := sv_cV fun _ => .non
theorem sv_str {x : Str} : Sv (tC (.str x)) G (isD (.str x)) := sv_cV fun _ => .str x
theorem sv_val {v : V} : Sv (tC v) G (isV v) := sv_cV fun _ => rfl

/-! arguments -/
theorem sa_nil : Sa tNil G [] := fun M0 σ B M H Q q => q [] B (Ex.refl B) H.dj .nil
theorem sa_im {tr : TA} {as : List Ar} (h : Sv te G P) (hr : Sa tr G as) : Sa (tCons te tr) G (.im P :: as) := fun M0 σ B M H Q q =>
  h M0 σ B M H _ fun v B1 e1 d1 p1 => hr M0 σ B1 M (H.ext e1 d1) _ fun vs B2 e2 d2 p2 => q _ B2 (e1.trans e2) d2 (.cons (P.mono e2 p1) p2)
theorem sa_ow {tr : TA} {as : List Ar} {n : Nat} (h : G[n]? = some (.ow R)) (hr : Sa tr G as) : Sa (tCons (tVar n) tr) G (.ow R :: as) := fun M0 σ B M H Q q => by
  obtain ⟨l, o, a, b, c, _⟩ := H.ow n _ h
  exact ⟨_, a, hr M0 σ B M H _ fun vs B2 e2 d2 p2 => q _ B2 e2 d2 (.cons ⟨l, o, rfl, b, R.mono e2 c⟩ p2)⟩
theorem sa_bw {tr : TA} {as : List Ar} {n : Nat} (h : G[n]? = some (.bw R)) (hr : Sa tr G as) : Sa (tCons (tVar n) tr) G (.ow R :: as) := fun M0 σ B M H Q q => by
  obtain ⟨l, o, a, b, c⟩ := H.bw n _ h
  exact ⟨_, a, hr M0 σ B M H _ fun vs B2 e2 d2 p2 => q _ B2 e2 d2 (.cons ⟨l, o, rfl, H.cal _ _ b, R.mono e2 c⟩ p2)⟩

/-! operators by values: x and y as they stand -/
/-- r, from x and y of these types, gives a value of type P -/
def Rv (r : R2) (Pa Pb P : Ty) : Prop := ∀ (B M : Hp) (x y : V), Dj B M → Pa.p x B → Pb.p y B → ∀ Q : VK, (∀ v B', Ex B B' → Dj B' M → P.p v B' → Q v (jn B' M)) → r x y (jn B M) Q
theorem sv_op (ha : Sv ta G Pa) (hb : Sv tb G Pb) (hr : Rv r Pa Pb P) : Sv (tOp r ta tb) G P := fun M0 σ B M H Q q =>
  ha M0 σ B M H _ fun x B1 e1 d1 p1 => hb M0 σ B1 M (H.ext e1 d1) _ fun y B2 e2 d2 p2 => hr B2 M x y d2 (Pa.mono e2 p1) p2 Q fun v B3 e3 d3 p3 => q v B3 ((e1.trans e2).trans e3) d3 p3
theorem rv_or1 {r' : R2} (h : Rv r Pa Pb P) : Rv (fun x y H Q => r x y H Q ∨ r' x y H Q) Pa Pb P := fun B M x y dj p1 p2 Q q => .inl (h B M x y dj p1 p2 Q q)
theorem rv_or2 {r' : R2} (h : Rv r' Pa Pb P) : Rv (fun x y H Q => r x y H Q ∨ r' x y H Q) Pa Pb P := fun B M x y dj p1 p2 Q q => .inr (h B M x y dj p1 p2 Q q)
/-- where the answer is at hand, the heap as it is -/
theorem rv_at {C : V → V → Hp → Prop} {f : V → V → V} (h : ∀ x y (H : Hp) (Q : VK), C x y H → Q (f x y) H → r x y H Q) (hc : ∀ B M x y, Dj B M → Pa.p x B → Pb.p y B → C x y (jn B M) ∧ P.p (f x y) B) : Rv r Pa Pb P := fun B M x y dj p1 p2 Q q =>
  h x y _ Q (hc B M x y dj p1 p2).1 (q _ B (Ex.refl B) dj (hc B M x y dj p1 p2).2)
theorem dp_int {B : Hp} {v : V} (h : (isD (.int i)).p v B) : v = .int i := by cases (show Dq B v (.int i) from h); rfl
theorem dp_bool {B : Hp} {v : V} (h : (isD (.bool b)).p v B) : v = .bl b := by cases (show Dq B v (.bool b) from h); rfl
theorem dp_str {B : Hp} {x : Str} {v : V} (h : (isD (.str x)).p v B) : v = .str x := by cases (show Dq B v (.str x) from h); rfl
theorem dp_none {B : Hp} {v : V} (h : (isD .none).p v B) : v = .non := by cases (show Dq B v .none from h); rfl
theorem rv_I {C : Int → Int → Prop} {g : Int → Int → Int} (hc : C i j) : Rv (rI C fun i j => .int (g i j)) (isD (.int i)) (isD (.int j)) (isD (.int (g i j))) := fun B M x y dj p1 p2 Q q => by
  rw [dp_int p1, dp_int p2]
  exact ⟨i, j, rfl, rfl, hc, q _ B (Ex.refl B) dj (.int _)⟩
theorem rv_I0 {g : Int → Int → Int} : Rv (rI0 fun i j => .int (g i j)) (isD (.int i)) (isD (.int j)) (isD (.int (g i j))) := fun B M x y dj p1 p2 Q q => by
  rw [dp_int p1, dp_int p2]
  exact ⟨i, j, rfl, rfl, q _ B (Ex.refl B) dj (.int _)⟩
theorem rv_B0 {g : Int → Int → Bool} : Rv (rI0 fun i j => .bl (g i j)) (isD (.int i)) (isD (.int j)) (isD (.bool (g i j))) := fun B M x y dj p1 p2 Q q => by
  rw [dp_int p1, dp_int p2]
  exact ⟨i, j, rfl, rfl, q _ B (Ex.refl B) dj (.bl _)⟩
end
end Mini

namespace Mini
open PySem L2 Evl

/-! ### callees in one piece, what they raise told at the caller's slots -/
structure FnC (P : Program) (w : World) (K : PySem.W.Frag) (mg : Str → Option Value) (base : Heap) (k : Nat) (x : Str) (sp : Sp) : Prop where
  ex : ∃ (f : Addr) (fd : FuncData) (ps : List Str), FnOk P w K mg base (L2.CX P w) k f fd ps sp ∧ mg x = some (.ref f) ∧ PySem.W.keepIn K (.ref f) = true ∧ Binds K fd ps []
structure MtC (P : Program) (w : World) (K : PySem.W.Frag) (mg : Str → Option Value) (base : Heap) (k : Nat) (C : Addr) (m : Str) (sp : Sp) : Prop where
  ex : ∃ (f : Addr) (fd : FuncData) (ps : List Str), FnOk P w K mg base (L2.CX P w) k f fd ps sp ∧ Cls K C ∧ Meth K C m f ∧ Binds K fd ps []
structure MkC (P : Program) (w : World) (K : PySem.W.Frag) (mg : Str → Option Value) (base : Heap) (k : Nat) (C : Addr) (x : Str) (sp : Sp) : Prop where
  ex : ∃ (f : Addr) (fd : FuncData) (ps : List Str), FnOk P w K mg base (L2.CX P w) k f fd ps sp ∧ Mk K C f ∧ mg x = some (.ref C) ∧ Binds K fd ps []
def tMt (C : Addr) (m : Str) (sp : Sp) (E : L2.St → XK) (ta : TE) (t : TA) : TE := fun σ H Q => ta σ H fun x H1 => ∃ a dx fs, x = .ref a ∧ H1 a = some (.ins C dx fs) ∧ fs.lookup m = none ∧ t σ H1 fun vs H2 => sp (x :: vs) H2 Q (E σ)
def tMk (C : Addr) (sp : Sp) (E : L2.St → XK) (t : TA) : TE := fun σ H Q => t σ H fun vs H1 => ∀ x dx, H1 x = none → H1 dx = none → dx ≠ x → sp (.ref x :: vs) (upd (upd H1 dx (.own x)) x (.ins C dx [])) (fun v H2 => v = .non ∧ Q (.ref x) H2) (E σ)
section
open PyProof.Rows
variable {X : Cx} {k : Nat} {x m : Str} {C : Addr} {sp : Sp} {E : L2.St → XK} {p pos apos : Pos} {e o : Expr} {es : List Expr} {ta : TE} {t : TA}
theorem pe_fn (c : FnC X.prog X.w X.K X.mg X.base k x sp) {j : Nat} (hr : Room j X.A) (hx : ∀ σ, PassesAt (L2.CX X.prog X.w) X σ (E σ)) (ha : PA X (e :: es) t) (hk : k ≤ j := by decide) (hg : Gl X x := by rfl)
    (hdb : (x == ("__debug__" : Str)) = false := by decide) (he : starEach (e :: es) X.env = (false, eval e X.env) :: starEach es X.env := by rfl) (hpl : (backTo pos (starEach es X.env)).any (·.1) = false := by rfl) :
    PE X (.Call (.Name x p) (e :: es) [] pos) (tCallS sp E t) := by
  obtain ⟨f, fd, ps, F, hm, kp, hb⟩ := c.ex
  exact pe_callS F (hr.mono hk) hg hm kp hb hx ha hdb he hpl
theorem pe_mt {pl : Sem Bool} (he : PE X o ta) (c : MtC X.prog X.w X.K X.mg X.base k C m sp) {j : Nat} (hr : Room j X.A) (hx : ∀ σ, PassesAt (L2.CX X.prog X.w) X σ (E σ)) (ha : PA X (e :: es) t) (hk : k ≤ j := by decide)
    (hst : starEach (e :: es) X.env = (false, eval e X.env) :: starEach es X.env := by rfl) (hpl : (backTo pos (starEach es X.env)).any (·.1) = false := by rfl)
    (ht : eval (.Call (.Attribute o m apos) (e :: es) [] pos) X.env = (do
      let ov ← eval o X.env
      standAt apos.atName
      let (f, first) ← holding [ov] (getMethod ov m pl)
      callWith pos f first (backTo pos (starEach (e :: es) X.env)) (backToKw pos (keywordEach [] X.env))) := by rfl) :
    PE X (.Call (.Attribute o m apos) (e :: es) [] pos) (tMt C m sp E ta t) := by
  obtain ⟨f, fd, ps, F, cl, hm, hb⟩ := c.ex
  refine ⟨fun pins s σ H Q I h => ?_⟩
  refine PySem.W.methodCall_KW (pl := pl) (thn (he.run pins s σ H _ I h) fun u s1 hh => ?_) ht
  obtain ⟨x, H1, I1, rx, a, dx, fs, ex, ea, l, q⟩ := hh
  subst ex
  obtain rfl : u = Value.ref a := rx
  refine getmeth_ok I1 ea cl hm l ?_
  refine PySem.W.callWith_K (first := [.ref a]) (h₀ := X.base) I.ok.mod.kin hm.kp (thn (ha.run pos pins s1 σ H1 _ I1 q) fun us s2 hh => ?_) hst hpl
  obtain ⟨vs, H2, I2, r, q2⟩ := hh
  exact ⟨I2.kIn, run_fnS (us := .ref a :: us) (vs := .ref a :: vs) F (hr.mono hk) hb (hx σ) I2 (.cons rfl r) q2⟩
theorem pe_mt0 {pl : Sem Bool} (he : PE X o ta) (c : MtC X.prog X.w X.K X.mg X.base k C m sp) {j : Nat} (hr : Room j X.A) (hx : ∀ σ, PassesAt (L2.CX X.prog X.w) X σ (E σ)) (hk : k ≤ j := by decide)
    (ht : eval (.Call (.Attribute o m apos) [] [] pos) X.env = (do
      let ov ← eval o X.env
      standAt apos.atName
      let (f, first) ← holding [ov] (getMethod ov m pl)
      callWith pos f first (backTo pos (starEach [] X.env)) (backToKw pos (keywordEach [] X.env))) := by rfl) :
    PE X (.Call (.Attribute o m apos) [] [] pos) (tMt C m sp E ta tNil) := by
  obtain ⟨f, fd, ps, F, cl, hm, hb⟩ := c.ex
  refine ⟨fun pins s σ H Q I h => ?_⟩
  refine PySem.W.methodCall_KW (pl := pl) (thn (he.run pins s σ H _ I h) fun u s1 hh => ?_) ht
  obtain ⟨x, H1, I1, rx, a, dx, fs, ex, ea, l, q⟩ := hh
  subst ex
  obtain rfl : u = Value.ref a := rx
  refine getmeth_ok I1 ea cl hm l ?_
  exact PySem.W.callWith_K0 (first := [.ref a]) I1.kIn hm.kp (run_fnS (us := [.ref a]) (vs := [.ref a]) F (hr.mono hk) hb (hx σ) I1 (.cons rfl .nil) q)
theorem run_mkS {pins : List (Addr × Obj)} {f : Addr} {fd : FuncData} {ps : List Str} {σ : L2.St} {H : Hp} {s : Shared} {Q : VK} {us : List Value} {vs : List V} (M : Mk X.K C f) (F : FnOk X.prog X.w X.K X.mg X.base (L2.CX X.prog X.w) k f fd ps sp) (hr : Room (k + 1) X.A)
    (hb : Binds X.K fd ps []) (hx : PassesAt (L2.CX X.prog X.w) X σ (E σ)) (I : Inv X pins σ H s) (r : Vals vs us)
    (h : ∀ x dx, H x = none → H dx = none → dx ≠ x → sp (.ref x :: vs) (upd (upd H dx (.own x)) x (.ins C dx [])) (fun v H2 => v = .non ∧ Q (.ref x) H2) (E σ)) :
    wpAny (model X.prog X.w) X.A (call (.ref C) us) (EP X pins σ Q) X.xe s := by
  have hq := h (s.heap.objs.size + 1) s.heap.objs.size (I.hok.fresh (Nat.le_succ _)) (I.hok.fresh (Nat.le_refl _)) (Nat.ne_of_lt (Nat.lt_succ_self _))
  have I2 := Inv.made (C := C) I
  have r2 : Vals (V.ref (s.heap.objs.size + 1) :: vs) (Value.ref (s.heap.objs.size + 1) :: us) := .cons rfl r
  have hl : (Value.ref (s.heap.objs.size + 1) :: us ++ []).length = ps.length := by
    have e := r2.length
    rw [F.len _ _ _ _ hq] at e
    rw [List.append_nil]
    exact e.symm
  have b := hb _ (Value.ref (s.heap.objs.size + 1) :: us) I2.kIn hl
  rw [List.append_nil] at b
  refine wpAny_call (make_map (f := f) I.kIn M.makes M.init (beq_iff_eq.mp M.fn) (codeAny_mono (F.run _ X.stack _ _ ⟨Value.ref (s.heap.objs.size + 1) :: us, []⟩ (Value.ref (s.heap.objs.size + 1) :: us) _ _ (E σ) (hr.make C us []) (I2.env0.make C us []) b r2 hq) fun res s' hq' => ?_))
  cases res with
  | error e => exact hx pins _ _ e s' I2 hq'
  | ok fl =>
    cases fl with
    | ret u =>
      obtain ⟨v, H', I3, rv, ev, q3⟩ := I2.after hq'
      subst ev
      exact ⟨rv, ⟨V.ref (s.heap.objs.size + 1), H', I3, rfl, q3⟩⟩
    | next => exact False.elim hq'
    | brk => exact False.elim hq'
    | cont => exact False.elim hq'
theorem pe_mk (c : MkC X.prog X.w X.K X.mg X.base k C x sp) {j : Nat} (hr : Room j X.A) (hx : ∀ σ, PassesAt (L2.CX X.prog X.w) X σ (E σ)) (ha : PA X (e :: es) t) (hk : k + 1 ≤ j := by decide) (hg : Gl X x := by rfl)
    (hdb : (x == ("__debug__" : Str)) = false := by decide) (he : starEach (e :: es) X.env = (false, eval e X.env) :: starEach es X.env := by rfl) (hpl : (backTo pos (starEach es X.env)).any (·.1) = false := by rfl) :
    PE X (.Call (.Name x p) (e :: es) [] pos) (tMk C sp E t) := by
  obtain ⟨f, fd, ps, F, M, hm, hb⟩ := c.ex
  refine ⟨fun pins s σ H Q I h => ?_⟩
  refine wpAny_Call_Name_kw (ld_glob I hg hm ?_ hdb)
  refine PySem.W.callWith_K (h₀ := X.base) I.ok.mod.kin M.kp (thn (ha.run pos pins s σ H _ I h) fun us s1 hh => ?_) he hpl
  obtain ⟨vs, H1, I1, r, q⟩ := hh
  exact ⟨I1.kIn, run_mkS M F (hr.mono hk) hb (hx σ) I1 r q⟩
end
/-- where nothing is raised -/
theorem px0 {X : Cx} : ∀ σ : L2.St, PassesAt (L2.CX X.prog X.w) X σ ((fun _ => E0 : L2.St → XK) σ) := fun σ pins H s e s' I c => passL pins σ H s e s' I c
/-- in a def's own body -/
theorem pxM {X : Cx} {E : XK} (tk : Takes X (fun cls d _ H => E cls d H)) : ∀ σ : L2.St, PassesAt (L2.CX X.prog X.w) X σ ((fun _ => E : L2.St → XK) σ) := fun σ pins H s e s' I c => passes_call tk (fun _ _ _ _ h => h) pins σ H s e s' I c

/-! ### what a def promises -/
inductive Rs where
  | ok (P : Ty)
  | ol (ds : List PyData)
  | bad (C : Addr)
def Rs.wp (r : Rs) (B M : Hp) (Q : VK) (E : XK) : Prop := match r with
  | .ok P => ∀ v B', Ex B B' → Dj B' M → P.p v B' → Q v (jn B' M)
  | .ol ds => ∀ p vs B', Ex B B' → Dj B' M → jn B' M p = none → DqAll B' vs ds → Q (.ref p) (upd (jn B' M) p (.lst vs))
  | .bad C => ∀ B', Ex B B' → Dj B' M → E (.ref C) none (jn B' M)
structure Fs where
  α : Type
  n : Nat
  ars : α → List Ar
  len : ∀ x, (ars x).length = n
  res : α → Rs
def spF (S : Fs) : Sp := fun vs H Q E => ∃ (x : S.α) (B M : Hp), H = jn B M ∧ Dj B M ∧ ArsOk (S.ars x) vs B M ∧ (S.res x).wp B M Q E
theorem spF_len {S : Fs} {vs H Q E} (h : spF S vs H Q E) : vs.length = S.n := by
  obtain ⟨x, B, M, _, _, a, _⟩ := h
  rw [a.len, S.len]
/-- an __init__ -/
structure Is where
  α : Type
  n : Nat
  ars : α → List Ar
  len : ∀ x, (ars x).length = n
  res : α → (List (Str × V) → Hp → Prop) ⊕ Addr
def spI (C : Addr) (S : Is) : Sp := fun vs H Q E => ∃ (x : S.α) (B M : Hp) (p dx : Addr) (us : List V), vs = .ref p :: us ∧ H = jn B M ∧ Dj B M ∧ M p = some (.ins C dx []) ∧ ArsOk (S.ars x) us B M ∧
  match S.res x with
  | .inl R => ∀ B' fs, Ex B B' → Dj B' M → R fs B' → Q .non (jn B' (upd M p (.ins C dx fs)))
  | .inr X => ∀ B', Ex B B' → Dj B' M → E (.ref X) none (jn B' M)

/-! ### what follows a statement -/
inductive Out where
  | nx (G : Gm)
  | rt (P : Ty)
  | rl (ds : List PyData)
  | bk (G : Gm)
  | ct (G : Gm)
  | bad (C : Addr) (G : Gm)
def Out.ok (o : Out) (E : L2.St → XK) (D : Ends) (M0 B : Hp) : Prop := match o with
  | .nx G => ∀ σ' B' M', Ex B B' → Holds M0 G σ' B' M' → D.nx σ' (jn B' M')
  | .rt P => ∀ v B' M', Ex B B' → Dj B' M' → Ex M0 M' → P.p v B' → D.rt v (jn B' M')
  | .rl ds => ∀ p vs B' M', Ex B B' → Dj B' M' → Ex M0 M' → M0 p = none → M' p = some (.lst vs) → DqAll B' vs ds → D.rt (.ref p) (jn B' M')
  | .bk G => ∀ σ' B' M', Ex B B' → Holds M0 G σ' B' M' → D.bk σ' (jn B' M')
  | .ct G => ∀ σ' B' M', Ex B B' → Holds M0 G σ' B' M' → D.ct σ' (jn B' M')
  | .bad C G => ∀ σ' B' M', Ex B B' → Holds M0 G σ' B' M' → E σ' (.ref C) none (jn B' M')
theorem Out.ok.ext {o : Out} {E : L2.St → XK} {D : Ends} {M0 B B1 : Hp} (h : o.ok E D M0 B) (e : Ex B B1) : o.ok E D M0 B1 := by
  cases o with
  | nx G => exact fun σ' B' M' e' H => h σ' B' M' (e.trans e') H
  | rt P => exact fun v B' M' e' => h v B' M' (e.trans e')
  | rl ds => exact fun p vs B' M' e' => h p vs B' M' (e.trans e')
  | bk G => exact fun σ' B' M' e' H => h σ' B' M' (e.trans e') H
  | ct G => exact fun σ' B' M' e' H => h σ' B' M' (e.trans e') H
  | bad C G => exact fun σ' B' M' e' H => h σ' B' M' (e.trans e') H
def Ss (E : L2.St → XK) (ts : TS) (G : Gm) (o : Out) : Prop := ∀ (M0 : Hp) (D : Ends) (σ : L2.St) (B M : Hp), Holds M0 G σ B M → o.ok E D M0 B → ts D σ (jn B M)

section
variable {E : L2.St → XK} {ts tu : TS} {te ta tb : TE} {tt : TT} {G G1 G2 : Gm} {o : Out} {P : Ty} {R : Ow} {d e : PyData} {ds es : List PyData} {b : Bool}
theorem ss_seq (h : Ss E ts G (.nx G1)) (k : Ss E tu G1 o) : Ss E (tSeq ts tu) G o := fun M0 D σ B M H q => h M0 { D with nx := tu D } σ B M H fun σ' B' M' e H' => k M0 D σ' B' M' H' (q.ext e)
theorem ss_seqRt (h : Ss E ts G (.rt P)) : Ss E (tSeq ts tu) G (.rt P) := fun M0 D σ B M H q => h M0 { D with nx := tu D } σ B M H q
theorem ss_seqRl (h : Ss E ts G (.rl ds)) : Ss E (tSeq ts tu) G (.rl ds) := fun M0 D σ B M H q => h M0 { D with nx := tu D } σ B M H q
theorem ss_seqBk (h : Ss E ts G (.bk G1)) : Ss E (tSeq ts tu) G (.bk G1) := fun M0 D σ B M H q => h M0 { D with nx := tu D } σ B M H q
theorem ss_seqCt (h : Ss E ts G (.ct G1)) : Ss E (tSeq ts tu) G (.ct G1) := fun M0 D σ B M H q => h M0 { D with nx := tu D } σ B M H q
theorem ss_seqBad {C : Addr} (h : Ss E ts G (.bad C G1)) : Ss E (tSeq ts tu) G (.bad C G1) := fun M0 D σ B M H q => h M0 { D with nx := tu D } σ B M H q
theorem ss_next : Ss E tNext G (.nx G) := fun M0 D σ B M H q => q σ B M (Ex.refl B) H
theorem ss_break : Ss E tBreak G (.bk G) := fun M0 D σ B M H q => q σ B M (Ex.refl B) H
theorem ss_cont : Ss E tCont G (.ct G) := fun M0 D σ B M H q => q σ B M (Ex.refl B) H
theorem ss_ret (h : Sv te G P) : Ss E (tRet te) G (.rt P) := fun M0 D σ B M H q => h M0 σ B M H _ fun v B' e d p => q v B' M e d H.cal p
theorem ss_retN : Ss E tRetN G (.rt (isD .none)) := fun M0 D σ B M H q => q .non B M (Ex.refl B) H.dj H.cal .non
theorem ss_retL (h : Svl te G ds) : Ss E (tRet te) G (.rl ds) := fun M0 D σ B M H q => h M0 σ B M H _ fun p vs B' e d hn ha => by
  rw [upd_own]
  refine q p vs B' (upd M p (.lst vs)) e (dj_own d (jn_free hn).1) (fun a o h => ?_) ?_ upd_same ha
  · have q1 := H.cal a o h
    rw [upd_ne (ne_of_none q1 (jn_free hn).2)]
    exact q1
  · cases h0 : M0 p with
    | none => rfl
    | some o => have q1 := H.cal p o h0; rw [(jn_free hn).2] at q1; cases q1
theorem ss_retOw {n : Nat} (h : G[n]? = some (.ow (isL ds))) : Ss E (tRet (tVar n)) G (.rl ds) := fun M0 D σ B M H q => by
  obtain ⟨l, o, a, c, ⟨vs, rfl, r⟩, f⟩ := H.ow n _ h
  exact ⟨_, a, q l vs B M (Ex.refl B) H.dj H.cal f c r⟩
theorem ss_drop (h : Sv te G P) : Ss E (tDrop te) G (.nx G) := fun M0 D σ B M H q => h M0 σ B M H _ fun v B' e d _ => q σ B' M e (H.ext e d)
theorem ss_if (h : St' tt G b) (h1 : b = true → Ss E ts G o) (h2 : b = false → Ss E tu G o) : Ss E (tIfS tt ts tu) G o := fun M0 D σ B M H q => h M0 σ B M H _ fun B' e d => by
  cases b with
  | true => exact h1 rfl M0 D σ B' M (H.ext e d) (q.ext e)
  | false => exact h2 rfl M0 D σ B' M (H.ext e d) (q.ext e)
theorem ss_if1 (h : St' tt G true) (h1 : Ss E ts G o) : Ss E (tIfS tt ts tu) G o := ss_if h (fun _ => h1) (fun q => by cases q)
theorem ss_if0 (h : St' tt G false) (h1 : Ss E tu G o) : Ss E (tIfS tt ts tu) G o := ss_if h (fun q => by cases q) (fun _ => h1)
end
end Mini

namespace Mini
open PySem L2 Evl

/-! ### slots that are stored -/
theorem get_set_cases {α : Type} {l : List α} {n i : Nat} {x y : α} (h : (l.set n x)[i]? = some y) : (i = n ∧ y = x) ∨ (i ≠ n ∧ l[i]? = some y) := by
  by_cases e : n = i
  · subst e
    by_cases hl : n < l.length
    · rw [List.getElem?_set_self hl] at h; exact .inl ⟨rfl, (Option.some.inj h).symm⟩
    · rw [List.getElem?_eq_none (by simpa using hl)] at h; cases h
  · rw [List.getElem?_set_ne e] at h; exact .inr ⟨fun q => e q.symm, h⟩
section
variable {M0 B M : Hp} {G : Gm} {σ : L2.St} {n : Nat} {v : V} {P : Ty} {R R' : Ow}
theorem Holds.lt (H : Holds M0 G σ B M) {S : Sl} (h : G[n]? = some S) : n < σ.length := by rw [H.len]; exact (List.getElem?_eq_some_iff.mp h).1
theorem Holds.setIm (H : Holds M0 G σ B M) (hn : n < G.length) (hp : P.p v B) : Holds M0 (G.set n (.im P)) (σ.set n (some v)) B M where
  len := by rw [List.length_set, List.length_set]; exact H.len
  dj := H.dj
  cal := H.cal
  im := fun i P' q => by
    rcases get_set_cases q with ⟨rfl, e⟩ | ⟨e, q⟩
    · cases e; exact ⟨v, List.getElem?_set_self (by rw [H.len]; exact hn), hp⟩
    · rw [List.getElem?_set_ne (Ne.symm e)]; exact H.im i P' q
  ow := fun i R q => by
    rcases get_set_cases q with ⟨rfl, e⟩ | ⟨e, q⟩
    · cases e
    · rw [List.getElem?_set_ne (Ne.symm e)]; exact H.ow i R q
  bw := fun i R q => by
    rcases get_set_cases q with ⟨rfl, e⟩ | ⟨e, q⟩
    · cases e
    · rw [List.getElem?_set_ne (Ne.symm e)]; exact H.bw i R q
  ne := fun i j R R' l q q' a b => by
    rcases get_set_cases q with ⟨rfl, e⟩ | ⟨e, q⟩
    · cases e
    rcases get_set_cases q' with ⟨rfl, e'⟩ | ⟨e', q'⟩
    · cases e'
    rw [List.getElem?_set_ne (Ne.symm e)] at a
    rw [List.getElem?_set_ne (Ne.symm e')] at b
    exact H.ne i j R R' l q q' a b
/-- a new object of one's own at slot n -/
theorem Holds.setOw (H : Holds M0 G σ B M) (hn : n < G.length) {p : Addr} {o : HO} (hf : jn B M p = none) (hr : R.r p o B) : Holds M0 (G.set n (.ow R)) (σ.set n (some (.ref p))) B (upd M p o) where
  len := by rw [List.length_set, List.length_set]; exact H.len
  dj := dj_own H.dj (jn_free hf).1
  cal := fun a o h => by
    have q := H.cal a o h
    rw [upd_ne (ne_of_none q (jn_free hf).2)]; exact q
  im := fun i P' q => by
    rcases get_set_cases q with ⟨rfl, e⟩ | ⟨e, q⟩
    · cases e
    · rw [List.getElem?_set_ne (Ne.symm e)]; exact H.im i P' q
  ow := fun i R q => by
    rcases get_set_cases q with ⟨rfl, e⟩ | ⟨e, q⟩
    · cases e
      refine ⟨p, o, List.getElem?_set_self (by rw [H.len]; exact hn), upd_same, hr, ?_⟩
      cases h0 : M0 p with
      | none => rfl
      | some u => have q1 := H.cal p u h0; rw [(jn_free hf).2] at q1; cases q1
    · rw [List.getElem?_set_ne (Ne.symm e)]
      obtain ⟨l, o', a, b, c, d⟩ := H.ow i R q
      refine ⟨l, o', a, ?_, c, d⟩
      rw [upd_ne (ne_of_none b (jn_free hf).2)]; exact b
  bw := fun i R q => by
    rcases get_set_cases q with ⟨rfl, e⟩ | ⟨e, q⟩
    · cases e
    · rw [List.getElem?_set_ne (Ne.symm e)]; exact H.bw i R q
  ne := fun i j R R' l q q' a b => by
    have old : ∀ (i : Nat) (S : Ow), G[i]? = some (.ow S) → σ[i]? ≠ some (some (.ref p)) := fun i S hi z => by
      obtain ⟨l, o', a, b, _⟩ := H.ow i S hi
      rw [z] at a; cases a
      rw [(jn_free hf).2] at b; cases b
    rcases get_set_cases q with ⟨rfl, e⟩ | ⟨e, q⟩
    · rcases get_set_cases q' with ⟨rfl, e'⟩ | ⟨e', q'⟩
      · rfl
      · rw [List.getElem?_set_self (by rw [H.len]; exact hn)] at a; cases a
        rw [List.getElem?_set_ne (Ne.symm e')] at b
        exact absurd b (old j R' q')
    · rw [List.getElem?_set_ne (Ne.symm e)] at a
      have q0 := q
      rcases get_set_cases q' with ⟨rfl, e'⟩ | ⟨e', q'⟩
      · rw [List.getElem?_set_self (by rw [H.len]; exact hn)] at b; cases b
        exact absurd a (old i R q0)
      · rw [List.getElem?_set_ne (Ne.symm e')] at b
        exact H.ne i j R R' l q0 q' a b
/-- one's own object changes -/
theorem Holds.change (H : Holds M0 G σ B M) (h : G[n]? = some (.ow R)) {l : Addr} {o o' : HO} (hl : σ[n]? = some (some (.ref l))) (ho : M l = some o) (hr : R'.r l o' B) : Holds M0 (G.set n (.ow R')) σ B (upd M l o') where
  len := by rw [List.length_set]; exact H.len
  dj := fun a u e => by
    by_cases q : a = l
    · rw [q, dj_free H.dj ho] at e; cases e
    · rw [upd_ne q]; exact H.dj a u e
  cal := fun a u q => by
    have e : a ≠ l := fun z => by
      obtain ⟨l', o2, a1, b1, c1, d1⟩ := H.ow n R h
      rw [hl] at a1; cases a1
      rw [z, d1] at q; cases q
    rw [upd_ne e]; exact H.cal a u q
  im := fun i P' q => by
    rcases get_set_cases q with ⟨rfl, e⟩ | ⟨e, q⟩
    · cases e
    · exact H.im i P' q
  ow := fun i S q => by
    obtain ⟨l', o2, a1, b1, c1, d1⟩ := H.ow n R h
    rw [hl] at a1; cases a1
    rcases get_set_cases q with ⟨rfl, e⟩ | ⟨e, q⟩
    · cases e
      exact ⟨l, o', hl, upd_same, hr, d1⟩
    · obtain ⟨l2, o3, a, b, c, d⟩ := H.ow i S q
      have hne : l2 ≠ l := fun z => by subst z; exact e (H.ne i n S R l2 q h a hl)
      exact ⟨l2, o3, a, by rw [upd_ne hne]; exact b, c, d⟩
  bw := fun i S q => by
    rcases get_set_cases q with ⟨rfl, e⟩ | ⟨e, q⟩
    · cases e
    · exact H.bw i S q
  ne := fun i j S S' l2 q q' a b => by
    rcases get_set_cases q with ⟨rfl, e⟩ | ⟨e, q⟩
    · rcases get_set_cases q' with ⟨rfl, e'⟩ | ⟨e', q'⟩
      · rfl
      · exact H.ne i j R S' l2 h q' a b
    · have q0 := q
      rcases get_set_cases q' with ⟨rfl, e'⟩ | ⟨e', q'⟩
      · exact H.ne i j S R l2 q0 h a b
      · exact H.ne i j S S' l2 q0 q' a b
/-- a slot is forgotten -/
def Le (G1 G2 : Gm) : Prop := G1.length = G2.length ∧ ∀ (i : Nat) S, G2[i]? = some S → S = .no ∨ G1[i]? = some S
theorem Le.refl (G : Gm) : Le G G := ⟨rfl, fun _ _ h => .inr h⟩
theorem Holds.le {G' : Gm} (H : Holds M0 G σ B M) (h : Le G G') : Holds M0 G' σ B M where
  len := H.len.trans h.1
  dj := H.dj
  cal := H.cal
  im := fun i P q => by rcases h.2 i _ q with e | e; cases e; exact H.im i P e
  ow := fun i P q => by rcases h.2 i _ q with e | e; cases e; exact H.ow i P e
  bw := fun i P q => by rcases h.2 i _ q with e | e; cases e; exact H.bw i P e
  ne := fun i j R R' l q q' a b => by
    rcases h.2 i _ q with e | e
    · cases e
    rcases h.2 j _ q' with e' | e'
    · cases e'
    exact H.ne i j R R' l e e' a b
/-- the slot n is none's: whatever it holds, it is not told -/
theorem Holds.wipe (H : Holds M0 G σ B M) (n : Nat) (x : Option V) : Holds M0 (G.set n .no) (σ.set n x) B M where
  len := by rw [List.length_set, List.length_set]; exact H.len
  dj := H.dj
  cal := H.cal
  im := fun i P' q => by
    rcases get_set_cases q with ⟨rfl, e⟩ | ⟨e, q⟩
    · cases e
    · rw [List.getElem?_set_ne (Ne.symm e)]; exact H.im i P' q
  ow := fun i R q => by
    rcases get_set_cases q with ⟨rfl, e⟩ | ⟨e, q⟩
    · cases e
    · rw [List.getElem?_set_ne (Ne.symm e)]; exact H.ow i R q
  bw := fun i R q => by
    rcases get_set_cases q with ⟨rfl, e⟩ | ⟨e, q⟩
    · cases e
    · rw [List.getElem?_set_ne (Ne.symm e)]; exact H.bw i R q
  ne := fun i j R R' l q q' a b => by
    rcases get_set_cases q with ⟨rfl, e⟩ | ⟨e, q⟩
    · cases e
    rcases get_set_cases q' with ⟨rfl, e'⟩ | ⟨e', q'⟩
    · cases e'
    rw [List.getElem?_set_ne (Ne.symm e)] at a
    rw [List.getElem?_set_ne (Ne.symm e')] at b
    exact H.ne i j R R' l q q' a b
def wipeG (G : Gm) : List Nat → Gm
  | [] => G
  | v :: vs => (wipeG G vs).set v .no
theorem Holds.wipes (H : Holds M0 G σ B M) : ∀ vs, Holds M0 (wipeG G vs) (L2.wipe σ vs) B M
  | [] => H
  | v :: vs => (H.wipes vs).wipe v none
/-- the caller's own objects grow by one that is not told -/
theorem Holds.more (H : Holds M0 G σ B M) {p : Addr} {o : HO} (hf : jn B M p = none) : Holds M0 G σ B (upd M p o) where
  len := H.len
  dj := dj_own H.dj (jn_free hf).1
  cal := fun a o h => by
    have q := H.cal a o h
    rw [upd_ne (ne_of_none q (jn_free hf).2)]; exact q
  im := H.im
  ow := fun i R q => by
    obtain ⟨l, o', a, b, c, d⟩ := H.ow i R q
    exact ⟨l, o', a, by rw [upd_ne (ne_of_none b (jn_free hf).2)]; exact b, c, d⟩
  bw := H.bw
  ne := H.ne
/-- one's own object is let stand -/
def del (M : Hp) (l : Addr) : Hp := fun a => if a = l then none else M a
theorem del_ne {l a : Addr} (h : a ≠ l) : del M l a = M a := if_neg h
theorem jn_del {l : Addr} {o : HO} (h : M l = some o) : jn (upd B l o) (del M l) = jn B M := by
  funext a
  by_cases e : a = l
  · subst e
    rw [jn_N (show del M a a = none from if_pos rfl), upd_same, jn_M h]
  · unfold jn
    rw [del_ne e, upd_ne e]
theorem Holds.freeze (H : Holds M0 G σ B M) (h : G[n]? = some (.ow R)) {l : Addr} {o : HO} (hl : σ[n]? = some (some (.ref l))) (ho : M l = some o) (hp : P.p (.ref l) (upd B l o)) :
    Holds M0 (G.set n (.im P)) σ (upd B l o) (del M l) ∧ Ex B (upd B l o) := by
  have hB := dj_free H.dj ho
  have ex : Ex B (upd B l o) := Ex.new hB
  refine ⟨?_, ex⟩
  exact {
    len := by rw [List.length_set]; exact H.len
    dj := fun a u e => by
      by_cases q : a = l
      · exact if_pos q
      · rw [upd_ne q] at e; rw [del_ne q]; exact H.dj a u e
    cal := fun a u q => by
      have e : a ≠ l := fun z => by
        obtain ⟨l', o2, a1, b1, c1, d1⟩ := H.ow n R h
        rw [hl] at a1; cases a1
        rw [z, d1] at q; cases q
      rw [del_ne e]; exact H.cal a u q
    im := fun i P' q => by
      rcases get_set_cases q with ⟨rfl, e⟩ | ⟨e, q⟩
      · cases e; exact ⟨_, hl, hp⟩
      · obtain ⟨v, a, b⟩ := H.im i P' q; exact ⟨v, a, P'.mono ex b⟩
    ow := fun i S q => by
      rcases get_set_cases q with ⟨rfl, e⟩ | ⟨e, q⟩
      · cases e
      · obtain ⟨l2, o3, a, b, c, d⟩ := H.ow i S q
        have hne : l2 ≠ l := fun z => by subst z; exact e (H.ne i n S R l2 q h a hl)
        exact ⟨l2, o3, a, by rw [del_ne hne]; exact b, S.mono ex c, d⟩
    bw := fun i S q => by
      rcases get_set_cases q with ⟨rfl, e⟩ | ⟨e, q⟩
      · cases e
      · obtain ⟨l2, o3, a, b, c⟩ := H.bw i S q; exact ⟨l2, o3, a, b, S.mono ex c⟩
    ne := fun i j S S' l2 q q' a b => by
      rcases get_set_cases q with ⟨rfl, e⟩ | ⟨e, q⟩
      · cases e
      rcases get_set_cases q' with ⟨rfl, e'⟩ | ⟨e', q'⟩
      · cases e'
      exact H.ne i j S S' l2 q q' a b }
end

section
variable {E : L2.St → XK} {ts tu : TS} {te ta tb : TE} {tt : TT} {G G1 G2 : Gm} {o : Out} {P : Ty} {R : Ow} {d e : PyData} {ds es : List PyData} {b : Bool} {n : Nat}
theorem ss_set (h : Sv te G P) (hn : n < G.length := by exact Nat.le_of_ble_eq_true rfl) : Ss E (tAsg te (gName n)) G (.nx (G.set n (.im P))) := fun M0 D σ B M H q => h M0 σ B M H _ fun v B' e d p => q _ B' M e ((H.ext e d).setIm hn p)
theorem ss_setL (h : Svl te G ds) (hn : n < G.length := by exact Nat.le_of_ble_eq_true rfl) : Ss E (tAsg te (gName n)) G (.nx (G.set n (.ow (isL ds)))) := fun M0 D σ B M H q => h M0 σ B M H _ fun p vs B' e d hf ha => by
  rw [upd_own]
  exact q _ B' _ e ((H.ext e d).setOw hn hf ⟨vs, rfl, ha⟩)
theorem ss_le (hl : Le G G1) (h : Ss E ts G1 o) : Ss E ts G o := fun M0 D σ B M H q => h M0 D σ B M (H.le hl) q
theorem ss_nxLe (h : Ss E ts G (.nx G1)) (hl : Le G1 G2) : Ss E ts G (.nx G2) := fun M0 D σ B M H q => h M0 D σ B M H fun σ' B' M' e H' => q σ' B' M' e (H'.le hl)
theorem ss_ctLe (h : Ss E ts G (.ct G1)) (hl : Le G1 G2) : Ss E ts G (.ct G2) := fun M0 D σ B M H q => h M0 D σ B M H fun σ' B' M' e H' => q σ' B' M' e (H'.le hl)
theorem ss_bkLe (h : Ss E ts G (.bk G1)) (hl : Le G1 G2) : Ss E ts G (.bk G2) := fun M0 D σ B M H q => h M0 D σ B M H fun σ' B' M' e H' => q σ' B' M' e (H'.le hl)
theorem ss_nxIs (h : Ss E ts G (.nx G1)) (e : G1 = G2) : Ss E ts G (.nx G2) := e ▸ h
theorem ss_gIs (e : G = G1) (h : Ss E ts G1 o) : Ss E ts G o := e ▸ h
/-- an owned list is let stand from here on -/
theorem ss_freeze (h : G[n]? = some (.ow (isL ds))) (k : Ss E ts (G.set n (.im (isD (.list ds)))) o) : Ss E ts G o := fun M0 D σ B M H q => by
  obtain ⟨l, ob, a, c, ⟨vs, rfl, r⟩, f⟩ := H.ow n _ h
  obtain ⟨H', ex⟩ := H.freeze h a c (P := isD (.list ds)) (.lst upd_same (DqAll_ex (Ex.new (dj_free H.dj c)) r))
  have k' := k M0 D σ _ _ H' (q.ext ex)
  rw [jn_del c] at k'
  exact k'
/-- xs.append(e), xs one's own -/
theorem ss_append {K : PySem.W.Frag} (h : G[n]? = some (.ow (isL ds))) (he : Sv te G (isD d)) (hz : ds.length < sizeLine) : Ss E (tDrop (tBM K "list" rAppend (tVar n) (tCons te tNil))) G (.nx (G.set n (.ow (isL (ds ++ [d]))))) := fun M0 D σ B M H q => by
  obtain ⟨l, ob, a, c, ⟨vs, rfl, r⟩, f⟩ := H.ow n _ h
  refine ⟨.ref l, a, Or.inl ⟨rfl, vs, sq_of (jn_M c)⟩, ?_⟩
  refine he M0 σ B M H _ fun v B' e dj p => ?_
  refine ⟨l, vs, v, rfl, rfl, jn_M c, by rw [DqAll_len r]; exact hz, ?_⟩
  rw [upd_own]
  exact q σ B' _ e ((H.ext e dj).change h a c ⟨_, rfl, DqAll_append (DqAll_ex e r) (.cons p .nil)⟩)
/-- the same, the thing appended a new list: it is let stand -/
theorem ss_appendL {K : PySem.W.Frag} (h : G[n]? = some (.ow (isL ds))) (he : Svl te G es) (hz : ds.length < sizeLine) : Ss E (tDrop (tBM K "list" rAppend (tVar n) (tCons te tNil))) G (.nx (G.set n (.ow (isL (ds ++ [.list es]))))) := ss_append h (sv_svl he) hz
/-- xs[i] = e, xs one's own -/
theorem ss_setItem {i : Int} {j : Nat} (h : G[n]? = some (.ow (isL ds))) (he : Sv te G (isD d)) (hi : Sv tb G (isD (.int i))) (hj : ixN ds.length i = some j) : Ss E (tAsg te (gSub (tVar n) tb rSetL)) G (.nx (G.set n (.ow (isL (ds.set j d))))) := fun M0 D σ B M H q => by
  obtain ⟨l, ob, a, c, ⟨vs, rfl, r⟩, f⟩ := H.ow n _ h
  refine he M0 σ B M H _ fun v B1 e1 d1 p1 => ?_
  refine ⟨.ref l, a, ?_⟩
  refine hi M0 σ B1 M (H.ext e1 d1) _ fun iv B2 e2 d2 p2 => ?_
  rw [dp_int p2]
  refine ⟨l, vs, i, j, rfl, rfl, jn_M c, by rw [DqAll_len r]; exact hj, ?_⟩
  rw [upd_own]
  exact q σ B2 _ (e1.trans e2) (((H.ext e1 d1).ext e2 d2).change h a c ⟨_, rfl, DqAll_set (Dq_ex e2 d v p1) j (DqAll_ex (e1.trans e2) r)⟩)
/-- x = xs.pop(i), xs one's own -/
theorem ss_setPopAt {K : PySem.W.Frag} {m : Nat} {i : Int} (h : G[n]? = some (.ow (isL ds))) (hi : Sv te G (isD (.int i))) (hb : 0 ≤ i ∧ i < ds.length) (hz : ds.length ≤ sizeLine) (hk : ds[i.toNat]? = some d) (hm : m < G.length := by exact Nat.le_of_ble_eq_true rfl) (hne : m ≠ n := by decide) :
    Ss E (tAsg (tBM K "list" rPopAt (tVar n) (tCons te tNil)) (gName m)) G (.nx ((G.set n (.ow (isL (ds.eraseIdx i.toNat)))).set m (.im (isD d)))) := fun M0 D σ B M H q => by
  obtain ⟨l, ob, a, c, ⟨vs, rfl, r⟩, f⟩ := H.ow n _ h
  refine ⟨.ref l, a, Or.inl ⟨rfl, vs, sq_of (jn_M c)⟩, ?_⟩
  refine hi M0 σ B M H _ fun iv B1 e1 d1 p1 => ?_
  rw [dp_int p1]
  obtain ⟨y, hy, py⟩ := DqAll_get (DqAll_ex e1 r) hk
  have hlen := DqAll_len r
  have hzz : (sizeLine : Nat) = 16777216 := sizeLine_eq
  refine ⟨l, vs, i, i.toNat, y, rfl, rfl, jn_M c, by omega, by omega, ?_, hy, ?_⟩
  · unfold seqIndex?
    rw [hlen]
    have h1 : ¬ i < 0 := by omega
    have h2 : i < (ds.length : Int) := hb.2
    simp [h1, h2]
    try omega
  rw [upd_own]
  refine q _ B1 _ e1 ?_
  exact ((H.ext e1 d1).change h a c (R' := isL (ds.eraseIdx i.toNat)) ⟨_, rfl, DqAll_eraseIdx _ (DqAll_ex e1 r)⟩).setIm (by rw [List.length_set]; exact hm) py
end
end Mini

namespace Mini
open PySem L2 Evl

/-! ### operators that take whatever stands -/
section
open PyProof.Rows
variable {X : Cx}
/-- tuple * int, the answer below a million items -/
def rRepM (K : PySem.W.Frag) : R2 := fun x y H Q => ∃ l k xs, x = .ref l ∧ y = .int k ∧ SqT K H l xs ∧ xs ≠ [] ∧ 2 ≤ k ∧ (xs.length : Int) * k ≤ 1000000 ∧ ∀ p, H p = none → Q (.ref p) (upd H p (.tup (List.replicate k.toNat xs).flatten))
theorem op_repM : OpR X (binaryOp .Mult) (rRepM X.K) := by
  intro pins s σ H x y v u Q I rx ry h
  obtain ⟨l, k, xs, e1, e2, hT, hne, h1, hm', q⟩ := h
  subst e1 e2
  cases rx
  obtain ⟨t, rfl⟩ := ry
  obtain ⟨its, r, ⟨⟨cls, dd, data, sl⟩, ho, hc, n, hd⟩, hs⟩ := I.tuple hT
  simp only at hc hd
  subst hc hd
  have hle : its.length = xs.length := r.length.symm
  have hpos : 1 ≤ its.length := by
    cases its with
    | nil => exact absurd (List.length_eq_zero_iff.mp hle.symm) hne
    | cons a b => exact Nat.succ_le_succ (Nat.zero_le _)
  have hi : its.toArray.isEmpty = false := by
    cases its with
    | nil => exact absurd hpos (by decide)
    | cons a b => rfl
  have hk : k ≤ 1000000 := by
    have z : (1 : Int) * k ≤ (xs.length : Int) * k := Int.mul_le_mul_of_nonneg_right (by omega) (by omega)
    omega
  have hm : ((its.toArray.size : Nat) : Int) * k ≤ 1000000 := by rw [List.size_toArray, hle]; exact hm'
  have hmN : k.toNat * xs.length ≤ 1000000 := by
    have z : ((k.toNat * xs.length : Nat) : Int) ≤ 1000000 := by
      rw [Int.natCast_mul, Int.toNat_of_nonneg (by omega), Int.mul_comm]; exact hm'
    omega
  have flen : (List.replicate k.toNat its).flatten.length ≤ sizeLine := by
    rw [PyProof.Rows.lm_len_rep_flat, hle, sizeLine_eq]
    omega
  have a0 : (decide (k < -(2 ^ 63)) || decide (k ≥ 2 ^ 63)) = false := by
    rw [decide_eq_false (by omega), decide_eq_false (by omega)]; rfl
  have a1 : (its.toArray.isEmpty || k == 1) = false := by rw [hi, Bool.false_or]; exact beq_eq_false_iff_ne.mpr (by omega)
  have a2 : (decide (k ≤ 0) || its.toArray.isEmpty) = false := by rw [hi, Bool.or_false]; exact decide_eq_false (by omega)
  have a4 : Builtin.Tuple.tupleTooMany (((its.toArray.size : Nat) : Int) * k) = false := by unfold Builtin.Tuple.tupleTooMany; rw [sizeLine_eq]; exact decide_eq_false (by omega)
  refine wpAny_binaryOp_repeat_ref (T := "tuple") (U := "int") (by decide) ⟨_, ho, rfl⟩ (fun s' => typeIs_int s' k t) noFill_tuple_mul F.fills_int_mul F.slot_int_rmul repeat_tuple F.slot_int_index.lookup ?_
  refine call_meets F.slot_int_rmul (typeIs_int s k t) F.entry_int_rmul (F.args_int_rmul_2 _ _) (int_rmul_tuple k t l its.toArray n dd sl) ⟨ho, rfl, ⟨_, ho, rfl⟩, ?_⟩
  refine call_meets F.slot_tuple_mul ⟨_, ho, rfl⟩ F.entry_tuple_mul (F.args_tuple_mul_2 _ _) (tuple_mulW l its.toArray n dd sl k t a0 a1 a2 (by omega) a4 (by rw [size_rep, List.size_toArray]; exact flen)) ⟨ho, ?_⟩
  rw [size_rep]
  refine ⟨.ref s.heap.objs.size, _, I.laid (t' := s.toks) (o := .tup (List.replicate k.toNat xs).flatten) (fun b ob q => Heap.get?_push_of_some _ q) (Nat.le_refl _) ?_, rfl, q _ (I.hok.fresh (Nat.le_refl _))⟩
  exact ⟨by rw [PyProof.Rows.lm_len_rep_flat, sizeLine_eq]; omega, _, r.rep k.toNat, IsTup.new _ _⟩
def rAddS2 : R2 := fun x y H Q => ∃ i j, x = .str i ∧ y = .str j ∧ i.length + j.length ≤ sizeLine ∧ Q (.str (i ++ j)) H
def uAdd (K : PySem.W.Frag) : R2 := fun x y H Q => rI0 (fun i j => .int (i + j)) x y H Q ∨ (rCat x y H Q ∨ (rCatA K x y H Q ∨ rAddS2 x y H Q))
theorem op_uAdd : OpR X (binaryOp .Add) (uAdd X.K) := OpR.or op_add (OpR.or op_cat (OpR.or op_catA op_add_str))
def uMul (K : PySem.W.Frag) : R2 := fun x y H Q => rI CMul (fun i j => .int (i * j)) x y H Q ∨ (rRep x y H Q ∨ rRepM K x y H Q)
theorem op_uMul : OpR X (binaryOp .Mult) (uMul X.K) := OpR.or op_mul (OpR.or op_rep op_repM)
def uSl (K : PySem.W.Frag) : V → Option Int → Option Int → Hp → VK → Prop := fun x lo hi H Q => rSlL K x lo hi H Q ∨ rSlA K x lo hi H Q
theorem sl_uSl : SlR X (uSl X.K) := SlR.or sl_list sl_tupA
end
end Mini

namespace Mini
open PySem L2 Evl

/-- the items of ds[lo:hi] -/
def cutD {α : Type} (ds : List α) (lo hi : Option Int) : List α := (ds.drop (HT.sIx ds.length 0 lo)).take (HT.sIx ds.length ds.length hi - HT.sIx ds.length 0 lo)
theorem DqAll_cut {B : Hp} {ds : List PyData} {vs : List V} (h : DqAll B vs ds) (lo hi : Option Int) : DqAll B (cutV vs lo hi) (cutD ds lo hi) := by
  unfold cutV cutD
  rw [DqAll_len h]
  exact DqAll_take _ (DqAll_drop _ h)
theorem DqAll_atI {B : Hp} {ds : List PyData} {vs : List V} (h : DqAll B vs ds) {i : Int} {d : PyData} (e : atI ds i = some d) : ∃ v, atI vs i = some v ∧ Dq B v d := by
  unfold atI at e ⊢
  rw [DqAll_len h]
  cases q : ixN ds.length i with
  | none => rw [q] at e; cases e
  | some j => rw [q] at e; exact DqAll_get h e
theorem ars_data {B M : Hp} : ∀ {ds : List PyData} {vs : List V}, ArsOk (ds.map fun d => .im (isD d)) vs B M → DqAll B vs ds
  | [], _, h => by cases h; exact .nil
  | d :: ds, _, h => by cases h with | cons a b => exact .cons a (ars_data b)
def tyName : PyData → String
  | .none => "NoneType"
  | .bool _ => "bool"
  | .int _ => "int"
  | .str _ => "str"
  | .list _ => "list"
  | .tuple _ => "tuple"
  | .dict _ => "dict"
theorem Dq_ty {K : PySem.W.Frag} {H : Hp} {v : V} {d : PyData} (h : Dq H v d) : TyX K H v (.type (tyName d)) := by
  cases h with
  | non => exact .base .non
  | bl b => exact .base (.bl b)
  | int i => exact .base (.int i)
  | str x => exact .base (.str x)
  | lst e _ => exact .base (.lst e)
  | tup e _ => exact .base (.tup e)
/-- the script: a list of ints that is read alone -/
def isS (K : PySem.W.Frag) (ns : List Int) : Ty := ⟨fun v B => ∃ a, v = .ref a ∧ SqL K B a (ns.map V.int), fun e h => by obtain ⟨a, h1, h2⟩ := h; exact ⟨a, h1, ex_l e h2⟩⟩

section
variable {K : PySem.W.Frag} {G : Gm} {te ta tb tc tl : TE} {tt tu : TT} {tas : TA} {P Pa Pb Pc : Ty} {R : Ow} {d e : PyData} {ds es : List PyData} {b c : Bool} {i j : Int} {E : L2.St → XK}

/-! ints -/
theorem sv_op2 {r : R2} (ha : Sv ta G Pa) (hb : Sv tb G Pb) (hr : Rv r Pa Pb P) : Sv (tOp r ta tb) G P := sv_op ha hb hr
theorem sv_add (ha : Sv ta G (isD (.int i))) (hb : Sv tb G (isD (.int j))) : Sv (tOp (uAdd K) ta tb) G (isD (.int (i + j))) := sv_op ha hb (rv_or1 rv_I0)
theorem sv_sub (ha : Sv ta G (isD (.int i))) (hb : Sv tb G (isD (.int j))) : Sv (tOp (rI0 fun i j => .int (i - j)) ta tb) G (isD (.int (i - j))) := sv_op ha hb rv_I0
theorem sv_mul (ha : Sv ta G (isD (.int i))) (hb : Sv tb G (isD (.int j))) (hc : CMul i j) : Sv (tOp (uMul K) ta tb) G (isD (.int (i * j))) := sv_op ha hb (rv_or1 (rv_I hc))
theorem sv_mod (ha : Sv ta G (isD (.int i))) (hb : Sv tb G (isD (.int j))) (hc : 0 < j) : Sv (tOp (rI (fun _ j => 0 < j) fun i j => .int (i % j)) ta tb) G (isD (.int (i % j))) := sv_op ha hb (rv_I (C := fun _ j => 0 < j) hc)
theorem sv_div (ha : Sv ta G (isD (.int i))) (hb : Sv tb G (isD (.int j))) (hc : CDiv i j) : Sv (tOp (rI CDiv fun i j => .int (i / j)) ta tb) G (isD (.int (i / j))) := sv_op ha hb (rv_I hc)
theorem sv_pow (ha : Sv ta G (isD (.int i))) (hb : Sv tb G (isD (.int j))) (hc : CPow i j) : Sv (tOp (rI CPow fun i j => .int (i ^ j.toNat)) ta tb) G (isD (.int (i ^ j.toNat))) := sv_op ha hb (rv_I hc)
theorem sv_cmp {g : Int → Int → Bool} (ha : Sv ta G (isD (.int i))) (hb : Sv tb G (isD (.int j))) : Sv (tOp (rI0 fun i j => .bl (g i j)) ta tb) G (isD (.bool (g i j))) := sv_op ha hb rv_B0
theorem sv_neg (ha : Sv ta G (isD (.int i))) : Sv (tUn (rU fun i => .int (-i)) ta) G (isD (.int (-i))) := fun M0 σ B M H Q q => ha M0 σ B M H _ fun v B' e d p => ⟨i, dp_int p, q _ B' e d (.int _)⟩
/-- a op b op' c -/
theorem sv_chain {g g' : Int → Int → Bool} {i j k : Int} (ha : Sv ta G (isD (.int i))) (hb : Sv tb G (isD (.int j))) (hc : g i j = true → Sv tc G (isD (.int k))) : Sv (tChain (rI0 fun i j => .bl (g i j)) (rI0 fun i j => .bl (g' i j)) ta tb tc) G (isD (.bool (g i j && g' j k))) := fun M0 σ B M H Q q =>
  ha M0 σ B M H _ fun x B1 e1 d1 p1 => hb M0 σ B1 M (H.ext e1 d1) _ fun y B2 e2 d2 p2 => by
    rw [dp_int p1, dp_int p2]
    refine ⟨i, j, rfl, rfl, g i j, rfl, ?_⟩
    cases h : g i j with
    | true =>
      rw [if_pos rfl]
      refine hc h M0 σ B2 M ((H.ext e1 d1).ext e2 d2) _ fun z B3 e3 d3 p3 => ?_
      rw [dp_int p3]
      refine ⟨j, k, rfl, rfl, q _ B3 ((e1.trans e2).trans e3) d3 ?_⟩
      rw [h]
      exact .bl _
    | false =>
      rw [if_neg Bool.false_ne_true]
      refine q _ B2 (e1.trans e2) d2 ?_
      rw [h]
      exact .bl _

/-! == of data -/
theorem rv_eqD (h1 : SeqAt.shaped d = true) (h2 : SeqAt.shaped e = true) : Rv (rEqD K) (isD d) (isD e) (isD (.bool (PyData.eqv d e))) := fun B M x y dj p1 p2 Q q => ⟨d, e, Dq_dp d x (Dq_ex (jn_ex dj) d x p1), Dq_dp e y (Dq_ex (jn_ex dj) e y p2), h1, h2, q _ B (Ex.refl B) dj (.bl _)⟩
theorem rv_neD (h1 : SeqAt.shaped d = true) (h2 : SeqAt.shaped e = true) : Rv (rNeD K) (isD d) (isD e) (isD (.bool (!PyData.eqv d e))) := fun B M x y dj p1 p2 Q q => ⟨d, e, Dq_dp d x (Dq_ex (jn_ex dj) d x p1), Dq_dp e y (Dq_ex (jn_ex dj) e y p2), h1, h2, q _ B (Ex.refl B) dj (.bl _)⟩
theorem sv_eq (ha : Sv ta G (isD d)) (hb : Sv tb G (isD e)) (h1 : SeqAt.shaped d = true) (h2 : SeqAt.shaped e = true) : Sv (tOp (rEqD K) ta tb) G (isD (.bool (PyData.eqv d e))) := sv_op ha hb (rv_eqD h1 h2)
theorem sv_ne (ha : Sv ta G (isD d)) (hb : Sv tb G (isD e)) (h1 : SeqAt.shaped d = true) (h2 : SeqAt.shaped e = true) : Sv (tOp (rNeD K) ta tb) G (isD (.bool (!PyData.eqv d e))) := sv_op ha hb (rv_neD h1 h2)
theorem sv_eqI (ha : Sv ta G (isD (.int i))) (hb : Sv tb G (isD (.int j))) : Sv (tOp (rEqD K) ta tb) G (isD (.bool (decide (i = j)))) := by
  refine sv_is (sv_eq ha hb rfl rfl) ?_
  show PyData.bool (PyData.eqv (.int i) (.int j)) = _
  rw [PyData.eqv]
  congr 1
theorem sv_neI (ha : Sv ta G (isD (.int i))) (hb : Sv tb G (isD (.int j))) : Sv (tOp (rNeD K) ta tb) G (isD (.bool (!decide (i = j)))) := by
  refine sv_is (sv_ne ha hb rfl rfl) ?_
  show PyData.bool (!PyData.eqv (.int i) (.int j)) = _
  rw [PyData.eqv]
  congr 2
theorem sv_isN (ha : Sv ta G (isD d)) : Sv (tOp (fun x y H Q => y = .non ∧ Q (.bl (decide (x = .non))) H) ta (tC .non)) G (isD (.bool (match d with | .none => true | _ => false))) := fun M0 σ B M H Q q => ha M0 σ B M H _ fun v B' e dj p => ⟨rfl, by
  refine q _ B' e dj ?_
  cases p with
  | non => exact .bl _
  | _ => exact .bl false⟩

/-! sequences -/
theorem svl_cat (ha : Rl ta G ds) (hb : Rl tb G es) (hz : ds.length + es.length ≤ sizeLine) : Svl (tOp (uAdd K) ta tb) G (ds ++ es) := fun M0 σ B M H Q q =>
  ha M0 σ B M H _ fun a vs B1 e1 d1 h1 q1 => hb M0 σ B1 M (H.ext e1 d1) _ fun a2 us B2 e2 d2 h2 q2 => .inr (.inl
    ⟨a, a2, vs, us, rfl, rfl, jn_mono e2 d2 _ _ h1, h2, by rw [DqAll_len q1, DqAll_len q2]; exact hz, fun p hp => q p _ B2 (e1.trans e2) d2 hp (DqAll_append (DqAll_ex e2 q1) q2)⟩)
theorem svl_rep (ha : Rl ta G ds) (hb : Sv tb G (isD (.int i))) (h0 : -(2 ^ 63) ≤ i) (h1 : i < 2 ^ 63) (hz : ds.length * i.toNat ≤ sizeLine) : Svl (tOp (uMul K) ta tb) G (List.replicate i.toNat ds).flatten := fun M0 σ B M H Q q =>
  ha M0 σ B M H _ fun a vs B1 e1 d1 hh q1 => hb M0 σ B1 M (H.ext e1 d1) _ fun y B2 e2 d2 p2 => by
    rw [dp_int p2]
    exact .inr (.inl ⟨a, i, vs, rfl, rfl, jn_mono e2 d2 _ _ hh, h0, h1, by rw [DqAll_len q1]; exact hz, fun p hp => q p _ B2 (e1.trans e2) d2 hp (DqAll_rep (DqAll_ex e2 q1) _)⟩)
theorem dq_tup {B : Hp} {v : V} (h : (isD (.tuple ds)).p v B) : ∃ a vs, v = .ref a ∧ B a = some (.tup vs) ∧ DqAll B vs ds := by cases (show Dq B v (.tuple ds) from h) with | tup h1 h2 => exact ⟨_, _, rfl, h1, h2⟩
theorem dq_lst {B : Hp} {v : V} (h : (isD (.list ds)).p v B) : ∃ a vs, v = .ref a ∧ B a = some (.lst vs) ∧ DqAll B vs ds := by cases (show Dq B v (.list ds) from h) with | lst h1 h2 => exact ⟨_, _, rfl, h1, h2⟩
theorem sv_catT (ha : Sv ta G (isD (.tuple ds))) (hb : Sv tb G (isD (.tuple es))) (hz : ds.length + es.length ≤ sizeLine) : Sv (tOp (uAdd K) ta tb) G (isD (.tuple (ds ++ es))) := fun M0 σ B M H Q q =>
  ha M0 σ B M H _ fun x B1 e1 d1 p1 => hb M0 σ B1 M (H.ext e1 d1) _ fun y B2 e2 d2 p2 => by
    obtain ⟨a, vs, rfl, h1, q1⟩ := dq_tup ((isD (.tuple ds)).mono e2 p1)
    obtain ⟨a2, us, rfl, h2, q2⟩ := dq_tup p2
    refine .inr (.inr (.inl ⟨a, a2, vs, us, rfl, rfl, st_of (jn_B d2 h1), st_of (jn_B d2 h2), by rw [DqAll_len q1, DqAll_len q2]; exact hz, fun z => ?_, fun _ z => ?_, fun _ _ p hp => ?_⟩))
    · refine q _ B2 (e1.trans e2) d2 (.tup h2 ?_)
      have z' : ds = [] := by have := DqAll_len q1; rw [z] at this; exact List.length_eq_zero_iff.mp this.symm
      rw [z', List.nil_append]; exact q2
    · refine q _ B2 (e1.trans e2) d2 (.tup h1 ?_)
      have z' : es = [] := by have := DqAll_len q2; rw [z] at this; exact List.length_eq_zero_iff.mp this.symm
      rw [z', List.append_nil]; exact q1
    · rw [upd_new hp]
      exact q _ _ ((e1.trans e2).trans (ex_new hp)) (dj_new d2 hp) (.tup upd_same (DqAll_ex (ex_new hp) (DqAll_append q1 q2)))
theorem sv_repT (ha : Sv ta G (isD (.tuple ds))) (hb : Sv tb G (isD (.int i))) (hn : ds ≠ []) (h0 : 2 ≤ i) (hz : (ds.length : Int) * i ≤ 1000000) : Sv (tOp (uMul K) ta tb) G (isD (.tuple (List.replicate i.toNat ds).flatten)) := fun M0 σ B M H Q q =>
  ha M0 σ B M H _ fun x B1 e1 d1 p1 => hb M0 σ B1 M (H.ext e1 d1) _ fun y B2 e2 d2 p2 => by
    obtain ⟨a, vs, rfl, h1, q1⟩ := dq_tup ((isD (.tuple ds)).mono e2 p1)
    rw [dp_int p2]
    refine .inr (.inr ⟨a, i, vs, rfl, rfl, st_of (jn_B d2 h1), fun z => hn ?_, h0, by rw [DqAll_len q1]; exact hz, fun p hp => ?_⟩)
    · have := DqAll_len q1; rw [z] at this; exact List.length_eq_zero_iff.mp this.symm
    · rw [upd_new hp]
      exact q _ _ ((e1.trans e2).trans (ex_new hp)) (dj_new d2 hp) (.tup upd_same (DqAll_ex (ex_new hp) (DqAll_rep q1 _)))
theorem sv_ixL (ha : Rl ta G ds) (hb : Sv tb G (isD (.int i))) (hi : atI ds i = some d) : Sv (tOp (rIx K) ta tb) G (isD d) := fun M0 σ B M H Q q =>
  ha M0 σ B M H _ fun a vs B1 e1 d1 hh q1 => hb M0 σ B1 M (H.ext e1 d1) _ fun y B2 e2 d2 p2 => by
    rw [dp_int p2]
    obtain ⟨v, h1, h2⟩ := DqAll_atI q1 hi
    exact .inl ⟨a, vs, i, v, rfl, rfl, sq_of (jn_mono e2 d2 _ _ hh), h1, q v B2 (e1.trans e2) d2 (Dq_ex e2 d v h2)⟩
theorem sv_ixT (ha : Sv ta G (isD (.tuple ds))) (hb : Sv tb G (isD (.int i))) (hi : atI ds i = some d) : Sv (tOp (rIx K) ta tb) G (isD d) := fun M0 σ B M H Q q =>
  ha M0 σ B M H _ fun x B1 e1 d1 p1 => hb M0 σ B1 M (H.ext e1 d1) _ fun y B2 e2 d2 p2 => by
    obtain ⟨a, vs, rfl, hh, q1⟩ := dq_tup ((isD (.tuple ds)).mono e2 p1)
    rw [dp_int p2]
    obtain ⟨v, h1, h2⟩ := DqAll_atI q1 hi
    exact .inr (.inl ⟨a, vs, i, v, rfl, rfl, st_of (jn_B d2 hh), h1, q v B2 (e1.trans e2) d2 h2⟩)
theorem so_none : So tNoPart G none := fun M0 σ B M H Q q => q B (Ex.refl B) H.dj
theorem so_some (h : Sv te G (isD (.int i))) : So (tPart te) G (some i) := fun M0 σ B M H Q q => h M0 σ B M H _ fun v B' e d p => ⟨i, dp_int p, q B' e d⟩
theorem svl_slice {to th : TO} {lo hi : Option Int} (ha : Rl ta G ds) (hl : So to G lo) (hu : So th G hi) : Svl (tSl (uSl K) ta to th) G (cutD ds lo hi) := fun M0 σ B M H Q q =>
  ha M0 σ B M H _ fun a vs B1 e1 d1 hh q1 => hl M0 σ B1 M (H.ext e1 d1) _ fun B2 e2 d2 => hu M0 σ B2 M ((H.ext e1 d1).ext e2 d2) _ fun B3 e3 d3 =>
    .inl ⟨a, vs, rfl, sq_of (jn_mono (e2.trans e3) d3 _ _ hh), fun p hp => q p _ B3 ((e1.trans e2).trans e3) d3 hp (DqAll_cut (DqAll_ex (e2.trans e3) q1) lo hi)⟩
theorem svl_sliceS {to th : TO} {lo hi : Option Int} {ns : List Int} (ha : Sv ta G (isS K ns)) (hl : So to G lo) (hu : So th G hi) : Svl (tSl (uSl K) ta to th) G ((cutD ns lo hi).map PyData.int) := fun M0 σ B M H Q q =>
  ha M0 σ B M H _ fun x B1 e1 d1 p1 => hl M0 σ B1 M (H.ext e1 d1) _ fun B2 e2 d2 => hu M0 σ B2 M ((H.ext e1 d1).ext e2 d2) _ fun B3 e3 d3 => by
    obtain ⟨a, rfl, hh⟩ := p1
    refine .inl ⟨a, _, rfl, ex_l (jn_ex d3) (ex_l (e2.trans e3) hh), fun p hp => ?_⟩
    refine q p _ B3 ((e1.trans e2).trans e3) d3 hp ?_
    have hc : cutV (ns.map V.int) lo hi = (cutD ns lo hi).map V.int := by unfold cutV cutD; rw [List.length_map, List.map_take, List.map_drop]
    rw [hc]
    exact DqAll_ofInts _
theorem sv_sliceT {to th : TO} {lo hi : Option Int} (ha : Sv ta G (isD (.tuple ds))) (hl : So to G lo) (hu : So th G hi) : Sv (tSl (uSl K) ta to th) G (isD (.tuple (cutD ds lo hi))) := fun M0 σ B M H Q q =>
  ha M0 σ B M H _ fun x B1 e1 d1 p1 => hl M0 σ B1 M (H.ext e1 d1) _ fun B2 e2 d2 => hu M0 σ B2 M ((H.ext e1 d1).ext e2 d2) _ fun B3 e3 d3 => by
    obtain ⟨a, vs, rfl, hh, q1⟩ := dq_tup ((isD (.tuple ds)).mono (e2.trans e3) p1)
    refine .inr ⟨a, vs, rfl, st_of (jn_B d3 hh), fun z => ?_, fun _ p hp => ?_⟩
    · refine q _ B3 ((e1.trans e2).trans e3) d3 (.tup hh ?_)
      have w := DqAll_cut q1 lo hi
      unfold cutV at w
      rw [z.1, z.2, List.drop_zero, Nat.sub_zero, List.take_length] at w
      exact w
    · rw [upd_new hp]
      exact q _ _ (((e1.trans e2).trans e3).trans (ex_new hp)) (dj_new d3 hp) (.tup upd_same (DqAll_ex (ex_new hp) (DqAll_cut q1 lo hi)))
theorem sa_ims {tr : TA} (h : Sv te G (isD d)) (hr : Sa tr G (ds.map fun d => .im (isD d))) : Sa (tCons te tr) G ((d :: ds).map fun d => .im (isD d)) := sa_im h hr
theorem sv_tup (h : Sa tas G (ds.map fun d => .im (isD d))) (hz : ds.length ≤ sizeLine) : Sv (tTup tas) G (isD (.tuple ds)) := fun M0 σ B M H Q q => h M0 σ B M H _ fun vs B' e dj p => by
  refine ⟨by rw [DqAll_len (ars_data p)]; exact hz, fun a ha => ?_⟩
  rw [upd_new ha]
  exact q _ _ (e.trans (ex_new ha)) (dj_new dj ha) (.tup upd_same (DqAll_ex (ex_new ha) (ars_data p)))
theorem svl_lst (h : Sa tas G (ds.map fun d => .im (isD d))) (hz : ds.length ≤ sizeLine) : Svl (tLst tas) G ds := fun M0 σ B M H Q q => h M0 σ B M H _ fun vs B' e dj p => by
  refine ⟨by rw [DqAll_len (ars_data p)]; exact hz, fun a ha => ?_⟩
  exact q _ _ _ e dj ha (ars_data p)

/-! built-in calls -/
theorem sv_lenL (ha : Rl ta G ds) : Sv (tCB (fun xs H Q => ∃ x n, xs = [x] ∧ LenV K x H n ∧ Q (.int n) H) (tCons ta tNil)) G (isD (.int ds.length)) := fun M0 σ B M H Q q => ha M0 σ B M H _ fun a vs B1 e1 d1 hh q1 =>
  ⟨.ref a, ds.length, rfl, .inl ⟨vs, sq_of hh, (DqAll_len q1).symm⟩, q _ B1 e1 d1 (.int _)⟩
theorem sv_lenT (ha : Sv ta G (isD (.tuple ds))) : Sv (tCB (fun xs H Q => ∃ x n, xs = [x] ∧ LenV K x H n ∧ Q (.int n) H) (tCons ta tNil)) G (isD (.int ds.length)) := fun M0 σ B M H Q q => ha M0 σ B M H _ fun x B1 e1 d1 p1 => by
  obtain ⟨a, vs, rfl, hh, q1⟩ := dq_tup p1
  exact ⟨.ref a, ds.length, rfl, .inr ⟨vs, st_of (jn_B d1 hh), (DqAll_len q1).symm⟩, q _ B1 e1 d1 (.int _)⟩
theorem svl_list (ha : Rl ta G ds) : Svl (tCB (fun xs H Q => ∃ p ys, xs = [.ref p] ∧ (SqL K H p ys ∨ SqT K H p ys) ∧ ∀ l, H l = none → Q (.ref l) (upd H l (.lst ys))) (tCons ta tNil)) G ds := fun M0 σ B M H Q q => ha M0 σ B M H _ fun a vs B1 e1 d1 hh q1 =>
  ⟨a, vs, rfl, .inl (sq_of hh), fun l hl => q l vs B1 e1 d1 hl q1⟩
theorem svl_listT (ha : Sv ta G (isD (.tuple ds))) : Svl (tCB (fun xs H Q => ∃ p ys, xs = [.ref p] ∧ (SqL K H p ys ∨ SqT K H p ys) ∧ ∀ l, H l = none → Q (.ref l) (upd H l (.lst ys))) (tCons ta tNil)) G ds := fun M0 σ B M H Q q => ha M0 σ B M H _ fun x B1 e1 d1 p1 => by
  obtain ⟨a, vs, rfl, hh, q1⟩ := dq_tup p1
  exact ⟨a, vs, rfl, .inr (st_of (jn_B d1 hh)), fun l hl => q l vs B1 e1 d1 hl q1⟩
theorem sv_tupleL (ha : Rl ta G ds) : Sv (tThen ta (kTup K)) G (isD (.tuple ds)) := fun M0 σ B M H Q q => ha M0 σ B M H _ fun a vs B1 e1 d1 hh q1 =>
  .inl ⟨a, vs, rfl, sq_of hh, fun l hl => by
    rw [upd_new hl]
    exact q _ _ (e1.trans (ex_new hl)) (dj_new d1 hl) (.tup upd_same (DqAll_ex (ex_new hl) q1))⟩
theorem sv_tupleT (ha : Sv ta G (isD (.tuple ds))) : Sv (tThen ta (kTup K)) G (isD (.tuple ds)) := fun M0 σ B M H Q q => ha M0 σ B M H _ fun x B1 e1 d1 p1 => by
  obtain ⟨a, vs, rfl, hh, q1⟩ := dq_tup p1
  exact .inr ⟨a, vs, rfl, st_of (jn_B d1 hh), q _ B1 e1 d1 (.tup hh q1)⟩
abbrev cInt : List V → Hp → VK → Prop := fun xs H Q => (∃ i, xs = [.int i] ∧ Q (.int i) H) ∨ ∃ k, xs = [.bl k] ∧ Q (.int (if k then 1 else 0)) H
theorem sv_int1 (ha : Sv ta G (isD (.int i))) : Sv (tCB cInt (tCons ta tNil)) G (isD (.int i)) := fun M0 σ B M H Q q => ha M0 σ B M H _ fun x B1 e1 d1 p1 => .inl ⟨i, by rw [dp_int p1], q _ B1 e1 d1 (.int _)⟩
theorem sv_intB (ha : Sv ta G (isD (.bool b))) : Sv (tCB cInt (tCons ta tNil)) G (isD (.int (if b then 1 else 0))) := fun M0 σ B M H Q q => ha M0 σ B M H _ fun x B1 e1 d1 p1 => .inr ⟨b, by rw [dp_bool p1], q _ B1 e1 d1 (.int _)⟩
theorem sv_abs (ha : Sv ta G (isD (.int i))) : Sv (tCB (fun xs H Q => ∃ i, xs = [.int i] ∧ Q (.int (if i < 0 then -i else i)) H) (tCons ta tNil)) G (isD (.int (if i < 0 then -i else i))) := fun M0 σ B M H Q q => ha M0 σ B M H _ fun x B1 e1 d1 p1 => ⟨i, by rw [dp_int p1], q _ B1 e1 d1 (.int _)⟩
theorem sv_max2 (ha : Sv ta G (isD (.int i))) (hb : Sv tb G (isD (.int j))) : Sv (tCB (fun xs H Q => ∃ i j, xs = [.int i, .int j] ∧ Q (.int (if j > i then j else i)) H) (tCons ta (tCons tb tNil))) G (isD (.int (if j > i then j else i))) := fun M0 σ B M H Q q =>
  ha M0 σ B M H _ fun x B1 e1 d1 p1 => hb M0 σ B1 M (H.ext e1 d1) _ fun y B2 e2 d2 p2 => ⟨i, j, by rw [dp_int p1, dp_int p2], q _ B2 (e1.trans e2) d2 (.int _)⟩
theorem sv_all {bs : List Bool} (ha : Rl ta G (bs.map PyData.bool)) : Sv (tCB (rAll K) (tCons ta tNil)) G (isD (.bool (bs.all id))) := fun M0 σ B M H Q q => ha M0 σ B M H _ fun a vs B1 e1 d1 hh q1 => ⟨a, bs, rfl, by rw [← DqAll_bools q1]; exact sq_of hh, q _ B1 e1 d1 (.bl _)⟩
theorem sv_any {bs : List Bool} (ha : Rl ta G (bs.map PyData.bool)) : Sv (tCB (rAny K) (tCons ta tNil)) G (isD (.bool (bs.any id))) := fun M0 σ B M H Q q => ha M0 σ B M H _ fun a vs B1 e1 d1 hh q1 => ⟨a, bs, rfl, by rw [← DqAll_bools q1]; exact sq_of hh, q _ B1 e1 d1 (.bl _)⟩
theorem sv_sum {ns : List Int} (ha : Rl ta G (ns.map PyData.int)) : Sv (tCB (rSum K) (tCons ta tNil)) G (isD (.int ns.sum)) := fun M0 σ B M H Q q => ha M0 σ B M H _ fun a vs B1 e1 d1 hh q1 => ⟨a, ns, rfl, by rw [← DqAll_ints q1]; exact sq_of hh, q _ B1 e1 d1 (.int _)⟩
theorem sv_isi {n : String} (ha : Sv ta G (isD d)) (hb : Sv tb G (isV (.ty n))) (h : kitB (tyName d) n = some b) : Sv (tCB (rIsi K) (tCons ta (tCons tb tNil))) G (isD (.bool b)) := fun M0 σ B M H Q q =>
  ha M0 σ B M H _ fun x B1 e1 d1 p1 => hb M0 σ B1 M (H.ext e1 d1) _ fun y B2 e2 d2 p2 => ⟨x, y, _, _, b, rfl, by rw [show y = .ty n from p2]; exact .ty n, Dq_ty (Dq_ex (e2.trans (jn_ex d2)) d x p1), kit_ty h, q _ B2 (e1.trans e2) d2 (.bl _)⟩
theorem sv_isiL {n : String} (ha : Rl ta G ds) (hb : Sv tb G (isV (.ty n))) (h : kitB "list" n = some b) : Sv (tCB (rIsi K) (tCons ta (tCons tb tNil))) G (isD (.bool b)) := fun M0 σ B M H Q q =>
  ha M0 σ B M H _ fun a vs B1 e1 d1 hh q1 => hb M0 σ B1 M (H.ext e1 d1) _ fun y B2 e2 d2 p2 => ⟨.ref a, y, _, _, b, rfl, by rw [show y = .ty n from p2]; exact .ty n, .base (.lst (jn_mono e2 d2 _ _ hh)), kit_ty h, q _ B2 (e1.trans e2) d2 (.bl _)⟩
theorem svl_range1 (ha : Sv ta G (isD (.int i))) (h0 : 0 ≤ i) (h1 : i ≤ 16777216) : Svl (tLstRg (tRg1 ta)) G ((List.range i.toNat).map fun k : Nat => PyData.int (k : Int)) := fun M0 σ B M H Q q => ha M0 σ B M H _ fun x B1 e1 d1 p1 =>
  ⟨i, dp_int p1, RgOk.of_le (by omega) (by omega) (by omega) h0, fun l hl => q l _ B1 e1 d1 hl (by
    have e : rgV 0 i = ((List.range i.toNat).map fun k : Nat => (k : Int)).map V.int := by
      unfold rgV
      rw [Int.sub_zero, List.map_map]
      apply List.map_congr_left
      intro k _
      show V.int (0 + (k : Int)) = V.int (k : Int)
      rw [Int.zero_add]
    rw [e]
    have e2 : ((List.range i.toNat).map fun k : Nat => PyData.int (k : Int)) = ((List.range i.toNat).map fun k : Nat => (k : Int)).map PyData.int := by rw [List.map_map]; rfl
    rw [e2]
    exact DqAll_ofInts _)⟩

/-! tests, and, or, not -/
theorem st_test (h : Sv te G (isD (.bool b))) : St' (tTest te) G b := fun M0 σ B M H Q q => h M0 σ B M H _ fun v B' e d p => ⟨b, dp_bool p, q B' e d⟩
theorem st_B (h : Sv te G (isD (.bool b))) : St' (tB te) G b := fun M0 σ B M H Q q => h M0 σ B M H _ fun v B' e d p => ⟨b, dp_bool p, q B' e d⟩
theorem st_not (h : St' tt G b) : St' (tNot tt) G (!b) := fun M0 σ B M H Q q => h M0 σ B M H _ fun B' e d => q B' e d
theorem st_and (h : St' tt G b) (h2 : b = true → St' tu G c) : St' (tAnd tt tu) G (b && c) := fun M0 σ B M H Q q => h M0 σ B M H _ fun B' e d => by
  cases b with
  | true => exact h2 rfl M0 σ B' M (H.ext e d) Q fun B2 e2 d2 => q B2 (e.trans e2) d2
  | false => exact q B' e d
theorem st_or (h : St' tt G b) (h2 : b = false → St' tu G c) : St' (tOr tt tu) G (b || c) := fun M0 σ B M H Q q => h M0 σ B M H _ fun B' e d => by
  cases b with
  | true => exact q B' e d
  | false => exact h2 rfl M0 σ B' M (H.ext e d) Q fun B2 e2 d2 => q B2 (e.trans e2) d2
theorem sv_and (h : Sv ta G (isD (.bool b))) (h2 : b = true → Sv tb G (isD (.bool c))) : Sv (tAndV ta tb) G (isD (.bool (b && c))) := fun M0 σ B M H Q q => h M0 σ B M H _ fun v B' e d p => ⟨b, dp_bool p, by
  cases b with
  | true => exact h2 rfl M0 σ B' M (H.ext e d) Q fun v2 B2 e2 d2 p2 => q v2 B2 (e.trans e2) d2 p2
  | false => exact q _ B' e d (.bl _)⟩
theorem sv_or (h : Sv ta G (isD (.bool b))) (h2 : b = false → Sv tb G (isD (.bool c))) : Sv (tOrV ta tb) G (isD (.bool (b || c))) := fun M0 σ B M H Q q => h M0 σ B M H _ fun v B' e d p => ⟨b, dp_bool p, by
  cases b with
  | true => exact q _ B' e d (.bl _)
  | false => exact h2 rfl M0 σ B' M (H.ext e d) Q fun v2 B2 e2 d2 p2 => q v2 B2 (e.trans e2) d2 p2⟩
theorem sv_not (h : Sv ta G (isD (.bool b))) : Sv (tNotV ta) G (isD (.bool (!b))) := fun M0 σ B M H Q q => h M0 σ B M H _ fun v B' e d p => ⟨b, dp_bool p, q _ B' e d (.bl _)⟩
theorem sv_ite (h : St' tt G b) (h1 : b = true → Sv ta G P) (h2 : b = false → Sv tb G P) : Sv (tIf tt ta tb) G P := fun M0 σ B M H Q q => h M0 σ B M H _ fun B' e d => by
  cases b with
  | true => exact h1 rfl M0 σ B' M (H.ext e d) Q fun v2 B2 e2 d2 p2 => q v2 B2 (e.trans e2) d2 p2
  | false => exact h2 rfl M0 σ B' M (H.ext e d) Q fun v2 B2 e2 d2 p2 => q v2 B2 (e.trans e2) d2 p2
end
end Mini

namespace Mini
open PySem L2 Evl

/-! ### instances -/
structure Fl where
  r : List (Str × V) → Hp → Prop
  mono : ∀ {fs : List (Str × V)} {B B' : Hp}, Ex B B' → r fs B → r fs B'
def isI (C : Addr) (F : Fl) : Ty := isO C F.r F.mono
/-- an instance that is being made -/
def owI (C p dx : Addr) (F : Fl) : Ow := ⟨fun a o B => a = p ∧ ∃ fs, o = .ins C dx fs ∧ F.r fs B ∧ fs.length < 1000, fun e h => by obtain ⟨h0, fs, h1, h2, h3⟩ := h; exact ⟨h0, fs, h1, F.mono e h2, h3⟩⟩
/-- just these fields, each of its type -/
inductive FldsOk : List (Str × Ty) → List (Str × V) → Hp → Prop where
  | nil {B} : FldsOk [] [] B
  | cons {f P v fs vs B} : P.p v B → FldsOk fs vs B → FldsOk ((f, P) :: fs) ((f, v) :: vs) B
theorem FldsOk.ext {fs : List (Str × Ty)} {vs : List (Str × V)} {B B' : Hp} (e : Ex B B') (h : FldsOk fs vs B) : FldsOk fs vs B' := by
  induction h with
  | nil => exact .nil
  | cons a _ ih => exact .cons (Ty.mono _ e a) (ih e)
theorem FldsOk.len {fs : List (Str × Ty)} {vs : List (Str × V)} {B : Hp} (h : FldsOk fs vs B) : vs.length = fs.length := by
  induction h with
  | nil => rfl
  | cons a _ ih => simp [ih]
theorem FldsOk.look {fs : List (Str × Ty)} {vs : List (Str × V)} {B : Hp} (h : FldsOk fs vs B) {f : Str} : (∀ P, fs.lookup f = some P → ∃ v, vs.lookup f = some v ∧ P.p v B) ∧ (fs.lookup f = none → vs.lookup f = none) := by
  induction h with
  | nil => exact ⟨fun P q => (by cases q), fun _ => rfl⟩
  | @cons g P v fs vs B a _ ih =>
    by_cases e : f = g
    · subst e
      refine ⟨fun P' q => ⟨v, ?_, ?_⟩, fun q => ?_⟩
      · simp [List.lookup]
      · simp [List.lookup] at q; subst q; exact a
      · simp [List.lookup] at q
    · have eb : (f == g) = false := beq_eq_false_iff_ne.mpr e
      simp only [List.lookup, eb]
      exact ih
theorem FldsOk.put {fs : List (Str × Ty)} {vs : List (Str × V)} {B : Hp} (h : FldsOk fs vs B) {f : Str} {P : Ty} {v : V} (hv : P.p v B) (hn : fs.lookup f = none) : FldsOk (fs ++ [(f, P)]) (putF f v vs) B := by
  induction h with
  | nil => exact .cons hv .nil
  | @cons g P' v' fs vs B a _ ih =>
    by_cases e : f = g
    · subst e; simp [List.lookup] at hn
    · have eb : (f == g) = false := beq_eq_false_iff_ne.mpr e
      simp only [List.lookup, eb] at hn
      show FldsOk _ (if g = f then (g, v) :: vs else (g, v') :: putF f v vs) _
      rw [if_neg (fun z => e z.symm)]
      exact .cons a (ih hv hn)
def flds (fs : List (Str × Ty)) : Fl := ⟨fun vs B => FldsOk fs vs B, fun e h => h.ext e⟩

section
variable {K : PySem.W.Frag} {G G1 : Gm} {te ta tb tc tl tv : TE} {tt tu : TT} {tas : TA} {ts : TS} {P Pa Pb Pc : Ty} {R : Ow} {d e : PyData} {ds es : List PyData} {b c : Bool} {i j : Int} {E : L2.St → XK} {C D : Addr} {F : Fl} {fs : List (Str × Ty)} {f m : Str} {n : Nat}
theorem sv_fld (ha : Sv ta G (isI C (flds fs))) (hf : fs.lookup f = some P) (c : Cls K C) (hn : NoAttr K C f) : Sv (tFld K ta f) G P := fun M0 σ B M H Q q => ha M0 σ B M H _ fun x B1 e1 d1 p1 => by
  obtain ⟨p, dx, vs, rfl, h1, h2⟩ := p1
  obtain ⟨v, hv, pv⟩ := h2.look.1 P hf
  exact ⟨p, C, dx, vs, v, rfl, jn_B d1 h1, c, hn, hv, q v B1 e1 d1 pv⟩
/-- self.f = e, self being made -/
theorem ss_fld {p dx : Addr} (h : G[n]? = some (.ow (owI C p dx (flds fs)))) (he : Sv tv G P) (hf : fs.lookup f = none) (hl : fs.length < 999) (c : Cls K C) (hn : NoAttr K C f) : Ss E (sFld K (tVar n) tv f) G (.nx (G.set n (.ow (owI C p dx (flds (fs ++ [(f, P)])))))) := fun M0 D σ B M H q => by
  obtain ⟨l, ob, a, c1, ⟨h0, vs, rfl, r, hl2⟩, f1⟩ := H.ow n _ h
  refine he M0 σ B M H _ fun v B' e dj pv => ?_
  refine ⟨.ref l, a, l, C, dx, vs, rfl, jn_M c1, c, hn, hl2, ?_⟩
  rw [upd_own]
  have r' := (FldsOk.ext e r).put pv hf
  exact q σ B' _ e ((H.ext e dj).change h a c1 ⟨h0, _, rfl, r', by rw [r'.len, List.length_append, List.length_singleton]; omega⟩)

/-! ### own calls -/
theorem sv_call {S : Fs} {as : List Ar} (ha : Sa tas G as) (x : S.α) (hx : S.ars x = as) (hr : S.res x = .ok P) : Sv (tCallS (spF S) E tas) G P := fun M0 σ B M H Q q => ha M0 σ B M H _ fun vs B1 e1 d1 p1 =>
  ⟨x, B1, M, rfl, d1, by rw [hx]; exact p1, by rw [hr]; exact fun v B' e d p => q v B' (e1.trans e) d p⟩
theorem svl_call {S : Fs} {as : List Ar} (ha : Sa tas G as) (x : S.α) (hx : S.ars x = as) (hr : S.res x = .ol ds) : Svl (tCallS (spF S) E tas) G ds := fun M0 σ B M H Q q => ha M0 σ B M H _ fun vs B1 e1 d1 p1 =>
  ⟨x, B1, M, rfl, d1, by rw [hx]; exact p1, by rw [hr]; exact fun p us B' e d hn hd => q p us B' (e1.trans e) d hn hd⟩
/-- what raises C -/
def Sb (te : TE) (G : Gm) (E : L2.St → XK) (C : Addr) : Prop := ∀ (M0 : Hp) (σ : L2.St) (B M : Hp), Holds M0 G σ B M → ∀ Q : VK, (∀ B', Ex B B' → Dj B' M → E σ (.ref C) none (jn B' M)) → te σ (jn B M) Q
def Stb (tt : TT) (G : Gm) (E : L2.St → XK) (C : Addr) : Prop := ∀ (M0 : Hp) (σ : L2.St) (B M : Hp), Holds M0 G σ B M → ∀ Q : Bool → Hp → Prop, (∀ B', Ex B B' → Dj B' M → E σ (.ref C) none (jn B' M)) → tt σ (jn B M) Q
theorem sb_call {S : Fs} {as : List Ar} (ha : Sa tas G as) (x : S.α) (hx : S.ars x = as) (hr : S.res x = .bad D) : Sb (tCallS (spF S) E tas) G E D := fun M0 σ B M H Q q => ha M0 σ B M H _ fun vs B1 e1 d1 p1 =>
  ⟨x, B1, M, rfl, d1, by rw [hx]; exact p1, by rw [hr]; exact fun B' e d => q B' (e1.trans e) d⟩
theorem tMt_of {S : Fs} {as : List Ar} (ho : Sv ta G (isI C F)) (hm : ∀ vs B, F.r vs B → vs.lookup m = none) (ha : Sa tas G as) {M0 : Hp} {σ : L2.St} {B M : Hp} (H : Holds M0 G σ B M) {Q : VK}
    (k : ∀ vs B1, Ex B B1 → Dj B1 M → ArsOk (.im (isI C F) :: as) vs B1 M → spF S vs (jn B1 M) Q (E σ)) : tMt C m (spF S) E ta tas σ (jn B M) Q :=
  ho M0 σ B M H _ fun x B1 e1 d1 p1 => by
    obtain ⟨p, dx, vs, rfl, h1, h2⟩ := p1
    refine ⟨p, dx, vs, rfl, jn_B d1 h1, hm vs B1 h2, ?_⟩
    refine ha M0 σ B1 M (H.ext e1 d1) _ fun us B2 e2 d2 p2 => ?_
    exact k _ B2 (e1.trans e2) d2 (.cons (Ty.mono (isI C F) e2 ⟨p, dx, vs, rfl, h1, h2⟩) p2)
theorem sv_mt {S : Fs} {as : List Ar} (ho : Sv ta G (isI C F)) (hm : ∀ vs B, F.r vs B → vs.lookup m = none) (ha : Sa tas G as) (x : S.α) (hx : S.ars x = .im (isI C F) :: as) (hr : S.res x = .ok P) : Sv (tMt C m (spF S) E ta tas) G P := fun M0 σ B M H Q q =>
  tMt_of ho hm ha H fun vs B1 e1 d1 p1 => ⟨x, B1, M, rfl, d1, by rw [hx]; exact p1, by rw [hr]; exact fun v B' e d p => q v B' (e1.trans e) d p⟩
theorem svl_mt {S : Fs} {as : List Ar} (ho : Sv ta G (isI C F)) (hm : ∀ vs B, F.r vs B → vs.lookup m = none) (ha : Sa tas G as) (x : S.α) (hx : S.ars x = .im (isI C F) :: as) (hr : S.res x = .ol ds) : Svl (tMt C m (spF S) E ta tas) G ds := fun M0 σ B M H Q q =>
  tMt_of ho hm ha H fun vs B1 e1 d1 p1 => ⟨x, B1, M, rfl, d1, by rw [hx]; exact p1, by rw [hr]; exact fun p us B' e d hn hd => q p us B' (e1.trans e) d hn hd⟩
theorem sb_mt {S : Fs} {as : List Ar} (ho : Sv ta G (isI C F)) (hm : ∀ vs B, F.r vs B → vs.lookup m = none) (ha : Sa tas G as) (x : S.α) (hx : S.ars x = .im (isI C F) :: as) (hr : S.res x = .bad D) : Sb (tMt C m (spF S) E ta tas) G E D := fun M0 σ B M H Q q =>
  tMt_of ho hm ha H fun vs B1 e1 d1 p1 => ⟨x, B1, M, rfl, d1, by rw [hx]; exact p1, by rw [hr]; exact fun B' e d => q B' (e1.trans e) d⟩
end
/-- an __init__'s promise: what the instance becomes, or what is raised -/
structure Ini where
  α : Type
  n : Nat
  ars : α → List Ar
  len : ∀ x, (ars x).length = n
  res : α → Fl ⊕ Addr
def spN (C : Addr) (S : Ini) : Sp := fun vs H Q E => ∃ (x : S.α) (B M : Hp) (p dx : Addr) (us : List V), vs = .ref p :: us ∧ H = jn B M ∧ Dj B M ∧ M p = some (.ins C dx []) ∧ ArsOk (S.ars x) us B (del M p) ∧
  match S.res x with
  | .inl F => ∀ B' fs, Ex B B' → Dj B' M → F.r fs B' → Q .non (jn B' (upd M p (.ins C dx fs)))
  | .inr X => ∀ B' fs, Ex B B' → Dj B' M → E (.ref X) none (jn B' (upd M p (.ins C dx fs)))
theorem spN_len {C : Addr} {S : Ini} {vs H Q E} (h : spN C S vs H Q E) : vs.length = S.n + 1 := by
  obtain ⟨x, B, M, p, dx, us, rfl, _, _, _, a, _⟩ := h
  rw [List.length_cons, a.len, S.len]
section
variable {K : PySem.W.Frag} {G G1 : Gm} {te ta tb tc tl tv : TE} {tt tu : TT} {tas : TA} {ts : TS} {P Pa Pb Pc : Ty} {R : Ow} {d e : PyData} {ds es : List PyData} {b c : Bool} {i j : Int} {E : L2.St → XK} {C D : Addr} {F : Fl} {fs : List (Str × Ty)} {f m : Str} {n : Nat}
theorem mk_heap {B M : Hp} {x dx C : Addr} (dj : Dj B M) (hx : jn B M x = none) (hd : jn B M dx = none) (ne : dx ≠ x) :
    upd (upd (jn B M) dx (.own x)) x (.ins C dx []) = jn (upd B dx (.own x)) (upd M x (.ins C dx [])) ∧ Dj (upd B dx (.own x)) (upd M x (.ins C dx [])) ∧ Ex B (upd B dx (.own x)) := by
  refine ⟨?_, ?_, ex_new hd⟩
  · rw [upd_new hd, upd_own]
  · refine dj_own (dj_new dj hd) ?_
    rw [upd_ne (Ne.symm ne)]
    exact (jn_free hx).1
theorem ArOk.more {a : Ar} {v : V} {B M : Hp} {p : Addr} {o : HO} (hp : M p = none) (h : ArOk a v B M) : ArOk a v B (upd M p o) := by
  cases a with
  | im P => exact h
  | ow R => obtain ⟨l, o', h1, h2, h3⟩ := h; exact ⟨l, o', h1, by rw [upd_ne (ne_of_none h2 hp)]; exact h2, h3⟩
theorem ArsOk.more {as : List Ar} {vs : List V} {B M : Hp} {p : Addr} {o : HO} (hp : M p = none) (h : ArsOk as vs B M) : ArsOk as vs B (upd M p o) := by
  induction h with
  | nil => exact .nil
  | cons a _ ih => exact .cons (a.more hp) (ih hp)
theorem del_upd {M : Hp} {p : Addr} {o : HO} (h : M p = none) : del (upd M p o) p = M := by
  funext a
  by_cases e : a = p
  · rw [e, h]; exact if_pos rfl
  · rw [del_ne e, upd_ne e]
theorem jn_push {B M : Hp} {x : Addr} {o : HO} (hM : M x = none) : jn B (upd M x o) = jn (upd B x o) M := by
  funext a
  by_cases e : a = x
  · subst e
    rw [jn_M upd_same, jn_N hM, upd_same]
  · unfold jn
    rw [upd_ne e, upd_ne e]
theorem dj_push {B M : Hp} {x : Addr} {o o' : HO} (dj : Dj B (upd M x o)) (hM : M x = none) : Dj (upd B x o') M := fun a u q => by
  by_cases e : a = x
  · rw [e]; exact hM
  · rw [upd_ne e] at q
    have := dj a u q
    rw [upd_ne e] at this
    exact this
theorem sv_mk {S : Ini} {as : List Ar} (ha : Sa tas G as) (x : S.α) (hx : S.ars x = as) (hr : S.res x = .inl F) : Sv (tMk C (spN C S) E tas) G (isI C F) := fun M0 σ B M H Q q => ha M0 σ B M H _ fun vs B1 e1 d1 p1 => fun p dx hp hd ne => by
  obtain ⟨h1, h2, h3⟩ := mk_heap (C := C) d1 hp hd ne
  rw [h1]
  refine ⟨x, _, _, p, dx, vs, rfl, rfl, h2, upd_same, by rw [hx, del_upd (jn_free hp).2]; exact p1.ext h3, ?_⟩
  rw [hr]
  intro B' fs e d r
  refine ⟨rfl, ?_⟩
  have hM := (jn_free hp).2
  have hB' : B' p = none := dj_free d upd_same
  rw [upd_upd, jn_push hM]
  have ex : Ex B' (upd B' p (.ins C dx fs)) := Ex.new hB'
  exact q _ _ (((e1.trans h3).trans e).trans ex) (dj_push d hM) ⟨p, dx, fs, rfl, upd_same, F.mono ex r⟩
theorem sb_mk {S : Ini} {as : List Ar} (ha : Sa tas G as) (x : S.α) (hx : S.ars x = as) (hr : S.res x = .inr D) : Sb (tMk C (spN C S) E tas) G E D := fun M0 σ B M H Q q => ha M0 σ B M H _ fun vs B1 e1 d1 p1 => fun p dx hp hd ne => by
  obtain ⟨h1, h2, h3⟩ := mk_heap (C := C) d1 hp hd ne
  rw [h1]
  refine ⟨x, _, _, p, dx, vs, rfl, rfl, h2, upd_same, by rw [hx, del_upd (jn_free hp).2]; exact p1.ext h3, ?_⟩
  rw [hr]
  intro B' fs e d
  have hM := (jn_free hp).2
  have hB' : B' p = none := dj_free d upd_same
  rw [upd_upd, jn_push hM]
  exact q _ (((e1.trans h3).trans e).trans (Ex.new hB')) (dj_push d hM)

/-! raising within -/
theorem ss_retBad (h : Sb te G E C) : Ss E (tRet te) G (.bad C G) := fun M0 D σ B M H q => h M0 σ B M H _ fun B' e d => q σ B' M e (H.ext e d)
theorem ss_dropBad (h : Sb te G E C) : Ss E (tDrop te) G (.bad C G) := fun M0 D σ B M H q => h M0 σ B M H _ fun B' e d => q σ B' M e (H.ext e d)
theorem ss_setBad (h : Sb te G E C) : Ss E (tAsg te (gName n)) G (.bad C G) := fun M0 D σ B M H q => h M0 σ B M H _ fun B' e d => q σ B' M e (H.ext e d)
theorem ss_ifBad {tu' : TS} (h : Stb tt G E C) : Ss E (tIfS tt ts tu') G (.bad C G) := fun M0 D σ B M H q => h M0 σ B M H _ fun B' e d => q σ B' M e (H.ext e d)
theorem stb_test (h : Sb te G E C) : Stb (tTest te) G E C := fun M0 σ B M H Q q => h M0 σ B M H _ q
theorem sb_op1 {r : R2} (h : Sb ta G E C) : Sb (tOp r ta tb) G E C := fun M0 σ B M H Q q => h M0 σ B M H _ q
/-- raise C(..) -/
theorem ss_raise {W : L2.St → XK} (hW : ∀ σ cls d H, W σ cls d H → E σ cls d H → True) : Ss E (fun _ σ H => (fun (_ : L2.St) (H : Hp) (Q : XK) => Q (.ref C) none H) σ H fun cls d H' => E σ cls d H') G (.bad C G) := fun M0 D σ B M H q => q σ B M (Ex.refl B) H
end
end Mini

namespace Mini
open PySem L2 Evl

/-! ### loops -/
def Turn (E : L2.St → XK) (tu : TS) (Ga Gb : Gm) : Prop := Ss E tu Ga (.nx Gb) ∨ Ss E tu Ga (.ct Gb)
/-- how a turn that ends the loop leaves it -/
inductive Lv : Out → Out → Prop where
  | rt {P} : Lv (.rt P) (.rt P)
  | rl {ds} : Lv (.rl ds) (.rl ds)
  | bk {G} : Lv (.bk G) (.nx G)
  | bad {C G} : Lv (.bad C G) (.bad C G)
def Pvl (M0 B : Hp) (Gi : Nat → Gm) (N : Nat) (i : Nat) (σ : L2.St) (H : Hp) : Prop := i ≤ N ∧ ∃ B' M', H = jn B' M' ∧ Ex B B' ∧ Holds M0 (Gi i) σ B' M'
theorem turn_ok {E : L2.St → XK} {tu : TS} {G : Gm} {Gi : Nat → Gm} {N i : Nat} {o : Out} {D : Ends} {M0 B B1 M1 : Hp} {σ : L2.St} (hi : i ≤ N) (H : Holds M0 G σ B1 M1) (e : Ex B B1) (hs : i < N → Turn E tu G (Gi (i + 1)))
    (hd : i = N → ∃ o', Ss E tu G o' ∧ Lv o' o) (q : o.ok E D M0 B) : tu { D with nx := Pvl M0 B Gi N (i + 1), ct := Pvl M0 B Gi N (i + 1), bk := D.nx } σ (jn B1 M1) := by
  by_cases hN : i < N
  · have k : ∀ σ' B' M', Ex B1 B' → Holds M0 (Gi (i + 1)) σ' B' M' → Pvl M0 B Gi N (i + 1) σ' (jn B' M') := fun σ' B' M' e' H' => ⟨hN, B', M', rfl, e.trans e', H'⟩
    rcases hs hN with h | h
    · exact h M0 _ σ B1 M1 H k
    · exact h M0 _ σ B1 M1 H k
  · obtain ⟨o', h, l⟩ := hd (by omega)
    refine h M0 _ σ B1 M1 H ?_
    cases l with
    | rt => exact fun v B' M' e' => q v B' M' (e.trans e')
    | rl => exact fun p vs B' M' e' => q p vs B' M' (e.trans e')
    | bk => exact fun σ' B' M' e' H' => q σ' B' M' (e.trans e') H'
    | bad => exact fun σ' B' M' e' H' => q σ' B' M' (e.trans e') H'
section
variable {K : PySem.W.Frag} {E : L2.St → XK} {tu ts : TS} {te tl ta : TE} {tt : TT} {G : Gm} {o : Out} {ds es : List PyData} {n lo hi : Int} {j : Nat}
/-- how the loop ends: behind all turns, or in the turn N -/
def EndsAs (E : L2.St → XK) (tu : TS) (Gi Gt : Nat → Gm) (N all : Nat) (o : Out) : Prop := (N = all ∧ o = .nx (Gi N)) ∨ (N < all ∧ ∃ o', Ss E tu (Gt N) o' ∧ Lv o' o)
theorem ss_forR (h : Sv te G (isD (.int n))) (hn : n ≤ 2 ^ 60) (Gi : Nat → Gm) (N : Nat) (hN : N ≤ n.toNat) (h0 : Le G (Gi 0)) (hj : ∀ i, i ≤ N → j < (Gi i).length)
    (hs : ∀ i : Nat, i < N → Turn E tu ((Gi i).set j (.im (isD (.int (i : Int))))) (Gi (i + 1))) (hd : EndsAs E tu Gi (fun i => (Gi i).set j (.im (isD (.int (i : Int))))) N n.toNat o) (hlo : -(2 ^ 60) ≤ n := by first | omega | decide) :
    Ss E (tFor (iRng1 (tCons te tNil)) (gName j) tu) G o := fun M0 D σ B M H q =>
  h M0 σ B M H _ fun v B1 e1 d1 p1 => ⟨n, by rw [dp_int p1], by omega, by omega, by
    refine for_range (lo := 0) (n := n.toNat) (Pvl M0 B Gi N) ⟨Nat.zero_le _, B1, M, rfl, e1, (H.ext e1 d1).le h0⟩ (fun i σ' H' hi p => ?_) (fun σ' H' p => ?_)
    · obtain ⟨hiN, B', M', rfl, e, H'⟩ := p
      have e0 : (0 : Int) + (i : Int) = (i : Int) := Int.zero_add _
      show tu _ (σ'.set j (some (.int ((0 : Int) + (i : Int))))) _
      rw [e0]
      refine turn_ok (o := o) hiN (H'.setIm (hj i hiN) (P := isD (.int _)) (Dq.int _)) e (fun l => hs i l) (fun l => ?_) q
      rcases hd with ⟨a, _⟩ | ⟨_, b⟩
      · omega
      · rw [l]; exact b
    · obtain ⟨hiN, B', M', rfl, e, H'⟩ := p
      rcases hd with ⟨a, b⟩ | ⟨a, _⟩
      · rw [b] at q
        rw [← a] at H'
        exact q σ' B' M' e H'
      · omega⟩
theorem ss_forR2 (h : Sv ta G (isD (.int lo))) (h2 : Sv te G (isD (.int hi))) (hb : -(2 ^ 60) ≤ lo ∧ lo ≤ 2 ^ 60 ∧ -(2 ^ 60) ≤ hi ∧ hi ≤ 2 ^ 60) (Gi : Nat → Gm) (N : Nat) (hN : N ≤ (hi - lo).toNat) (h0 : Le G (Gi 0)) (hj : ∀ i, i ≤ N → j < (Gi i).length)
    (hs : ∀ i : Nat, i < N → Turn E tu ((Gi i).set j (.im (isD (.int (lo + (i : Int)))))) (Gi (i + 1))) (hd : EndsAs E tu Gi (fun i => (Gi i).set j (.im (isD (.int (lo + (i : Int)))))) N (hi - lo).toNat o) :
    Ss E (tFor (iRng2 (tCons ta (tCons te tNil))) (gName j) tu) G o := fun M0 D σ B M H q =>
  h M0 σ B M H _ fun v B0 e0 d0 p0 => h2 M0 σ B0 M (H.ext e0 d0) _ fun v2 B1 e1' d1 p1 => ⟨lo, hi, by rw [dp_int p0, dp_int p1], ⟨by omega, by omega, by omega, by omega⟩, by
    have e1 := e0.trans e1'
    refine for_range (lo := lo) (n := (hi - lo).toNat) (Pvl M0 B Gi N) ⟨Nat.zero_le _, B1, M, rfl, e1, (H.ext e1 d1).le h0⟩ (fun i σ' H' hi p => ?_) (fun σ' H' p => ?_)
    · obtain ⟨hiN, B', M', rfl, e, H'⟩ := p
      refine turn_ok (o := o) hiN (H'.setIm (hj i hiN) (P := isD (.int _)) (Dq.int _)) e (fun l => hs i l) (fun l => ?_) q
      rcases hd with ⟨a, _⟩ | ⟨_, b⟩
      · omega
      · rw [l]; exact b
    · obtain ⟨hiN, B', M', rfl, e, H'⟩ := p
      rcases hd with ⟨a, b⟩ | ⟨a, _⟩
      · rw [b] at q
        rw [← a] at H'
        exact q σ' B' M' e H'
      · omega⟩
/-- over a list that stays -/
theorem ss_forL (h : Sv tl G (isD (.list ds))) (Gi : Nat → Gm) (N : Nat) (hN : N ≤ ds.length) (h0 : Le G (Gi 0)) (hj : ∀ i, i ≤ N → j < (Gi i).length)
    (hs : ∀ i d, ds[i]? = some d → i < N → Turn E tu ((Gi i).set j (.im (isD d))) (Gi (i + 1))) (hd : EndsAs E tu Gi (fun i => (Gi i).set j (.im (isD (ds.getD i .none)))) N ds.length o) :
    Ss E (tFor (iList K tl) (gName j) tu) G o := fun M0 D σ B M H q =>
  h M0 σ B M H _ fun v B1 e1 d1 p1 => by
    obtain ⟨a, vs, rfl, ha, hv⟩ := dq_lst p1
    have hlen := DqAll_len hv
    refine ⟨a, rfl, ⟨vs, sq_of (jn_B d1 ha)⟩, ?_⟩
    have wide : ∀ i σ' H', Pvl M0 B1 Gi N i σ' H' → SqL K H' a vs := fun i σ' H' p => by
      obtain ⟨_, B', M', rfl, e, H'⟩ := p
      exact sq_of (jn_B H'.dj (e _ _ ha))
    refine for_list (xs := vs) (Pvl M0 B1 Gi N) ⟨Nat.zero_le _, B1, M, rfl, Ex.refl B1, (H.ext e1 d1).le h0⟩ (fun i σ' H' _ p => wide i σ' H' p) (fun i x σ' H' hx p => ?_) (fun σ' H' p => ?_)
    · obtain ⟨hiN, B', M', rfl, e, H'⟩ := p
      obtain ⟨d, hd1, px⟩ := DqAll_getV hv hx
      refine turn_ok (o := o) hiN (H'.setIm (hj i hiN) (P := isD d) (Dq_ex e d x px)) e (fun l => hs i d hd1 l) (fun l => ?_) (q.ext e1)
      rcases hd with ⟨b, _⟩ | ⟨_, b⟩
      · have := (List.getElem?_eq_some_iff.mp hx).1; omega
      · have z : ds.getD N .none = d := by rw [← l, List.getD_eq_getElem?_getD, hd1]; rfl
        dsimp only at b
        rw [z, ← l] at b
        exact b
    · obtain ⟨hiN, B', M', rfl, e, H'⟩ := p
      rcases hd with ⟨b, c⟩ | ⟨b, _⟩
      · rw [c] at q
        rw [hlen, ← b] at H'
        exact q σ' B' M' (e1.trans e) H'
      · omega
/-- over a tuple -/
theorem ss_forT (h : Sv tl G (isD (.tuple ds))) (Gi : Nat → Gm) (N : Nat) (hN : N ≤ ds.length) (h0 : Le G (Gi 0)) (hj : ∀ i, i ≤ N → j < (Gi i).length)
    (hs : ∀ i d, ds[i]? = some d → i < N → Turn E tu ((Gi i).set j (.im (isD d))) (Gi (i + 1))) (hd : EndsAs E tu Gi (fun i => (Gi i).set j (.im (isD (ds.getD i .none)))) N ds.length o) :
    Ss E (tFor (iTup K tl) (gName j) tu) G o := fun M0 D σ B M H q =>
  h M0 σ B M H _ fun v B1 e1 d1 p1 => by
    obtain ⟨a, vs, rfl, ha, hv⟩ := dq_tup p1
    have hlen := DqAll_len hv
    refine ⟨a, rfl, ⟨vs, st_of (jn_B d1 ha)⟩, ?_⟩
    have wide : ∀ i σ' H', Pvl M0 B1 Gi N i σ' H' → SqT K H' a vs := fun i σ' H' p => by
      obtain ⟨_, B', M', rfl, e, H'⟩ := p
      exact st_of (jn_B H'.dj (e _ _ ha))
    refine for_tup (xs := vs) (Pvl M0 B1 Gi N) ⟨Nat.zero_le _, B1, M, rfl, Ex.refl B1, (H.ext e1 d1).le h0⟩ (fun i σ' H' _ p => wide i σ' H' p) (fun i x σ' H' hx p => ?_) (fun σ' H' p => ?_)
    · obtain ⟨hiN, B', M', rfl, e, H'⟩ := p
      obtain ⟨d, hd1, px⟩ := DqAll_getV hv hx
      refine turn_ok (o := o) hiN (H'.setIm (hj i hiN) (P := isD d) (Dq_ex e d x px)) e (fun l => hs i d hd1 l) (fun l => ?_) (q.ext e1)
      rcases hd with ⟨b, _⟩ | ⟨_, b⟩
      · have := (List.getElem?_eq_some_iff.mp hx).1; omega
      · have z : ds.getD N .none = d := by rw [← l, List.getD_eq_getElem?_getD, hd1]; rfl
        dsimp only at b
        rw [z, ← l] at b
        exact b
    · obtain ⟨hiN, B', M', rfl, e, H'⟩ := p
      rcases hd with ⟨b, c⟩ | ⟨b, _⟩
      · rw [c] at q
        rw [hlen, ← b] at H'
        exact q σ' B' M' (e1.trans e) H'
      · omega
/-- while: N turns -/
theorem ss_while (Gi : Nat → Gm) (N : Nat) (h0 : Le G (Gi 0)) (ht : ∀ i, i < N → St' tt (Gi i) true) (hs : ∀ i, i < N → Turn E tu (Gi i) (Gi (i + 1)))
    (hd : (St' tt (Gi N) false ∧ o = .nx (Gi N)) ∨ (St' tt (Gi N) true ∧ ∃ o', Ss E tu (Gi N) o' ∧ Lv o' o)) : Ss E (tWhile tt tu) G o := fun M0 D σ B M H q => by
  refine ⟨fun m σ' H' => ∃ i, i + m = N ∧ Pvl M0 B Gi N i σ' H', ⟨N, 0, Nat.zero_add _, Nat.zero_le _, B, M, rfl, Ex.refl B, H.le h0⟩, fun m σ' H' w => ?_⟩
  obtain ⟨i, him, hiN, B1, M1, rfl, e, H1⟩ := w
  by_cases hN : i < N
  · refine ht i hN M0 σ' B1 M1 H1 _ fun B2 e2 d2 => ?_
    refine ⟨fun σ2 H2 => Pvl M0 B Gi N (i + 1) σ2 H2, fun σ2 H2 p => ⟨m - 1, by omega, i + 1, by omega, p⟩, ?_⟩
    exact turn_ok (o := o) hiN (H1.ext e2 d2) (e.trans e2) (fun l => hs i l) (fun l => by omega) q
  · have hiE : i = N := by omega
    subst hiE
    rcases hd with ⟨a, b⟩ | ⟨a, b⟩
    · refine a M0 σ' B1 M1 H1 _ fun B2 e2 d2 => ?_
      rw [b] at q
      exact q σ' B2 M1 (e.trans e2) (H1.ext e2 d2)
    · refine a M0 σ' B1 M1 H1 _ fun B2 e2 d2 => ?_
      refine ⟨fun σ2 H2 => Pvl M0 B Gi i (i + 1) σ2 H2, fun σ2 H2 p => by have := p.1; omega, ?_⟩
      exact turn_ok (o := o) hiN (H1.ext e2 d2) (e.trans e2) (fun l => by omega) (fun l => b) q

/-! ### comprehensions: es i is what i turns have given -/
def Pvc (B M : Hp) (Dl : Addr) (es : Nat → List PyData) (i : Nat) (H : Hp) : Prop := ∃ B' acc, H = jn B' (upd M Dl (.lst acc)) ∧ Ex B B' ∧ Dj B' (upd M Dl (.lst acc)) ∧ DqAll B' acc (es i)
def Gv (G : Gm) (j : Nat) (d : PyData) : Gm := (wipeG G [j]).set j (.im (isD d))
theorem wipe_one (σ : L2.St) (j : Nat) (x : V) : L2.wipe ((L2.wipe σ [j]).set j (some x)) [j] = L2.wipe σ [j] := by
  show (((σ.set j none).set j (some x)).set j none) = σ.set j none
  rw [List.set_set, List.set_set]
theorem lc_turn {M0 B M : Hp} {σ : L2.St} {Dl : Addr} {es : Nat → List PyData} {i : Nat} {d y : PyData} {x : V} {b : Bool} {B' : Hp} {acc : List V} (H : Holds M0 G σ B M) (hj : j < G.length) (hM : M Dl = none) (e : Ex B B') (dj : Dj B' (upd M Dl (.lst acc))) (ha : DqAll B' acc (es i)) (hz : (es i).length < sizeLine)
    (hx : Dq B' x d) (ht : St' tt (Gv G j d) b) (he : b = true → Sv te (Gv G j d) (isD y)) (hs : es (i + 1) = if b then es i ++ [y] else es i) :
    (gName j) x (L2.wipe σ [j]) (jn B' (upd M Dl (.lst acc))) fun σ2 H2 => L2.wipe σ2 [j] = L2.wipe σ [j] ∧ tt σ2 H2 fun b H3 =>
      if b = true then te σ2 H3 fun y H4 => ∃ acc, H4 Dl = some (.lst acc) ∧ acc.length < sizeLine ∧ Pvc B M Dl es (i + 1) (upd H4 Dl (.lst (acc ++ [y]))) else Pvc B M Dl es (i + 1) H3 := by
  refine ⟨wipe_one σ j x, ?_⟩
  have hB' : B' Dl = none := dj_free dj upd_same
  have djM : Dj B' M := fun a u q => by
    have := dj a u q
    by_cases z : a = Dl
    · rw [z]; exact hM
    · rw [upd_ne z] at this; exact this
  have H2 : Holds M0 (Gv G j d) ((L2.wipe σ [j]).set j (some x)) B' (upd M Dl (.lst acc)) := by
    have h1 := ((H.ext e djM).wipes [j]).more (p := Dl) (o := .lst acc) (show jn B' M Dl = none by rw [jn_N hM]; exact hB')
    exact h1.setIm (by show j < (G.set j .no).length; rw [List.length_set]; exact hj) hx
  refine ht M0 _ _ _ H2 _ fun B3 e3 d3 => ?_
  cases b with
  | true =>
    rw [if_pos rfl]
    refine he rfl M0 _ _ _ (H2.ext e3 d3) _ fun v B4 e4 d4 p4 => ?_
    refine ⟨acc, jn_M upd_same, by rw [DqAll_len ha]; exact hz, ?_⟩
    rw [upd_own, upd_upd]
    refine ⟨B4, acc ++ [v], rfl, (e.trans e3).trans e4, ?_, ?_⟩
    · intro a u q
      have := d4 a u q
      by_cases z : a = Dl
      · rw [z, upd_same] at this; cases this
      · rw [upd_ne z] at this ⊢; exact this
    · rw [hs, if_pos rfl]
      exact DqAll_append (DqAll_ex (e3.trans e4) ha) (.cons p4 .nil)
  | false =>
    rw [if_neg Bool.false_ne_true]
    refine ⟨B3, acc, rfl, e.trans e3, d3, ?_⟩
    rw [hs, if_neg Bool.false_ne_true]
    exact DqAll_ex e3 ha
theorem lc_end {B M : Hp} {Dl : Addr} {es : Nat → List PyData} {i : Nat} {Q : VK} (hM : M Dl = none) (hB : Ex B B) (q : ∀ p vs B', Ex B B' → Dj B' M → jn B' M p = none → DqAll B' vs (es i) → Q (.ref p) (upd (jn B' M) p (.lst vs))) (H : Hp) (p : Pvc B M Dl es i H) : Q (.ref Dl) H := by
  obtain ⟨B', acc, rfl, e, dj, ha⟩ := p
  have hB' : B' Dl = none := dj_free dj upd_same
  have djM : Dj B' M := fun a u q => by
    have := dj a u q
    by_cases z : a = Dl
    · rw [z]; exact hM
    · rw [upd_ne z] at this; exact this
  have := q Dl acc B' e djM (by rw [jn_N hM]; exact hB') ha
  rw [upd_own] at this
  exact this
theorem svl_lcL (h : Rl tl G ds) (es : Nat → List PyData) (f : Nat → Bool) (y : Nat → PyData) (hj : j < G.length) (h0 : es 0 = []) (hz : ds.length < 10000000)
    (ht : ∀ i d, ds[i]? = some d → St' tt (Gv G j d) (f i)) (he : ∀ i d, ds[i]? = some d → f i = true → Sv te (Gv G j d) (isD (y i))) (hs : ∀ i, i < ds.length → es (i + 1) = if f i then es i ++ [y i] else es i) :
    Svl (tLc (iList K tl) (gName j) tt te [j]) G (es ds.length) := fun M0 σ B M H Q q => h M0 σ B M H _ fun a vs B1 e1 d1 hh q1 => by
  have hlen := DqAll_len q1
  refine ⟨a, rfl, ⟨vs, sq_of hh⟩, fun Dl hD => ?_⟩
  have hM := (jn_free hD).2
  have hl : ∀ i, i ≤ ds.length → (es i).length ≤ i := fun i => by
    induction i with
    | zero => intro _; rw [h0]; exact Nat.le_refl _
    | succ i ih => intro hi; rw [hs i (by omega)]; have := ih (by omega); split <;> simp <;> omega
  refine lc_list (xs := vs) (Pvc B1 M Dl es) ⟨B1, [], by rw [upd_own], Ex.refl B1, dj_own d1 (jn_free hD).1, by rw [h0]; exact .nil⟩ (fun i H' _ p => ?_) (fun i x H' hx p => ?_) (fun H' p => ?_)
  · obtain ⟨B', acc, rfl, e, dj, _⟩ := p
    refine sq_of ?_
    have hne : a ≠ Dl := fun z => by rw [z, hD] at hh; cases hh
    unfold jn at hh ⊢
    rw [upd_ne hne]
    cases z : M a with
    | some u => rw [z] at hh; exact hh
    | none => rw [z] at hh; exact e _ _ hh
  · obtain ⟨B', acc, rfl, e, dj, ha⟩ := p
    obtain ⟨d, hd, px⟩ := DqAll_getV q1 hx
    have hi := (List.getElem?_eq_some_iff.mp hd).1
    exact lc_turn (H.ext e1 d1) hj hM e dj ha (by have := hl i (by omega); rw [sizeLine_eq]; omega) (Dq_ex e d x px) (ht i d hd) (he i d hd) (hs i hi)
  · rw [hlen] at p
    exact lc_end hM (Ex.refl _) (fun p vs B' e dj hf hv => q p vs B' (e1.trans e) dj hf hv) H' p
theorem svl_lcT (h : Sv tl G (isD (.tuple ds))) (es : Nat → List PyData) (f : Nat → Bool) (y : Nat → PyData) (hj : j < G.length) (h0 : es 0 = []) (hz : ds.length < 10000000)
    (ht : ∀ i d, ds[i]? = some d → St' tt (Gv G j d) (f i)) (he : ∀ i d, ds[i]? = some d → f i = true → Sv te (Gv G j d) (isD (y i))) (hs : ∀ i, i < ds.length → es (i + 1) = if f i then es i ++ [y i] else es i) :
    Svl (tLc (iTup K tl) (gName j) tt te [j]) G (es ds.length) := fun M0 σ B M H Q q => h M0 σ B M H _ fun v B1 e1 d1 p1 => by
  obtain ⟨a, vs, rfl, hh, q1⟩ := dq_tup p1
  have hlen := DqAll_len q1
  refine ⟨a, rfl, ⟨vs, st_of (jn_B d1 hh)⟩, fun Dl hD => ?_⟩
  have hM := (jn_free hD).2
  have hl : ∀ i, i ≤ ds.length → (es i).length ≤ i := fun i => by
    induction i with
    | zero => intro _; rw [h0]; exact Nat.le_refl _
    | succ i ih => intro hi; rw [hs i (by omega)]; have := ih (by omega); split <;> simp <;> omega
  refine lc_tup (xs := vs) (Pvc B1 M Dl es) ⟨B1, [], by rw [upd_own], Ex.refl B1, dj_own d1 (jn_free hD).1, by rw [h0]; exact .nil⟩ (fun i H' _ p => ?_) (fun i x H' hx p => ?_) (fun H' p => ?_)
  · obtain ⟨B', acc, rfl, e, dj, _⟩ := p
    exact st_of (jn_B dj (e _ _ hh))
  · obtain ⟨B', acc, rfl, e, dj, ha⟩ := p
    obtain ⟨d, hd, px⟩ := DqAll_getV q1 hx
    have hi := (List.getElem?_eq_some_iff.mp hd).1
    exact lc_turn (H.ext e1 d1) hj hM e dj ha (by have := hl i (by omega); rw [sizeLine_eq]; omega) (Dq_ex e d x px) (ht i d hd) (he i d hd) (hs i hi)
  · rw [hlen] at p
    exact lc_end hM (Ex.refl _) (fun p vs B' e dj hf hv => q p vs B' (e1.trans e) dj hf hv) H' p
theorem svl_lcR (h : Sv te G (isD (.int n))) {tel : TE} (es : Nat → List PyData) (f : Nat → Bool) (y : Nat → PyData) (hj : j < G.length) (h0 : es 0 = []) (hz : n < 10000000) (hlo : -(2 ^ 60) ≤ n)
    (ht : ∀ i : Nat, i < n.toNat → St' tt (Gv G j (.int (i : Int))) (f i)) (he : ∀ i : Nat, i < n.toNat → f i = true → Sv tel (Gv G j (.int (i : Int))) (isD (y i))) (hs : ∀ i, i < n.toNat → es (i + 1) = if f i then es i ++ [y i] else es i) :
    Svl (tLc (iRng1 (tCons te tNil)) (gName j) tt tel [j]) G (es n.toNat) := fun M0 σ B M H Q q => h M0 σ B M H _ fun v B1 e1 d1 p1 => by
  refine ⟨n, by rw [dp_int p1], by omega, by omega, fun Dl hD => ?_⟩
  have hM := (jn_free hD).2
  have hl : ∀ i, i ≤ n.toNat → (es i).length ≤ i := fun i => by
    induction i with
    | zero => intro _; rw [h0]; exact Nat.le_refl _
    | succ i ih => intro hi; rw [hs i (by omega)]; have := ih (by omega); split <;> simp <;> omega
  refine lc_range (lo := 0) (n := n.toNat) (Pvc B1 M Dl es) ⟨B1, [], by rw [upd_own], Ex.refl B1, dj_own d1 (jn_free hD).1, by rw [h0]; exact .nil⟩ (fun i H' hi p => ?_) (fun H' p => ?_)
  · obtain ⟨B', acc, rfl, e, dj, ha⟩ := p
    have e0 : (0 : Int) + (i : Int) = (i : Int) := Int.zero_add _
    rw [e0]
    exact lc_turn (H.ext e1 d1) hj hM e dj ha (by have := hl i (by omega); rw [sizeLine_eq]; omega) (.int _) (ht i hi) (he i hi) (hs i hi)
  · exact lc_end hM (Ex.refl _) (fun p vs B' e dj hf hv => q p vs B' (e1.trans e) dj hf hv) H' p
theorem st_yes : St' tYes G true := fun M0 σ B M H Q q => q B (Ex.refl B) H.dj
/-- no test: a map -/
theorem svl_lcMap (h : Rl tl G ds) (g : PyData → PyData) (hj : j < G.length) (hz : ds.length < 10000000) (he : ∀ d, d ∈ ds → Sv te (Gv G j d) (isD (g d))) : Svl (tLc (iList K tl) (gName j) tYes te [j]) G (ds.map g) := by
  have z := svl_lcL (K := K) (j := j) (te := te) (tt := tYes) h (fun i => (ds.take i).map g) (fun _ => true) (fun i => g (ds.getD i .none)) hj rfl hz (fun _ _ _ => st_yes) (fun i d hd _ => ?_) (fun i hi => ?_)
  · rw [List.take_length] at z; exact z
  · have e : ds.getD i .none = d := by rw [List.getD_eq_getElem?_getD, hd]; rfl
    rw [e]; exact he d (List.mem_of_getElem? hd)
  · have e : ds.getD i .none = ds[i] := by rw [List.getD_eq_getElem?_getD, List.getElem?_eq_getElem hi]; rfl
    simp only [if_true]
    rw [e, List.take_succ, List.getElem?_eq_getElem hi, List.map_append]; rfl
theorem svl_lcMapT (h : Sv tl G (isD (.tuple ds))) (g : PyData → PyData) (hj : j < G.length) (hz : ds.length < 10000000) (he : ∀ d, d ∈ ds → Sv te (Gv G j d) (isD (g d))) : Svl (tLc (iTup K tl) (gName j) tYes te [j]) G (ds.map g) := by
  have z := svl_lcT (K := K) (j := j) (te := te) (tt := tYes) h (fun i => (ds.take i).map g) (fun _ => true) (fun i => g (ds.getD i .none)) hj rfl hz (fun _ _ _ => st_yes) (fun i d hd _ => ?_) (fun i hi => ?_)
  · rw [List.take_length] at z; exact z
  · have e : ds.getD i .none = d := by rw [List.getD_eq_getElem?_getD, hd]; rfl
    rw [e]; exact he d (List.mem_of_getElem? hd)
  · have e : ds.getD i .none = ds[i] := by rw [List.getD_eq_getElem?_getD, List.getElem?_eq_getElem hi]; rfl
    simp only [if_true]
    rw [e, List.take_succ, List.getElem?_eq_getElem hi, List.map_append]; rfl
theorem svl_lcMapR (h : Sv te G (isD (.int n))) {tel : TE} (g : Nat → PyData) (hj : j < G.length) (hz : n < 10000000) (hlo : -(2 ^ 60) ≤ n) (he : ∀ i : Nat, i < n.toNat → Sv tel (Gv G j (.int (i : Int))) (isD (g i))) :
    Svl (tLc (iRng1 (tCons te tNil)) (gName j) tYes tel [j]) G ((List.range n.toNat).map g) :=
  svl_lcR (j := j) (te := te) (tt := tYes) h (fun i => (List.range i).map g) (fun _ => true) g hj rfl hz hlo (fun _ _ => st_yes) (fun i hi _ => he i hi) (fun i _ => by simp only [if_true]; rw [List.range_succ, List.map_append]; rfl)
end
end Mini

namespace Mini
open PySem L2 Evl PyProof.Rows
abbrev startV (N : List Str) (vs : List V) : L2.St := L2.start N vs

/-! ### two stores at once -/
section
variable {K : PySem.W.Frag} {E : L2.St → XK} {ta tb : TE} {G : Gm} {P P' : Ty} {ds es : List PyData} {i j : Nat}
theorem ss_par (ha : Sv ta G P) (hb : Sv tb G P') (hi : i < G.length := by exact Nat.le_of_ble_eq_true rfl) (hj : j < G.length := by exact Nat.le_of_ble_eq_true rfl) : Ss E (tPar i j (tCons ta (tCons tb tNil))) G (.nx ((G.set i (.im P)).set j (.im P'))) := fun M0 D σ B M H q =>
  ha M0 σ B M H _ fun x B1 e1 d1 p1 => hb M0 σ B1 M (H.ext e1 d1) _ fun y B2 e2 d2 p2 =>
    ⟨x, y, rfl, q _ B2 M (e1.trans e2) ((((H.ext e1 d1).ext e2 d2).setIm hi (P.mono e2 p1)).setIm (by rw [List.length_set]; exact hj) p2)⟩
theorem ss_parLL (ha : Svl ta G ds) (hb : Svl tb G es) (hi : i < G.length := by exact Nat.le_of_ble_eq_true rfl) (hj : j < G.length := by exact Nat.le_of_ble_eq_true rfl) : Ss E (tPar i j (tCons ta (tCons tb tNil))) G (.nx ((G.set i (.ow (isL ds))).set j (.ow (isL es)))) := fun M0 D σ B M H q =>
  ha M0 σ B M H _ fun p vs B1 e1 d1 hf ha1 => by
    rw [upd_own]
    have H1 := (H.ext e1 d1).more (p := p) (o := .lst vs) hf
    refine hb M0 σ B1 (upd M p (.lst vs)) H1 _ fun p2 us B2 e2 d2 hf2 ha2 => ?_
    rw [upd_own]
    refine ⟨.ref p, .ref p2, rfl, q _ B2 _ (e1.trans e2) ?_⟩
    have djM : Dj B2 M := fun a u q => by
      have := d2 a u q
      by_cases z : a = p
      · rw [z]; exact (jn_free hf).2
      · rw [upd_ne z] at this; exact this
    have hf' : jn B2 M p = none := by
      rw [jn_N (jn_free hf).2]; exact dj_free d2 upd_same
    have H2 : Holds M0 (G.set i (.ow (isL ds))) (σ.set i (some (.ref p))) B2 (upd M p (.lst vs)) := ((H.ext e1 d1).ext e2 djM).setOw hi hf' ⟨vs, rfl, DqAll_ex e2 ha1⟩
    exact H2.setOw (by rw [List.length_set]; exact hj) hf2 ⟨us, rfl, ha2⟩
end

/-! ### raise, try -/
def tRs (E : L2.St → XK) (C : Addr) : TS := fun _ σ H => E σ (.ref C) none H
theorem ps_rs {X : Cx} {e : Expr} {pos : Pos} {E : XK} {C : Addr} (hc : X.calm = true) (tk : Takes X (fun cls d _ H => E cls d H)) (he : PMk X e (fun _ H Q => Q (.ref C) none H)) : PS X (.Raise (some e) none pos) (tRs (fun _ => E) C) := ps_raise hc tk he
/-- what an own error class without an __init__ must be -/
structure ErrC (K : PySem.W.Frag) (mg : Str → Option Value) (x : Str) (C : Addr) (bm : List Value) : Prop where
  g : mg x = some (.ref C)
  ex : PySem.W.excIn K C bm "ValueError.__new__" = true
  kp : PySem.W.keepIn K (.ref C) = true
  sub : PySem.W.subIn K (.ref C) (.type "BaseException") = some true
  ty : PySem.W.typeIn K (.ref C) = some (.type "type")
theorem pmk_err {X : Cx} {x m : Str} {j : Nat} {p p2 pos : Pos} {C : Addr} (T : ErrC X.K X.mg x C [.type "ValueError", .type "Exception", .type "BaseException", .type "object"]) (hg : Gl X x := by rfl) (hdb : (x == ("__debug__" : Str)) = false := by decide) :
    PMk X (.Call (.Name x p) [.Constant (.str m) j p2] [] pos) (fun _ H Q => Q (.ref C) none H) := pmk_own PySem.F.excBase_ValueError T.ex T.g T.kp (raises_own T.sub T.ty) hg hdb
def isX (a : Addr) : Ty := isV (.ref a)
section
variable {K : PySem.W.Frag} {E : L2.St → XK} {G G1 G2 : Gm} {o o' : Out} {C : Addr} {i : Nat} {tb : WX → TS} {ts : Addr → Value → Option Addr → TS} {Wout : WX} {c : Value} {te ta : TE}
theorem ss_rs : Ss E (tRs E C) G (.bad C G) := fun M0 D σ B M H q => q σ B M (Ex.refl B) H
/-- the body of a try raises nothing -/
theorem ss_tryOk (h : ∀ W, Ss (fun σ cls d H => W cls d σ H) (tb W) G o) (hb : ∀ C G', o ≠ .bad C G') : Ss E (fun D σ H => tb (wAs K c i ts Wout D) D σ H) G o := fun M0 D σ B M H q => h _ M0 D σ B M H (by
  cases o with
  | nx G => exact q
  | rt P => exact q
  | rl ds => exact q
  | bk G => exact q
  | ct G => exact q
  | bad C G' => exact absurd rfl (hb C G'))
/-- what is left of a suite's way out: the exception's slot is empty behind it -/
def Out.offs (o : Out) (i : Nat) : Out := match o with
  | .nx G => .nx (G.set i .no)
  | .bk G => .bk (G.set i .no)
  | .ct G => .ct (G.set i .no)
  | o => o
/-- it raises C, and the clause takes it -/
theorem ss_tryBad (h : ∀ W, Ss (fun σ cls d H => W cls d σ H) (tb W) G (.bad C G1)) (hc : PySem.W.exmOne K (.ref C) c = some true) (hi : i < G1.length) (hs : ∀ a, Ss (fun _ => E0) (ts a (.ref C) none) (G1.set i (.im (isX a))) o) (hb : ∀ C G', o ≠ .bad C G') :
    Ss E (fun D σ H => tb (wAs K c i ts Wout D) D σ H) G (o.offs i) := fun M0 D σ B M H q => h _ M0 D σ B M H fun σ' B' M' e H' => by
  refine ⟨true, hc, fun _ a ha => ?_, fun z => by cases z⟩
  refine hs a M0 _ (σ'.set i (some (.ref a))) B' M' (H'.setIm hi rfl) ?_
  cases o with
  | nx G => exact fun σ2 B2 M2 e2 H2 => q _ B2 M2 (e.trans e2) (H2.wipe i none)
  | rt P => exact fun v B2 M2 e2 => q v B2 M2 (e.trans e2)
  | rl ds => exact fun p vs B2 M2 e2 => q p vs B2 M2 (e.trans e2)
  | bk G => exact fun σ2 B2 M2 e2 H2 => q _ B2 M2 (e.trans e2) (H2.wipe i none)
  | ct G => exact fun σ2 B2 M2 e2 H2 => q _ B2 M2 (e.trans e2) (H2.wipe i none)
  | bad C G' => exact absurd rfl (hb C G')
end
/-- isinstance(e, c) in a suite, e the exception at a of whatever class -/
def rIsX (K : PySem.W.Frag) (a : Addr) (cls : Value) (d : Option Addr) : List V → Hp → VK → Prop := fun xs H Q => ∃ D, cls = .ref D ∧ d = none ∧ ExcC K D ∧ rIsE K D a xs H Q
theorem call_isX {X : Cx} {a : Addr} {cls : Value} {d : Option Addr} {oe : Obj} {pn : List (Addr × Obj)} (hz : Zc cls d oe) (hf : ∃ vs, oe.data = .fields vs) : CallR (X.suite a ((a, oe) :: pn)) (.builtin "isinstance") (rIsX X.K a cls d) := by
  intro pins s σ H xs us Q I r h
  obtain ⟨D, e1, e2, C, q⟩ := h
  subst e1 e2
  exact call_isE C hz hf pins s σ H xs us Q I r q
theorem sv_isX {K : PySem.W.Frag} {G : Gm} {te ta : TE} {a D C : Addr} {b : Bool} (he : Sv te G (isX a)) (hc : Sv ta G (isV (.ref C))) (X : ExcC K D) (h : PySem.W.kitOne K (.ref D) (.ref C) = some b) : Sv (tCB (rIsX K a (.ref D) none) (tCons te (tCons ta tNil))) G (isD (.bool b)) := fun M0 σ B M H Q q =>
  he M0 σ B M H _ fun x B1 e1 d1 p1 => hc M0 σ B1 M (H.ext e1 d1) _ fun y B2 e2 d2 p2 => by
    rw [show x = .ref a from p1, show y = .ref C from p2]
    exact ⟨D, rfl, rfl, X, .ref C, .ref C, b, rfl, fun u r => r, h, q _ B2 (e1.trans e2) d2 (.bl _)⟩

/-! ### a def's body keeps its promise -/
def entG : List Ar → Gm
  | [] => []
  | .im P :: as => .im P :: entG as
  | .ow R :: as => .bw R :: entG as
theorem entG_len : ∀ as, (entG as).length = as.length
  | [] => rfl
  | .im P :: as => by simp [entG, entG_len as]
  | .ow R :: as => by simp [entG, entG_len as]
def startG (n : Nat) (as : List Ar) : Gm := entG as ++ List.replicate (n - as.length) .no
theorem ent_get : ∀ {as : List Ar} {vs : List V} {B M : Hp} {i : Nat} {S : Sl}, ArsOk as vs B M → (entG as)[i]? = some S → (∃ P v, S = .im P ∧ vs[i]? = some v ∧ P.p v B) ∨ (∃ R l o, S = .bw R ∧ vs[i]? = some (.ref l) ∧ M l = some o ∧ R.r l o B)
  | [], _, _, _, i, S, h, e => by simp [entG] at e
  | .im P :: as, _, _, _, 0, S, h, e => by
    cases h with | cons a b => simp [entG] at e; subst e; exact .inl ⟨P, _, rfl, rfl, a⟩
  | .ow R :: as, _, _, _, 0, S, h, e => by
    cases h with | cons a b => simp [entG] at e; subst e; obtain ⟨l, o, h1, h2, h3⟩ := a; exact .inr ⟨R, l, o, rfl, by rw [h1]; rfl, h2, h3⟩
  | .im P :: as, _, _, _, i + 1, S, h, e => by
    cases h with | cons a b => simpa using ent_get (i := i) b (by simpa [entG] using e)
  | .ow R :: as, _, _, _, i + 1, S, h, e => by
    cases h with | cons a b => simpa using ent_get (i := i) b (by simpa [entG] using e)
theorem start_get {N : List Str} {as : List Ar} {vs : List V} {B M : Hp} (h : ArsOk as vs B M) {i : Nat} {S : Sl} (e : (startG N.length as)[i]? = some S) (hn : S ≠ .no) : i < vs.length ∧ (entG as)[i]? = some S := by
  unfold startG at e
  by_cases hi : i < (entG as).length
  · rw [List.getElem?_append_left hi] at e
    exact ⟨by rw [h.len, ← entG_len]; exact hi, e⟩
  · rw [List.getElem?_append_right (by omega), List.getElem?_replicate] at e
    split at e
    · exact absurd (Option.some.inj e).symm hn
    · cases e
theorem holds_start {N : List Str} {as : List Ar} {vs : List V} {B M : Hp} (dj : Dj B M) (h : ArsOk as vs B M) (hN : as.length ≤ N.length) : Holds M (startG N.length as) (L2.start N vs) B M where
  len := by unfold L2.start startG; simp [entG_len, h.len]
  dj := dj
  cal := fun _ _ h => h
  im := fun i P q => by
    obtain ⟨hi, e⟩ := start_get h q (by intro z; cases z)
    rcases ent_get h e with ⟨P', v, h1, h2, h3⟩ | ⟨R, l, o, h1, _⟩
    · cases h1
      exact ⟨v, by unfold L2.start; rw [List.getElem?_append_left (by simpa using hi), List.getElem?_map, h2]; rfl, h3⟩
    · cases h1
  ow := fun i R q => by
    obtain ⟨hi, e⟩ := start_get h q (by intro z; cases z)
    rcases ent_get h e with ⟨P', v, h1, _⟩ | ⟨R, l, o, h1, _⟩ <;> cases h1
  bw := fun i R q => by
    obtain ⟨hi, e⟩ := start_get h q (by intro z; cases z)
    rcases ent_get h e with ⟨P', v, h1, _⟩ | ⟨R', l, o, h1, h2, h3, h4⟩
    · cases h1
    · cases h1
      exact ⟨l, o, by unfold L2.start; rw [List.getElem?_append_left (by simpa using hi), List.getElem?_map, h2]; rfl, h3, h4⟩
  ne := fun i j R R' l q q' => by
    obtain ⟨hi, e⟩ := start_get h q (by intro z; cases z)
    rcases ent_get h e with ⟨P', v, h1, _⟩ | ⟨R, l, o, h1, _⟩ <;> cases h1
/-- all that is not the caller's is let stand -/
def rst (M0 H : Hp) : Hp := fun a => match M0 a with
  | some _ => none
  | none => H a
theorem rst_jn {M0 B M : Hp} (e : Ex M0 M) : jn (rst M0 (jn B M)) M0 = jn B M := by
  funext a
  unfold jn rst
  dsimp only
  cases h : M0 a with
  | some o => rw [e a o h]
  | none => rfl
theorem rst_dj {M0 H : Hp} : Dj (rst M0 H) M0 := fun a o h => by
  unfold rst at h
  cases q : M0 a with
  | some o => rw [q] at h; cases h
  | none => rfl
theorem rst_ex {M0 B M : Hp} (e : Ex M0 M) (d : Dj B M) : Ex B (rst M0 (jn B M)) := fun a o h => by
  unfold rst
  cases q : M0 a with
  | some u => have := d a o h; rw [e a u q] at this; cases this
  | none => exact jn_B d h
/-- how the result of a def is told -/
inductive Ans (E : L2.St → XK) (ts : TS) (G : Gm) : Rs → Prop where
  | ok {P} : Ss E ts G (.rt P) → Ans E ts G (.ok P)
  | non {G'} : Ss E ts G (.nx G') → Ans E ts G (.ok (isD .none))
  | ol {ds} : Ss E ts G (.rl ds) → Ans E ts G (.ol ds)
  | oll {ds} : Ss E ts G (.rl ds) → Ans E ts G (.ok (isD (.list ds)))
  | bad {C G'} : Ss E ts G (.bad C G') → Ans E ts G (.bad C)
theorem ans_run {E : XK} {ts : TS} {N : List Str} {as : List Ar} {vs : List V} {B M : Hp} {r : Rs} {Q : VK} (dj : Dj B M) (h : ArsOk as vs B M) (hN : as.length ≤ N.length) (w : r.wp B M Q E) (a : Ans (fun _ => E) ts (startG N.length as) r) :
    ts { nx := fun _ H' => Q .non H', rt := Q } (L2.start N vs) (jn B M) := by
  have H := holds_start dj h hN
  cases a with
  | ok s =>
    refine s M _ _ B M H fun v B' M' e d c p => ?_
    · have := w v (rst M (jn B' M')) (e.trans (rst_ex c d)) rst_dj (Ty.mono _ (rst_ex c d) p)
      rw [rst_jn c] at this
      exact this
  | non s =>
    refine s M _ _ B M H fun σ' B' M' e H' => ?_
    · have := w .non (rst M (jn B' M')) (e.trans (rst_ex H'.cal H'.dj)) rst_dj Dq.non
      rw [rst_jn H'.cal] at this
      exact this
  | ol s =>
    refine s M _ _ B M H fun p us B' M' e d c f hp hd => ?_
    ·
      -- the list stays its own: all else is let stand
      have hB : B' p = none := dj_free d hp
      have d2 : Dj B' (del M' p) := fun a u q => by
        by_cases z : a = p
        · exact if_pos z
        · rw [del_ne z]; exact d a u q
      have c2 : Ex M (del M' p) := fun a u q => by
        have z : a ≠ p := fun z => by rw [z, f] at q; cases q
        rw [del_ne z]; exact c a u q
      have hf : jn (rst M (jn B' (del M' p))) M p = none := by
        rw [rst_jn c2, jn_N (show del M' p p = none from if_pos rfl)]; exact hB
      have := w p us (rst M (jn B' (del M' p))) (e.trans (rst_ex c2 d2)) rst_dj hf (DqAll_ex (rst_ex c2 d2) hd)
      rw [rst_jn c2, upd_own] at this
      have e3 : upd (del M' p) p (.lst us) = M' := by
        funext a
        by_cases z : a = p
        · rw [z, upd_same, hp]
        · rw [upd_ne z, del_ne z]
      rw [e3] at this
      exact this
  | oll s =>
    refine s M _ _ B M H fun p us B' M' e d c f hp hd => ?_
    ·
      have hx := rst_ex c d
      have := w (.ref p) (rst M (jn B' M')) (e.trans hx) rst_dj (.lst (show rst M (jn B' M') p = some (.lst us) by unfold rst; rw [f]; exact jn_M hp) (DqAll_ex hx hd))
      rw [rst_jn c] at this
      exact this
  | bad s =>
    refine s M _ _ B M H fun σ' B' M' e H' => ?_
    · have := w (rst M (jn B' M')) (e.trans (rst_ex H'.cal H'.dj)) rst_dj
      rw [rst_jn H'.cal] at this
      exact this
section
variable {P : Program} {w : World} {K : PySem.W.Frag} {mg : Str → Option Value} {base : Heap}
abbrev cxD (P : Program) (w : World) (K : PySem.W.Frag) (mg : Str → Option Value) (base : Heap) (N : List Str) (qual : Str) (st : Stmt) (f : Addr) (cdv : Value) (A : Around) (outer : List Env) (s : Shared) (H : Hp) (E : XK) : Cx :=
  cxOf (L2.CX P w) P w K mg base N qual (defScope st) f cdv A outer s H E
theorem fn_ok {x qual : Str} {st : Stmt} {f : Addr} {fd : FuncData} {N ps : List Str} {k : Nat} {S : Fs} (F : Fun K x qual st f fd) (sc : FnScope N ps (defScope st)) (hn : S.n = ps.length)
    (hb : ∀ (cdv : Value) (A : Around) (outer : List Env) (s : Shared) (H : Hp) (E : XK), Room k (A.deeper (envOfC qual (defScope st) s.heap.objs.size f cdv)) →
      ∃ t, PSs (cxD P w K mg base N qual st f cdv A outer s H E) (defBody st) t ∧ ∀ x : S.α, Ans (fun _ => E) t (startG N.length (S.ars x)) (S.res x)) : FnOk P w K mg base (L2.CX P w) (k + 1) f fd ps (spF S) := by
  refine F.okX sc (fun vs H Q E h => by rw [spF_len h, hn]) (fun cdv A outer s H vs Q E hr h => ?_)
  obtain ⟨t, h1, h2⟩ := hb cdv A outer s H E hr
  refine ⟨t, h1, ?_⟩
  obtain ⟨x, B, M, rfl, dj, ha, hw⟩ := h
  refine ans_run dj ha ?_ hw (h2 x)
  have := congrArg List.length sc.pre
  rw [List.length_take] at this
  rw [S.len, hn]
  omega
/-- an __init__: self is its own, in slot 0 -/
theorem ini_ok {x qual : Str} {st : Stmt} {f C : Addr} {fd : FuncData} {N ps : List Str} {k : Nat} {S : Ini} (F : Fun K x qual st f fd) (sc : FnScope N ps (defScope st)) (hn : S.n + 1 = ps.length)
    (hb : ∀ (cdv : Value) (A : Around) (outer : List Env) (s : Shared) (H : Hp) (E : XK), Room k (A.deeper (envOfC qual (defScope st) s.heap.objs.size f cdv)) →
      ∃ t, PSs (cxD P w K mg base N qual st f cdv A outer s H E) (defBody st) t ∧ ∀ x : S.α, match S.res x with
        | .inl F => ∀ p dx, ∃ G', G'[0]? = some (.ow (owI C p dx F)) ∧ Ss (fun _ => E) t (.ow (owI C p dx (flds [])) :: startG (N.length - 1) (S.ars x)) (.nx G')
        | .inr X => ∀ p dx, ∃ G' F', G'[0]? = some (.ow (owI C p dx F')) ∧ Ss (fun _ => E) t (.ow (owI C p dx (flds [])) :: startG (N.length - 1) (S.ars x)) (.bad X G')) : FnOk P w K mg base (L2.CX P w) (k + 1) f fd ps (spN C S) := by
  refine F.okX sc (fun vs H Q E h => by rw [spN_len h, hn]) (fun cdv A outer s H vs Q E hr h => ?_)
  obtain ⟨t, h1, h2⟩ := hb cdv A outer s H E hr
  refine ⟨t, h1, ?_⟩
  obtain ⟨x, B, M, p, dx, us, rfl, rfl, dj, hp, ha, hw⟩ := h
  have hlen : S.n + 1 ≤ N.length := by
    have := congrArg List.length sc.pre
    rw [List.length_take] at this
    omega
  obtain ⟨n0, N', rfl⟩ : ∃ n0 N', N = n0 :: N' := by
    cases N with
    | nil => simp at hlen
    | cons a b => exact ⟨a, b, rfl⟩
  -- the caller's own but the instance
  have dj2 : Dj B (del M p) := fun a u q => by
    by_cases z : a = p
    · exact if_pos z
    · rw [del_ne z]; exact dj a u q
  have H0 : Holds (del M p) (.ow (owI C p dx (flds [])) :: startG N'.length (S.ars x)) (L2.start (n0 :: N') (.ref p :: us)) B M := by
    have a := S.len x
    have e1 : L2.start (n0 :: N') (V.ref p :: us) = some (V.ref p) :: L2.start N' us := by
      unfold L2.start
      simp
    rw [e1]
    have ha' : ∀ {i : Nat} {S1 : Sl}, (startG N'.length (S.ars x))[i]? = some S1 → S1 ≠ .no → i < us.length ∧ (entG (S.ars x))[i]? = some S1 := fun e hn => start_get ha e hn
    have us_get : ∀ {i : Nat} {v : V}, us[i]? = some v → (L2.start N' us)[i]? = some (some v) := fun {i v} e => by
      have hi := (List.getElem?_eq_some_iff.mp e).1
      unfold L2.start
      rw [List.getElem?_append_left (by simpa using hi), List.getElem?_map, e]; rfl
    exact {
      len := by unfold L2.start startG; simp [entG_len, ha.len]
      dj := dj
      cal := fun a o h => by
        by_cases z : a = p
        · rw [z, show del M p p = none from if_pos rfl] at h; cases h
        · rw [del_ne z] at h; exact h
      im := fun i P q => by
        cases i with
        | zero => simp at q
        | succ i =>
          have q : (startG N'.length (S.ars x))[i]? = some (.im P) := by simpa using q
          obtain ⟨hi, e⟩ := ha' q (by intro z; cases z)
          rcases ent_get ha e with ⟨P', v, h1, h2, h3⟩ | ⟨R, l, o, h1, _⟩
          · cases h1; exact ⟨v, by simpa using us_get h2, h3⟩
          · cases h1
      ow := fun i R q => by
        cases i with
        | zero =>
          have q : Sl.ow (owI C p dx (flds [])) = Sl.ow R := by simpa using q
          cases q
          exact ⟨p, _, rfl, hp, ⟨rfl, [], rfl, .nil, by decide⟩, if_pos rfl⟩
        | succ i =>
          have q : (startG N'.length (S.ars x))[i]? = some (.ow R) := by simpa using q
          obtain ⟨hi, e⟩ := ha' q (by intro z; cases z)
          rcases ent_get ha e with ⟨P', v, h1, _⟩ | ⟨R, l, o, h1, _⟩ <;> cases h1
      bw := fun i R q => by
        cases i with
        | zero => simp at q
        | succ i =>
          have q : (startG N'.length (S.ars x))[i]? = some (.bw R) := by simpa using q
          obtain ⟨hi, e⟩ := ha' q (by intro z; cases z)
          rcases ent_get ha e with ⟨P', v, h1, _⟩ | ⟨R', l, o, h1, h2, h3, h4⟩
          · cases h1
          · cases h1
            exact ⟨l, o, by simpa using us_get h2, h3, h4⟩
      ne := fun i j R R' l q q' _ _ => by
        have only : ∀ {i : Nat} {R : Ow}, (Sl.ow (owI C p dx (flds [])) :: startG N'.length (S.ars x))[i]? = some (.ow R) → i = 0 := fun {i R} q => by
          cases i with
          | zero => rfl
          | succ i =>
            have q : (startG N'.length (S.ars x))[i]? = some (.ow R) := by simpa using q
            obtain ⟨hi, e⟩ := ha' q (by intro z; cases z)
            rcases ent_get ha e with ⟨P', v, h1, _⟩ | ⟨R, l, o, h1, _⟩ <;> cases h1
        rw [only q, only q'] }
  have h3 := h2 x
  have back : Ex (del M p) (upd (del M p) p (.ins C dx [])) := fun a o h => by
    have z : a ≠ p := fun z => by rw [z, show del M p p = none from if_pos rfl] at h; cases h
    rw [upd_ne z]; exact h
  cases hr : S.res x with
  | inl F =>
    rw [hr] at hw h3
    obtain ⟨G', hg, s⟩ := h3 p dx
    refine s (del M p) _ _ B M H0 fun σ' B' M' e H' => ?_
    obtain ⟨l, o, a, c, ⟨rfl, fs, rfl, r, _⟩, f⟩ := H'.ow 0 _ hg
    -- all but the caller's and the instance are let stand
    have c1 : Ex (upd (del M l) l (.ins C dx fs)) M' := fun a o h => by
      by_cases z : a = l
      · rw [z] at h ⊢; rw [upd_same] at h; rw [← h]; exact c
      · rw [upd_ne z] at h; exact H'.cal a o h
    have e1 : upd (del M l) l (.ins C dx fs) = upd M l (.ins C dx fs) := by
      funext a
      by_cases z : a = l
      · rw [z, upd_same, upd_same]
      · rw [upd_ne z, upd_ne z, del_ne z]
    rw [e1] at c1
    have hx := rst_ex c1 H'.dj
    have d3 : Dj (rst (upd M l (.ins C dx fs)) (jn B' M')) M := fun a u q => by
      have := rst_dj a u q
      by_cases z : a = l
      · rw [z, upd_same] at this; cases this
      · rw [upd_ne z] at this; exact this
    have d4 : Dj (rst (upd M l (.ins C dx fs)) (jn B' M')) M := d3
    have := hw (rst (upd M l (.ins C dx fs)) (jn B' M')) fs (e.trans hx) d4 (F.mono hx r)
    rw [rst_jn c1] at this
    exact this
  | inr X =>
    rw [hr] at hw h3
    obtain ⟨G', F', hg, s⟩ := h3 p dx
    refine s (del M p) _ _ B M H0 fun σ' B' M' e H' => ?_
    obtain ⟨l, o, a, c, ⟨rfl, fs, rfl, r, _⟩, f⟩ := H'.ow 0 _ hg
    have c1 : Ex (upd (del M l) l (.ins C dx fs)) M' := fun a o h => by
      by_cases z : a = l
      · rw [z] at h ⊢; rw [upd_same] at h; rw [← h]; exact c
      · rw [upd_ne z] at h; exact H'.cal a o h
    have e1 : upd (del M l) l (.ins C dx fs) = upd M l (.ins C dx fs) := by
      funext a
      by_cases z : a = l
      · rw [z, upd_same, upd_same]
      · rw [upd_ne z, upd_ne z, del_ne z]
    rw [e1] at c1
    have hx := rst_ex c1 H'.dj
    have d3 : Dj (rst (upd M l (.ins C dx fs)) (jn B' M')) M := fun a u q => by
      have := rst_dj a u q
      by_cases z : a = l
      · rw [z, upd_same] at this; cases this
      · rw [upd_ne z] at this; exact this
    have := hw (rst (upd M l (.ins C dx fs)) (jn B' M')) fs (e.trans hx) d3
    rw [rst_jn c1] at this
    exact this
end
end Mini

namespace Mini
open PySem L2 Evl PyProof.Rows
/-- a constant of the module -/
def GC (mg : Str → Option Value) (x : Str) (v : V) : Prop := ∃ u, mg x = some u ∧ RelV v u
theorem pe_gc {X : Cx} {x : Str} {v : V} {pos : Pos} (h : GC X.mg x v) (hg : Gl X x := by rfl) (hd : (x == ("__debug__" : Str)) = false := by decide) : PE X (.Name x pos) (tC v) := by
  obtain ⟨u, h1, h2⟩ := h
  exact pe_glob hg h1 h2 hd
theorem pe_err {X : Cx} {x : Str} {C : Addr} {pos : Pos} (h : X.mg x = some (.ref C)) (hg : Gl X x := by rfl) (hd : (x == ("__debug__" : Str)) = false := by decide) : PE X (.Name x pos) (tC (.ref C)) := pe_glob hg h rfl hd
/-- what is no int from 0 on below n -/
def belowB (d : PyData) (n : Int) : Bool := match d with
  | .int i => decide (0 ≤ i) && decide (i < n)
  | _ => false
def argOf : PyData ⊕ List PyData → Ar
  | .inl d => .im (isD d)
  | .inr ds => .ow (isL ds)
def lenD : PyData → Nat
  | .tuple ds => ds.length
  | .list ds => ds.length
  | _ => 0
/-- small enough to be walked -/
def Fit (d : PyData) : Prop := lenD d < 10000000
def Fits (d : PyData) : Prop := match d with
  | .list ds => ds.length < 10000000 ∧ ∀ e ∈ ds, Fit e
  | _ => True
/-- a book's attributes -/
def bookF (m : PyData) (ds : List PyData) : Fl := flds [("letters", isD m), ("size", isD (.int ds.length)), ("_words", isD (.list ds))]
theorem bookF_no {m : PyData} {ds : List PyData} {f : Str} (h : ([("letters", isD m), ("size", isD (.int ds.length)), ("_words", isD (.list ds))] : List (Str × Ty)).lookup f = none) : ∀ vs B, (bookF m ds).r vs B → vs.lookup f = none := fun vs B r => (FldsOk.look r).2 h
def wD (ws : List (List Int)) : List PyData := ws.map fun w => .tuple (w.map .int)
def slOf : PyData ⊕ List PyData → Sl
  | .inl d => .im (isD d)
  | .inr ds => .bw (isL ds)
theorem ent_slOf (a : PyData ⊕ List PyData) (as : List Ar) : entG (argOf a :: as) = slOf a :: entG as := by cases a <;> rfl
def datOf : PyData ⊕ List PyData → PyData
  | .inl d => d
  | .inr ds => .list ds
theorem rl_slOf {a : PyData ⊕ List PyData} {ds : List PyData} (h : datOf a = .list ds) {G : Gm} {n : Nat} (hG : G[n]? = some (slOf a)) : Rl (tVar n) G ds := by
  cases a with
  | inl d => have e : d = .list ds := h; subst e; exact rl_sv (sv_var hG)
  | inr es => have e : es = ds := PyData.list.inj h; subst e; exact rl_bw hG
theorem sv_slOf {a : PyData ⊕ List PyData} (h : ∀ ds, datOf a ≠ .list ds) {G : Gm} {n : Nat} (hG : G[n]? = some (slOf a)) : Sv (tVar n) G (isD (datOf a)) := by
  cases a with
  | inl d => exact sv_var hG
  | inr es => exact absurd rfl (h es)
theorem sa_slOf {a : PyData ⊕ List PyData} {G : Gm} {n : Nat} {tr : TA} {as : List Ar} (h : G[n]? = some (slOf a)) (hr : Sa tr G as) : Sa (tCons (tVar n) tr) G (argOf a :: as) := by
  cases a with
  | inl d => exact sa_im (sv_var h) hr
  | inr ds => exact sa_bw h hr
def tupB (f : PyData → Bool) (d : PyData) : Bool := match d with
  | .tuple ds => ds.all f
  | _ => false
def isWordB (d : PyData) (n : Int) : Bool := tupB (fun e => belowB e n) d && (decide (1 ≤ (lenD d : Int)) && decide ((lenD d : Int) ≤ 5000))
def areWordsB (d : PyData) (n : Int) : Bool := match d with
  | .list ds => decide (ds.length ≤ 60) && ds.all fun e => isWordB e n
  | _ => false
theorem at_getD {ds : List PyData} {i : Int} (h0 : 0 ≤ i) (h1 : i < ds.length) : atI ds i = some (ds.getD i.toNat .none) := by
  obtain ⟨n, rfl⟩ := Int.eq_ofNat_of_zero_le h0
  have hn : n < ds.length := by omega
  have e : ds[n]? = some (ds.getD n .none) := by rw [List.getD_eq_getElem?_getD, List.getElem?_eq_getElem hn]; rfl
  exact atI_nat e
theorem ini_good {E : L2.St → XK} {t : TS} {G G' : Gm} {S : Sl} (h2 : Ss E t G (.nx G')) (h1 : G'[0]? = some S) : ∃ G', G'[0]? = some S ∧ Ss E t G (.nx G') := ⟨G', h1, h2⟩
theorem ini_bad {E : L2.St → XK} {t : TS} {G G' : Gm} {C p dx X : Addr} {F' : Fl} (h2 : Ss E t G (.bad X G')) (h1 : G'[0]? = some (.ow (owI C p dx F'))) : ∃ G' F', G'[0]? = some (.ow (owI C p dx F')) ∧ Ss E t G (.bad X G') := ⟨G', F', h1, h2⟩
theorem all_map_id {α : Type} (f : α → Bool) : ∀ l : List α, (l.map f).all id = l.all f
  | [] => rfl
  | a :: l => by simp [all_map_id f l]
def dInt : PyData → Bool
  | .int _ => true
  | .bool _ => true
  | _ => false
def dBool : PyData → Bool
  | .bool _ => true
  | _ => false
def dStr : PyData → Bool
  | .str _ => true
  | _ => false
def dTup : PyData → Bool
  | .tuple _ => true
  | _ => false
def dLst : PyData → Bool
  | .list _ => true
  | _ => false
theorem kit_int : ∀ d, kitB (tyName d) "int" = some (dInt d)
  | .none => (by decide +kernel : kitB "NoneType" "int" = some false)
  | .bool _ => (by decide +kernel : kitB "bool" "int" = some true)
  | .int _ => (by decide +kernel : kitB "int" "int" = some true)
  | .str _ => (by decide +kernel : kitB "str" "int" = some false)
  | .list _ => (by decide +kernel : kitB "list" "int" = some false)
  | .tuple _ => (by decide +kernel : kitB "tuple" "int" = some false)
  | .dict _ => (by decide +kernel : kitB "dict" "int" = some false)
theorem kit_bool : ∀ d, kitB (tyName d) "bool" = some (dBool d)
  | .none => (by decide +kernel : kitB "NoneType" "bool" = some false)
  | .bool _ => (by decide +kernel : kitB "bool" "bool" = some true)
  | .int _ => (by decide +kernel : kitB "int" "bool" = some false)
  | .str _ => (by decide +kernel : kitB "str" "bool" = some false)
  | .list _ => (by decide +kernel : kitB "list" "bool" = some false)
  | .tuple _ => (by decide +kernel : kitB "tuple" "bool" = some false)
  | .dict _ => (by decide +kernel : kitB "dict" "bool" = some false)
theorem kit_str : ∀ d, kitB (tyName d) "str" = some (dStr d)
  | .none => (by decide +kernel : kitB "NoneType" "str" = some false)
  | .bool _ => (by decide +kernel : kitB "bool" "str" = some false)
  | .int _ => (by decide +kernel : kitB "int" "str" = some false)
  | .str _ => (by decide +kernel : kitB "str" "str" = some true)
  | .list _ => (by decide +kernel : kitB "list" "str" = some false)
  | .tuple _ => (by decide +kernel : kitB "tuple" "str" = some false)
  | .dict _ => (by decide +kernel : kitB "dict" "str" = some false)
theorem kit_tup : ∀ d, kitB (tyName d) "tuple" = some (dTup d)
  | .none => (by decide +kernel : kitB "NoneType" "tuple" = some false)
  | .bool _ => (by decide +kernel : kitB "bool" "tuple" = some false)
  | .int _ => (by decide +kernel : kitB "int" "tuple" = some false)
  | .str _ => (by decide +kernel : kitB "str" "tuple" = some false)
  | .list _ => (by decide +kernel : kitB "list" "tuple" = some false)
  | .tuple _ => (by decide +kernel : kitB "tuple" "tuple" = some true)
  | .dict _ => (by decide +kernel : kitB "dict" "tuple" = some false)
theorem kit_lst : ∀ d, kitB (tyName d) "list" = some (dLst d)
  | .none => (by decide +kernel : kitB "NoneType" "list" = some false)
  | .bool _ => (by decide +kernel : kitB "bool" "list" = some false)
  | .int _ => (by decide +kernel : kitB "int" "list" = some false)
  | .str _ => (by decide +kernel : kitB "str" "list" = some false)
  | .list _ => (by decide +kernel : kitB "list" "list" = some true)
  | .tuple _ => (by decide +kernel : kitB "tuple" "list" = some false)
  | .dict _ => (by decide +kernel : kitB "dict" "list" = some false)
section
variable {K : PySem.W.Frag} {G : Gm} {ta tb : TE} {d : PyData} {ds : List PyData}
theorem sv_isInt (ha : Sv ta G (isD d)) : Sv (tCB (rIsi K) (tCons ta (tCons (tC (.ty "int")) tNil))) G (isD (.bool (dInt d))) := sv_isi ha sv_val (kit_int d)
theorem sv_isBool (ha : Sv ta G (isD d)) : Sv (tCB (rIsi K) (tCons ta (tCons (tC (.ty "bool")) tNil))) G (isD (.bool (dBool d))) := sv_isi ha sv_val (kit_bool d)
theorem sv_isStr (ha : Sv ta G (isD d)) : Sv (tCB (rIsi K) (tCons ta (tCons (tC (.ty "str")) tNil))) G (isD (.bool (dStr d))) := sv_isi ha sv_val (kit_str d)
theorem sv_isTup (ha : Sv ta G (isD d)) : Sv (tCB (rIsi K) (tCons ta (tCons (tC (.ty "tuple")) tNil))) G (isD (.bool (dTup d))) := sv_isi ha sv_val (kit_tup d)
theorem sv_isLst (ha : Sv ta G (isD d)) : Sv (tCB (rIsi K) (tCons ta (tCons (tC (.ty "list")) tNil))) G (isD (.bool (dLst d))) := sv_isi ha sv_val (kit_lst d)
theorem sv_isLstR (ha : Rl ta G ds) : Sv (tCB (rIsi K) (tCons ta (tCons (tC (.ty "list")) tNil))) G (isD (.bool true)) := sv_isiL ha sv_val (kit_lst (.list []))
end
end Mini

namespace Mini
open PySem L2 Evl

/-! ### weaker slots, written out -/
theorem Le.nil : Le [] [] := Le.refl []
theorem Le.eq {S : Sl} {G1 G2 : Gm} (h : Le G1 G2) : Le (S :: G1) (S :: G2) := ⟨by simp [h.1], fun i R q => by
  cases i with
  | zero => exact .inr q
  | succ i => exact h.2 i R (by simpa using q)⟩
theorem Le.no {S : Sl} {G1 G2 : Gm} (h : Le G1 G2) : Le (S :: G1) (.no :: G2) := ⟨by simp [h.1], fun i R q => by
  cases i with
  | zero => have e : Sl.no = R := by simpa using q
            exact .inl e.symm
  | succ i => exact h.2 i R (by simpa using q)⟩

/-! ### the laws' own draws -/
def digS (s : List Int × Int) : List Int × Int := if 0 < s.2 then (s.1 ++ [s.2 % 1009], s.2 / 1009) else s
def itN {α : Type} (f : α → α) : Nat → α → α
  | 0, a => a
  | n + 1, a => f (itN f n a)
def absI (c : Int) : Int := if c < 0 then -c else c
def seedS (s c : Int) : Int := (s * 48271 + absI c + 11) % 2147483647
def cellS (s : List Int × Int) (c : Int) : List Int × Int :=
  if 10 ^ 18 ≤ absI c then ((itN digS 60 (s.1, absI c)).1, seedS s.2 c) else (s.1 ++ [(seedS s.2 c * 16807 + 5) / 3 % 65521], seedS s.2 c)
def fillS (many : Int) (s : List Int × Int) (k : Nat) : List Int × Int :=
  if (s.1.length : Int) < many then (s.1 ++ [(s.2 * 69621 + (k : Int) + 1) % 2147483647 / 7 % 65521], (s.2 * 69621 + (k : Int) + 1) % 2147483647) else s
def cellsS (ns : List Int) (i : Nat) : List Int × Int := (ns.take i).foldl cellS ([], 7)
def fillsS (ns : List Int) (many : Int) (k : Nat) : List Int × Int := (List.range k).foldl (fillS many) (cellsS ns ns.length)
def drawsF (ns : List Int) (many : Int) : List Int := cutD (fillsS (cutD ns none (some 63)) many many.toNat).1 none (some many)
theorem cellsS_succ {ns : List Int} {i : Nat} {c : Int} (h : ns[i]? = some c) : cellsS ns (i + 1) = cellS (cellsS ns i) c := by
  unfold cellsS
  rw [List.take_succ, h, List.foldl_append]
  rfl
theorem fillsS_succ (ns : List Int) (many : Int) (k : Nat) : fillsS ns many (k + 1) = fillS many (fillsS ns many k) k := by
  unfold fillsS
  rw [List.range_succ, List.foldl_append]
  rfl
theorem digS_len (s : List Int × Int) : (digS s).1.length ≤ s.1.length + 1 := by
  unfold digS
  split
  · simp
  · omega
theorem itN_len {n : Nat} {s : List Int × Int} : (itN digS n s).1.length ≤ s.1.length + n := by
  induction n with
  | zero => exact Nat.le_refl _
  | succ n ih =>
    have := digS_len (itN digS n s)
    show (digS (itN digS n s)).1.length ≤ _
    omega
theorem cellS_len (s : List Int × Int) (c : Int) : (cellS s c).1.length ≤ s.1.length + 60 := by
  unfold cellS
  split
  · exact itN_len (s := (s.1, absI c))
  · simp
theorem cellsS_len {ns : List Int} : ∀ i, i ≤ ns.length → (cellsS ns i).1.length ≤ 60 * i
  | 0, _ => by simp [cellsS]
  | i + 1, h => by
    rw [cellsS_succ (List.getElem?_eq_getElem (show i < ns.length by omega))]
    have := cellS_len (cellsS ns i) ns[i]
    have := cellsS_len (ns := ns) i (by omega)
    omega
theorem fillS_len (many : Int) (s : List Int × Int) (k : Nat) : (fillS many s k).1.length ≤ s.1.length + 1 := by
  unfold fillS
  split
  · simp
  · omega
theorem fillsS_len (ns : List Int) (many : Int) : ∀ k, (fillsS ns many k).1.length ≤ 60 * ns.length + k
  | 0 => cellsS_len ns.length (Nat.le_refl _)
  | k + 1 => by
    rw [fillsS_succ]
    have := fillS_len many (fillsS ns many k) k
    have := fillsS_len ns many k
    omega
theorem fillsS_ge (ns : List Int) (many : Int) : ∀ k : Nat, (k : Int) ≤ many → k ≤ (fillsS ns many k).1.length
  | 0, _ => Nat.zero_le _
  | k + 1, h => by
    rw [fillsS_succ]
    have := fillsS_ge ns many k (by omega)
    unfold fillS
    split
    · rw [List.length_append, List.length_singleton]; omega
    · omega
theorem cut_take {α : Type} (ds : List α) {i : Int} (h0 : 0 ≤ i) : cutD ds none (some i) = ds.take i.toNat := by
  unfold cutD
  obtain ⟨n, rfl⟩ := Int.eq_ofNat_of_zero_le h0
  rw [HT.sIx_none]
  show (ds.drop 0).take (HT.sIx ds.length ds.length (some (n : Int)) - 0) = ds.take (n : Int).toNat
  rw [HT.sIx_nat, List.drop_zero, Nat.sub_zero, Int.toNat_natCast]
  by_cases h : n ≤ ds.length
  · rw [Nat.min_eq_left h]
  · rw [Nat.min_eq_right (by omega), List.take_length, List.take_of_length_le (by omega)]
theorem cut_drop {α : Type} (ds : List α) {i : Int} (h0 : 0 ≤ i) : cutD ds (some i) none = ds.drop i.toNat := by
  unfold cutD
  obtain ⟨n, rfl⟩ := Int.eq_ofNat_of_zero_le h0
  rw [HT.sIx_none, HT.sIx_nat, Int.toNat_natCast]
  by_cases h : n ≤ ds.length
  · rw [Nat.min_eq_left h, List.take_of_length_le (by simp)]
  · rw [Nat.min_eq_right (by omega), Nat.sub_self, List.take_zero, List.drop_eq_nil_of_le (by omega)]
def Dr (v : Int) : Prop := 0 ≤ v ∧ v < 65521
theorem digS_dr {s : List Int × Int} (h : ∀ v ∈ s.1, Dr v) : ∀ v ∈ (digS s).1, Dr v := by
  unfold digS
  split
  · intro v hv
    rcases List.mem_append.mp hv with e | e
    · exact h v e
    · rw [List.mem_singleton] at e
      subst e
      exact ⟨by omega, by omega⟩
  · exact h
theorem itN_dr {n : Nat} {s : List Int × Int} (h : ∀ v ∈ s.1, Dr v) : ∀ v ∈ (itN digS n s).1, Dr v := by
  induction n with
  | zero => exact h
  | succ n ih => exact digS_dr ih
theorem cellS_dr {s : List Int × Int} {c : Int} (h : ∀ v ∈ s.1, Dr v) : ∀ v ∈ (cellS s c).1, Dr v := by
  unfold cellS
  split
  · exact itN_dr (s := (s.1, absI c)) h
  · intro v hv
    rcases List.mem_append.mp hv with e | e
    · exact h v e
    · rw [List.mem_singleton] at e
      subst e
      exact ⟨by omega, by omega⟩
theorem cellsS_dr {ns : List Int} : ∀ i, i ≤ ns.length → ∀ v ∈ (cellsS ns i).1, Dr v
  | 0, _ => fun v hv => by simp [cellsS] at hv
  | i + 1, h => by
    rw [cellsS_succ (List.getElem?_eq_getElem (show i < ns.length by omega))]
    exact cellS_dr (cellsS_dr i (by omega))
theorem fillsS_dr (ns : List Int) (many : Int) : ∀ k, ∀ v ∈ (fillsS ns many k).1, Dr v
  | 0 => cellsS_dr ns.length (Nat.le_refl _)
  | k + 1 => by
    rw [fillsS_succ]
    unfold fillS
    split
    · intro v hv
      rcases List.mem_append.mp hv with e | e
      · exact fillsS_dr ns many k v e
      · rw [List.mem_singleton] at e
        subst e
        exact ⟨by omega, by omega⟩
    · exact fillsS_dr ns many k
theorem drawsF_len {ns : List Int} {many : Int} (h : 0 ≤ many) : (drawsF ns many).length = many.toNat := by
  unfold drawsF
  rw [cut_take _ h, List.length_take]
  have := fillsS_ge (cutD ns none (some 63)) many many.toNat (by omega)
  omega
theorem drawsF_dr {ns : List Int} {many : Int} (h : 0 ≤ many) : ∀ v ∈ drawsF ns many, Dr v := fun v hv => by
  unfold drawsF at hv
  rw [cut_take _ h] at hv
  exact fillsS_dr _ _ _ v (List.mem_of_mem_take hv)

/-! ### the laws' own words -/
def atD (ds : List Int) (k : Nat) : Int := ds.getD k 0
def primD (j : Nat) : Int := [1, 3, 7, 11, 19, 31, 53, 97].getD (j % 8) 1
def wordD (dr : List Int) (letters longest first : Int) (k : Nat) : List Int :=
  first :: (List.range (atD dr (3 * k + 1) % longest).toNat).map fun j => atD dr (3 * k + 2) / primD j % letters
theorem eraseIdx_map' {α β : Type} (f : α → β) : ∀ (l : List α) (n : Nat), (l.map f).eraseIdx n = (l.eraseIdx n).map f
  | [], n => by simp
  | a :: l, 0 => by simp
  | a :: l, n + 1 => by simp [eraseIdx_map' f l n]
theorem prim_cases (j : Nat) : j % 8 = 0 ∨ j % 8 = 1 ∨ j % 8 = 2 ∨ j % 8 = 3 ∨ j % 8 = 4 ∨ j % 8 = 5 ∨ j % 8 = 6 ∨ j % 8 = 7 := by omega
theorem prim_at (j : Nat) : atI ([.int 1, .int 3, .int 7, .int 11, .int 19, .int 31, .int 53, .int 97] : List PyData) ((j : Int) % 8) = some (.int (primD j)) := by
  have e : (j : Int) % 8 = ((j % 8 : Nat) : Int) := by omega
  rw [e]
  unfold primD
  rcases prim_cases j with h | h | h | h | h | h | h | h <;> rw [h] <;> rfl
theorem prim_div (j : Nat) {i : Int} : CDiv i (primD j) := by
  unfold primD CDiv
  rcases prim_cases j with h | h | h | h | h | h | h | h <;> rw [h] <;> decide
/-- the letters that are left, the words so far -/
def wordsS (dr : List Int) (letters longest : Int) (apart : Bool) : Nat → List Int × List (List Int)
  | 0 => ((List.range letters.toNat).map fun k : Nat => (k : Int), [])
  | k + 1 =>
    let s := wordsS dr letters longest apart k
    if apart then (s.1.eraseIdx (atD dr (3 * k) % (s.1.length : Int)).toNat, s.2 ++ [wordD dr letters longest (s.1.getD (atD dr (3 * k) % (s.1.length : Int)).toNat 0) k])
    else (s.1, s.2 ++ [wordD dr letters longest (atD dr (3 * k) % (if 1 > letters then 1 else letters)) k])
def wordsF (dr : List Int) (letters size longest : Int) (apart : Bool) : List (List Int) := (wordsS dr letters longest apart size.toNat).2
theorem wordsS_len (dr : List Int) (letters longest : Int) (apart : Bool) : ∀ k, (wordsS dr letters longest apart k).2.length = k
  | 0 => rfl
  | k + 1 => by
    have ih := wordsS_len dr letters longest apart k
    unfold wordsS
    cases apart <;> simp [ih]
theorem leftS_len (dr : List Int) (letters longest : Int) : ∀ k : Nat, (∀ i, 0 ≤ atD dr i) → (k : Int) ≤ letters → ((wordsS dr letters longest true k).1.length : Int) = letters - k
  | 0, _, h => by simp [wordsS]; omega
  | k + 1, hp, h => by
    have ih := leftS_len dr letters longest k hp (by omega)
    unfold wordsS
    simp only [if_true]
    have h1 := hp (3 * k)
    have h2 : 0 ≤ atD dr (3 * k) % ((wordsS dr letters longest true k).1.length : Int) := Int.emod_nonneg _ (by omega)
    have h3 : atD dr (3 * k) % ((wordsS dr letters longest true k).1.length : Int) < ((wordsS dr letters longest true k).1.length : Int) := Int.emod_lt_of_pos _ (by omega)
    rw [List.length_eraseIdx, if_pos (by omega)]
    omega
end Mini

namespace Mini
open PySem L2 Evl

theorem eqvI_iff : ∀ (a b : List Int), PyData.eqvAll (a.map .int) (b.map .int) = decide (a = b)
  | [], [] => by simp [PyData.eqvAll]
  | [], _ :: _ => by simp [PyData.eqvAll]
  | _ :: _, [] => by simp [PyData.eqvAll]
  | x :: xs, y :: ys => by
    rw [List.map_cons, List.map_cons, PyData.eqvAll, eqvI_iff xs ys, PyData.eqv]
    by_cases h : x = y
    · subst h; simp
    · have h' : ¬ (x :: xs = y :: ys) := fun e => h (List.cons.inj e).1
      rw [decide_eq_false h', beq_eq_false_iff_ne.mpr h, Bool.false_and]
theorem eqvW_iff : ∀ (a b : List (List Int)), PyData.eqvAll (wD a) (wD b) = decide (a = b)
  | [], [] => by simp [PyData.eqvAll, wD]
  | [], _ :: _ => by simp [PyData.eqvAll, wD]
  | _ :: _, [] => by simp [PyData.eqvAll, wD]
  | x :: xs, y :: ys => by
    have ih := eqvW_iff xs ys
    unfold wD at ih ⊢
    rw [List.map_cons, List.map_cons, PyData.eqvAll, ih, PyData.eqv, eqvI_iff]
    by_cases h : x = y
    · subst h; simp
    · have h' : ¬ (x :: xs = y :: ys) := fun e => h (List.cons.inj e).1
      rw [decide_eq_false h', decide_eq_false h, Bool.false_and]
theorem eqv_wD (a b : List (List Int)) : PyData.eqv (.list (wD a)) (.list (wD b)) = decide (a = b) := by rw [PyData.eqv, eqvW_iff]
theorem eqv_ints (a b : List Int) : PyData.eqv (.list (a.map .int)) (.list (b.map .int)) = decide (a = b) := by rw [PyData.eqv, eqvI_iff]
theorem eqv_tints (a b : List Int) : PyData.eqv (.tuple (a.map .int)) (.tuple (b.map .int)) = decide (a = b) := by rw [PyData.eqv, eqvI_iff]
theorem canI : ∀ a : List Int, PyData.canLayAll0 (a.map .int) = true
  | [] => by simp [PyData.canLayAll0]
  | x :: xs => by simp [PyData.canLayAll0, PyData.canLay0, canI xs]
theorem depI : ∀ a : List Int, PyData.depthAll (a.map .int) = 0
  | [] => by simp [PyData.depthAll]
  | x :: xs => by simp [PyData.depthAll, PyData.depth, depI xs]
theorem canW : ∀ a : List (List Int), PyData.canLayAll0 (wD a) = true
  | [] => by simp [PyData.canLayAll0, wD]
  | x :: xs => by
    have ih := canW xs
    unfold wD at ih ⊢
    simp [PyData.canLayAll0, PyData.canLay0, ih, canI]
theorem depW : ∀ a : List (List Int), PyData.depthAll (wD a) ≤ 1
  | [] => by simp [PyData.depthAll, wD]
  | x :: xs => by
    have ih := depW xs
    unfold wD at ih ⊢
    simp [PyData.depthAll, PyData.depth, depI, ih]
theorem shaped_wD (a : List (List Int)) : SeqAt.shaped (.list (wD a)) = true := by
  unfold SeqAt.shaped
  have h := depW a
  rw [Bool.and_eq_true]
  refine ⟨by rw [PyData.canLay0]; exact canW a, decide_eq_true ?_⟩
  rw [PyData.depth]
  omega
theorem shaped_ints (a : List Int) : SeqAt.shaped (.list (a.map .int)) = true := by
  unfold SeqAt.shaped
  rw [Bool.and_eq_true]
  refine ⟨by rw [PyData.canLay0]; exact canI a, decide_eq_true ?_⟩
  rw [PyData.depth, depI]
  omega
theorem shaped_tints (a : List Int) : SeqAt.shaped (.tuple (a.map .int)) = true := by
  unfold SeqAt.shaped
  rw [Bool.and_eq_true]
  refine ⟨by rw [PyData.canLay0]; exact canI a, decide_eq_true ?_⟩
  rw [PyData.depth, depI]
  omega
/-- words of a book over m letters -/
def GoodW (W : List (List Int)) (m : Int) : Prop := W.length ≤ 60 ∧ ∀ w ∈ W, 1 ≤ w.length ∧ w.length ≤ 5000 ∧ ∀ v ∈ w, 0 ≤ v ∧ v < m
theorem word_iff (w : List Int) (m : Int) : isWordB (.tuple (w.map .int)) m = true ↔ 1 ≤ w.length ∧ w.length ≤ 5000 ∧ ∀ v ∈ w, 0 ≤ v ∧ v < m := by
  have e : (isWordB (.tuple (w.map .int)) m) = ((w.map PyData.int).all (fun e => belowB e m) && (decide (1 ≤ ((w.map PyData.int).length : Int)) && decide (((w.map PyData.int).length : Int) ≤ 5000))) := rfl
  rw [e]
  simp only [Bool.and_eq_true, List.all_eq_true, List.length_map, decide_eq_true_eq, List.mem_map, forall_exists_index, and_imp, forall_apply_eq_imp_iff₂]
  constructor
  · rintro ⟨h1, h2, h3⟩
    refine ⟨by omega, by omega, fun v hv => ?_⟩
    have := h1 v hv
    simpa [belowB] using this
  · rintro ⟨h1, h2, h3⟩
    refine ⟨fun v hv => ?_, by omega, by omega⟩
    simpa [belowB] using h3 v hv
theorem areWords_iff (W : List (List Int)) (m : Int) : areWordsB (.list (wD W)) m = true ↔ GoodW W m := by
  have e : areWordsB (.list (wD W)) m = (decide ((wD W).length ≤ 60) && (wD W).all fun e => isWordB e m) := rfl
  rw [e]
  unfold wD GoodW
  simp only [Bool.and_eq_true, List.all_eq_true, List.length_map, decide_eq_true_eq, List.mem_map, forall_exists_index, and_imp, forall_apply_eq_imp_iff₂, word_iff]
theorem fits_wD {W : List (List Int)} (h1 : W.length < 10000000) (h2 : ∀ w ∈ W, w.length < 10000000) : Fits (.list (wD W)) := by
  refine ⟨by unfold wD; rw [List.length_map]; exact h1, fun e he => ?_⟩
  unfold wD at he
  obtain ⟨w, hw, rfl⟩ := List.mem_map.mp he
  show (w.map PyData.int).length < 10000000
  rw [List.length_map]
  exact h2 w hw
theorem GoodW.fits {W : List (List Int)} {m : Int} (h : GoodW W m) : Fits (.list (wD W)) := fits_wD (by have := h.1; omega) fun w hw => by have := (h.2 w hw).2.1; omega
theorem belowB_int (i n : Int) : belowB (.int i) n = true ↔ 0 ≤ i ∧ i < n := by simp [belowB]
/-- the drawn words are words -/
theorem wordD_ok {dr : List Int} {letters longest first : Int} {k : Nat} (hl : 1 ≤ letters) (hg : 1 ≤ longest) (hf : 0 ≤ first ∧ first < letters) : 1 ≤ (wordD dr letters longest first k).length ∧ (wordD dr letters longest first k).length ≤ longest ∧ ∀ v ∈ wordD dr letters longest first k, 0 ≤ v ∧ v < letters := by
  unfold wordD
  have h1 : 0 ≤ atD dr (3 * k + 1) % longest := Int.emod_nonneg _ (by omega)
  have h2 : atD dr (3 * k + 1) % longest < longest := Int.emod_lt_of_pos _ (by omega)
  refine ⟨by simp, by rw [List.length_cons, List.length_map, List.length_range]; omega, fun v hv => ?_⟩
  rcases List.mem_cons.mp hv with e | e
  · rw [e]; exact hf
  · obtain ⟨j, _, rfl⟩ := List.mem_map.mp e
    exact ⟨Int.emod_nonneg _ (by omega), Int.emod_lt_of_pos _ (by omega)⟩
theorem leftS_mem {dr : List Int} {letters longest : Int} {apart : Bool} (hl : 0 ≤ letters) : ∀ k v, v ∈ (wordsS dr letters longest apart k).1 → 0 ≤ v ∧ v < letters
  | 0, v, h => by
    obtain ⟨j, hj, rfl⟩ := List.mem_map.mp (show v ∈ (List.range letters.toNat).map fun k : Nat => (k : Int) from h)
    have := List.mem_range.mp hj
    exact ⟨by omega, by omega⟩
  | k + 1, v, h => by
    unfold wordsS at h
    cases apart with
    | true => exact leftS_mem hl k v (List.mem_of_mem_eraseIdx h)
    | false => exact leftS_mem hl k v h
theorem wordsS_ok {dr : List Int} {letters longest : Int} {apart : Bool} (hl : 1 ≤ letters) (hg : 1 ≤ longest) (hp : ∀ i, 0 ≤ atD dr i) : ∀ k : Nat, (apart = true → (k : Int) ≤ letters) → ∀ w ∈ (wordsS dr letters longest apart k).2, 1 ≤ w.length ∧ w.length ≤ longest ∧ ∀ v ∈ w, 0 ≤ v ∧ v < letters
  | 0, _ => fun w h => by simp [wordsS] at h
  | k + 1, ha => fun w h => by
    have ih := wordsS_ok (dr := dr) (letters := letters) (longest := longest) (apart := apart) hl hg hp k (fun e => by have := ha e; omega)
    have hlen := leftS_len dr letters longest k hp
    unfold wordsS at h
    cases apart with
    | true =>
      simp only [if_true] at h
      rcases List.mem_append.mp h with e | e
      · exact ih w e
      · rw [List.mem_singleton] at e
        rw [e]
        have hk : (k : Int) + 1 ≤ letters := ha rfl
        have hlen' := hlen (by omega)
        refine wordD_ok hl hg ?_
        have i0 : 0 ≤ atD dr (3 * k) % ((wordsS dr letters longest true k).1.length : Int) := Int.emod_nonneg _ (by omega)
        have i1 : atD dr (3 * k) % ((wordsS dr letters longest true k).1.length : Int) < ((wordsS dr letters longest true k).1.length : Int) := Int.emod_lt_of_pos _ (by omega)
        have i2 : (atD dr (3 * k) % ((wordsS dr letters longest true k).1.length : Int)).toNat < (wordsS dr letters longest true k).1.length := by omega
        have e3 : (wordsS dr letters longest true k).1.getD (atD dr (3 * k) % ((wordsS dr letters longest true k).1.length : Int)).toNat 0 = (wordsS dr letters longest true k).1[(atD dr (3 * k) % ((wordsS dr letters longest true k).1.length : Int)).toNat] := by
          rw [List.getD_eq_getElem?_getD, List.getElem?_eq_getElem i2]; rfl
        rw [e3]
        exact leftS_mem (by omega) k _ (List.getElem_mem i2)
    | false =>
      have h : w ∈ (wordsS dr letters longest false k).2 ++ [wordD dr letters longest (atD dr (3 * k) % (if 1 > letters then 1 else letters)) k] := h
      rcases List.mem_append.mp h with e | e
      · exact ih w e
      · rw [List.mem_singleton] at e
        rw [e]
        have q : (if 1 > letters then 1 else letters) = letters := if_neg (by omega)
        rw [q]
        exact wordD_ok hl hg ⟨Int.emod_nonneg _ (by omega), Int.emod_lt_of_pos _ (by omega)⟩
theorem wordsF_len {dr : List Int} {letters size longest : Int} {apart : Bool} : (wordsF dr letters size longest apart).length = size.toNat := wordsS_len _ _ _ _ _
theorem atD_dr {ds : List Int} (h : ∀ v ∈ ds, Dr v) (k : Nat) : Dr (atD ds k) := by
  unfold atD
  rw [List.getD_eq_getElem?_getD]
  cases e : ds[k]? with
  | none => exact ⟨Int.le_refl 0, by decide⟩
  | some v => exact h v (List.mem_of_getElem? e)
theorem atI_ints {ds : List Int} {k : Nat} (h : k < ds.length) : atI (ds.map PyData.int) (k : Int) = some (.int (atD ds k)) := by
  have e : (ds.map PyData.int)[k]? = some (.int (atD ds k)) := by
    rw [List.getElem?_map, List.getElem?_eq_getElem h]
    unfold atD
    rw [List.getD_eq_getElem?_getD, List.getElem?_eq_getElem h]
    rfl
  exact atI_nat e
/-- ds[:-1] -/
theorem cut_init {α : Type} (ds : List α) (x : α) : cutD (ds ++ [x]) none (some (-1)) = ds := by
  unfold cutD
  have e : HT.sIx (ds ++ [x]).length (ds ++ [x]).length (some (-1)) = ds.length := by
    show (if (-1 : Int) < 0 then ((-1 : Int) + ((ds ++ [x]).length : Int)).toNat else min (-1 : Int).toNat (ds ++ [x]).length) = _
    rw [if_pos (by decide), List.length_append, List.length_singleton]
    omega
  rw [e, HT.sIx_none, List.drop_zero, Nat.sub_zero, List.take_append_of_le_length (Nat.le_refl _), List.take_length]
theorem rep_one {α : Type} (x : α) : ∀ n : Nat, (List.replicate n [x]).flatten = List.replicate n x
  | 0 => rfl
  | n + 1 => by rw [List.replicate_succ, List.flatten_cons, rep_one x n]; rfl
theorem range_getD (ds : List PyData) : ((List.range ds.length).map fun i => ds.getD i .none) = ds := by
  apply List.ext_getElem
  · simp
  · intro i h1 h2
    rw [List.getElem_map, List.getElem_range, List.getD_eq_getElem?_getD, List.getElem?_eq_getElem h2]
    rfl
section
variable {K : PySem.W.Frag} {G : Gm} {ta tb : TE} {x y : Str}
theorem sv_neS (ha : Sv ta G (isD (.str x))) (hb : Sv tb G (isD (.str y))) (h1 : PyData.strOk x = true) (h2 : PyData.strOk y = true) : Sv (tOp (rNeD K) ta tb) G (isD (.bool (!(x == y)))) := by
  have s : ∀ z, PyData.strOk z = true → SeqAt.shaped (.str z) = true := fun z h => by
    unfold SeqAt.shaped
    rw [Bool.and_eq_true]
    exact ⟨by rw [PyData.canLay0]; exact h, by rw [PyData.depth]; rfl⟩
  refine sv_is (sv_ne ha hb (s x h1) (s y h2)) ?_
  rw [PyData.eqv]
/-- draws[k] -/
theorem sv_dr {D : List Int} {n : Nat} {k : Nat} (h : G[n]? = some (.im (isD (.list (D.map .int))))) (hk : k < D.length) : Sv (tCB cInt (tCons (tOp (rIx K) (tVar n) (tC (.int (k : Int)))) tNil)) G (isD (.int (atD D k))) :=
  sv_int1 (sv_ixL (rl_sv (sv_var h)) sv_int (atI_ints hk))
end
end Mini
namespace Mini
open PySem L2 Evl
theorem neI (a : List Int) : (!PyData.eqv (.list (a.map .int)) (.list (a.map .int))) = false := by rw [eqv_ints]; simp
theorem neW (a : List (List Int)) : (!PyData.eqv (.list (wD a)) (.list (wD a))) = false := by rw [eqv_wD]; simp
theorem areW_bad {X : List PyData} {e : PyData} {n : Int} (h : isWordB e n = false) : areWordsB (.list (X ++ [e])) n = false := by
  show (decide ((X ++ [e]).length ≤ 60) && (X ++ [e]).all fun e => isWordB e n) = false
  rw [List.all_append]
  simp [h]
theorem fits_add {X : List PyData} {e : PyData} (h : Fits (.list X)) (hn : X.length < 9999999) (he : Fit e) : Fits (.list (X ++ [e])) := by
  refine ⟨by rw [List.length_append, List.length_singleton]; omega, fun x hx => ?_⟩
  rcases List.mem_append.mp hx with q | q
  · exact h.2 x q
  · rw [List.mem_singleton] at q; rw [q]; exact he
theorem wD_take (W : List (List Int)) (n : Nat) : (wD W).take n = wD (W.take n) := by unfold wD; rw [List.map_take]
theorem wD_get {W : List (List Int)} {j : Nat} (h : j < W.length) : (wD W)[j]? = some (.tuple ((W.getD j []).map .int)) := by
  unfold wD
  rw [List.getElem?_map, List.getElem?_eq_getElem h, List.getD_eq_getElem?_getD, List.getElem?_eq_getElem h]
  rfl
theorem wD_set (W : List (List Int)) (j : Nat) (w : List Int) : (wD W).set j (.tuple (w.map .int)) = wD (W.set j w) := by unfold wD; rw [List.map_set]
theorem set_ne {W : List (List Int)} {j : Nat} (h : j < W.length) (v : Int) : W ≠ W.set j (W.getD j [] ++ [v]) := fun e => by
  have h1 : (W.set j (W.getD j [] ++ [v]))[j]? = some (W.getD j [] ++ [v]) := List.getElem?_set_self h
  rw [← e, List.getElem?_eq_getElem h, List.getD_eq_getElem?_getD, List.getElem?_eq_getElem h] at h1
  have h2 := congrArg List.length (Option.some.inj h1)
  simp at h2
theorem GoodW.set {W : List (List Int)} {m : Int} {j : Nat} (h : GoodW W m) (hj : j < W.length) (hm : 0 < m) (hl : (W.getD j []).length + 1 ≤ 5000) : GoodW (W.set j (W.getD j [] ++ [0])) m := by
  refine ⟨by rw [List.length_set]; exact h.1, fun w hw => ?_⟩
  rcases List.mem_or_eq_of_mem_set hw with q | q
  · exact h.2 w q
  · rw [q, List.length_append, List.length_singleton]
    have hmem : W.getD j [] ∈ W := by rw [List.getD_eq_getElem?_getD, List.getElem?_eq_getElem hj]; exact List.getElem_mem hj
    refine ⟨by omega, by omega, fun v hv => ?_⟩
    rcases List.mem_append.mp hv with q | q
    · exact (h.2 _ hmem).2.2 v q
    · rw [List.mem_singleton] at q; rw [q]; exact ⟨Int.le_refl 0, hm⟩
theorem GoodW.more {W : List (List Int)} {m : Int} (h : GoodW W m) : GoodW W (m + 1) := ⟨h.1, fun w hw => ⟨(h.2 w hw).1, (h.2 w hw).2.1, fun v hv => by have := (h.2 w hw).2.2 v hv; omega⟩⟩
theorem ixN_of {n j : Nat} {i : Int} (h : i = (j : Int)) (hj : j < n) : ixN n i = some j := by rw [h]; exact ixN_nat hj
end Mini

namespace Mini
open PySem L2 Evl PyProof.Rows

/-! ### sets of ints: what they are for is their length -/
/-- the different ones, in their first order -/
def dl (ns : List Int) : List Int := ns.foldl (fun acc x => if acc.any (fun y => y == x) = true then acc else acc ++ [x]) []
theorem dl_snoc (ns : List Int) (x : Int) : dl (ns ++ [x]) = if (dl ns).any (fun y => y == x) = true then dl ns else dl ns ++ [x] := by
  unfold dl; rw [List.foldl_append]; rfl
theorem dl_le : ∀ (ns : List Int), (dl ns).length ≤ ns.length := fun ns => by
  suffices h : ∀ (l acc : List Int), (l.foldl (fun acc x => if acc.any (fun y => y == x) = true then acc else acc ++ [x]) acc).length ≤ acc.length + l.length by
    have := h ns []; simp only [List.length_nil, Nat.zero_add] at this; exact this
  intro l
  induction l with
  | nil => intro acc; simp
  | cons a l ih =>
    intro acc
    rw [List.foldl_cons]
    split
    · have := ih acc; rw [List.length_cons]; omega
    · have := ih (acc ++ [a]); rw [List.length_append, List.length_singleton] at this; rw [List.length_cons]; omega
theorem firstMet_dl (ns : List Int) : firstMet (fun i => ns.getD i 0) ns.length = dl ns := by
  have e : (List.range ns.length).map (fun i => ns.getD i 0) = ns := by
    apply List.ext_getElem
    · simp
    · intro i h1 h2; simp [List.getD_eq_getElem?_getD, List.getElem?_eq_getElem h2]
  unfold firstMet
  rw [e]
  rfl
theorem addI_ok {X : Cx} {pins : List (Addr × Obj)} {σ : L2.St} {H : Hp} {s : Shared} {E : Value → Shared → Prop} {D : Addr} {S : Int → Bool} {n : Nat} {y : Int} {tk : Tok} {Q : Value → Shared → Prop} (I : L2.Inv X pins σ H s) (hD : H D = some (SetO X.w D S n)) (hz : n + 1 < scanBound)
    (k : ∀ s', L2.Inv X pins σ (upd H D (SetO X.w D (fun j => S j || decide (j = y)) (if S y = true then n else n + 1))) s' → Q .none s') : wpAny (model X.prog X.w) X.A (call (.builtin "set.add") [.ref D, .int y tk]) Q E s := by
  refine setR_add (setO_get I hD) hz fun h' sb hR => k _ ?_
  have ho : ∃ u, h'.get? D = some u := by
    obtain ⟨o, _, _, _, ho, _⟩ := hR
    exact ⟨o, ho⟩
  exact I.write (by rw [hD]; exact trivial) (.inl rfl) (fun b u ne e => (sb.2 b ne).trans e) ho (setO_new hR)

def tScI (w : World) (wi : TI) (g : TG) (tt : TT) (te : TE) (vs : List Nat) : TE := fun σ H Q => wi σ H fun J H1 => ∀ D, H1 D = none → ∃ W : Nat → Nat → Hp → Prop,
  (∃ m, W 0 m (upd H1 D (SetO w D (fun _ => false) 0))) ∧ ∀ i m H, W i m H → (J.stop i H ∧ Q (.ref D) H) ∨ (J.go i H ∧ ∃ Nx : Hp → Prop, (∀ H', Nx H' → ∃ m', m' < m ∧ W (i + 1) m' H') ∧ ∀ x H', J.yld i H x H' →
    g x (L2.wipe σ vs) H' fun σ2 H2 => L2.wipe σ2 vs = L2.wipe σ vs ∧ tt σ2 H2 fun b H3 => if b = true then te σ2 H3 fun y H4 => ∃ (c : Int) (S : Int → Bool) (n : Nat), y = .int c ∧ H4 D = some (SetO w D S n) ∧ n + 1 < scanBound ∧
      Nx (upd H4 D (SetO w D (fun j => S j || decide (j = c)) (if S c = true then n else n + 1))) else Nx H3)

theorem pe_scI {X : Cx} {elt tg iter : Expr} {ifs : List Expr} {scope : Scope} {own : List (Str × Nat)} {pos : Pos} {wi : TI} {g : TG} {tt : TT} {te : TE} (hc : X.calm = true) (hN : X.N.Nodup) (hi : PI X tg iter wi) (ok : BlkOk X.N X.env.scope scope own)
    (hg : ∀ (s : Shared) (H : Hp) (C : Addr) (cl : List (Str × Addr)) (fp : List Addr), PG (X.blk s H scope (compEnvC scope cl C X.env) fp) tg g)
    (ht : ∀ (s : Shared) (H : Hp) (C : Addr) (cl : List (Str × Addr)) (fp : List Addr), PTs (X.blk s H scope (compEnvC scope cl C X.env) fp) ifs tt)
    (he : ∀ (s : Shared) (H : Hp) (C : Addr) (cl : List (Str × Addr)) (fp : List Addr), PE (X.blk s H scope (compEnvC scope cl C X.env) fp) elt te)
    (hs : ∀ x, foldedSetIterable iter X.env x = pure x := by exact fun _ => rfl) : PE X (.SetComp elt [⟨tg, iter, ifs, 0⟩] scope pos) (tScI X.w wi g tt te (own.map (·.2))) := by
  refine ⟨fun pins s σ H Q I h => ?_⟩
  rw [PpSet.eval_SetComp]
  have hfree : ∀ y ∈ scope.names, y.2 = .free → ∃ c, X.env.cells.lookup y.1 = some c := fun y hy e => by
    rcases ok.free y hy e with k | k
    · exact I.ok.has y.1 (.inl k)
    · exact I.ok.has y.1 (.inr k)
  refine wpAny_comprehension_free rfl hs (closure_ok hfree) ok.kind (fun y hy e => by rw [ok.uniq y hy, e]) ?_
  refine thn (hi.run pins s σ H _ I h) fun xv s1 hx => thn hx fun itv s2 h2 => ?_
  obtain ⟨it, fp, tn, J, H2, rfl, I2, T, st2, f2, q⟩ := h2
  refine PpSet.newSet_ok (newEnv_comp ?_)
  have hDn : H2 s2.heap.objs.size = none := I2.hok.fresh (Nat.le_refl _)
  obtain ⟨W, ⟨m0, w0⟩, turn⟩ := q _ hDn
  have I3 := I2.laid (t' := s2.toks) (h' := s2.heap.push { cls := Value.type "set", data := Data.set #[] 0 (SetTable.fresh 0 0 !X.w.params.followText "set-order") }) (fun b o e => Heap.get?_push_of_some _ e) (Nat.le_refl _) (setO_new (P := X.prog) (H := upd H2 s2.heap.objs.size (SetO X.w s2.heap.objs.size (fun _ => false) 0)) (setR_fresh X.w))
  have sz : ∀ b ∈ fp, b < s2.heap.objs.size := fun b hb => by
    obtain ⟨o, e, _⟩ := T.obj 0 s2.heap st2 b hb
    exact Heap.lt_size e
  generalize hh3 : s2.heap.push { cls := Value.type "set", data := Data.set #[] 0 (SetTable.fresh 0 0 !X.w.params.followText "set-order") } = h3 at I3 ⊢
  have hk3 : ∀ b o, s2.heap.get? b = some o → h3.get? b = some o := fun b o e => by rw [← hh3]; exact Heap.get?_push_of_some _ e
  have hsz : h3.objs.size = s2.heap.objs.size + 1 := by rw [← hh3]; exact Heap.size_push _ _
  have f3 : ∀ b ∈ fp, FpOk X pins (upd H2 s2.heap.objs.size (SetO X.w s2.heap.objs.size (fun _ => false) 0)) b ∧ b < h3.objs.size := fun b hb => by
    have hlt := sz b hb
    obtain ⟨z1, z2⟩ := f2 b hb
    exact ⟨⟨by rw [upd_ne (Nat.ne_of_lt hlt)]; exact z1, z2⟩, by rw [hsz]; exact Nat.lt_succ_of_lt hlt⟩
  have st3 := T.keep 0 s2.heap h3 st2 fun b _ o e => hk3 b o e
  have I4 := block_start I3 ok hN f3
  have nfp : ∀ b ∈ fp, upd H2 s2.heap.objs.size (SetO X.w s2.heap.objs.size (fun _ => false) 0) b = none := fun b hb => (f3 b hb).1.1
  generalize upd H2 s2.heap.objs.size (SetO X.w s2.heap.objs.size (fun _ => false) 0) = H3 at I3 f3 I4 nfp w0
  generalize s2.heap.objs.size = D at turn ⊢
  have pg := hg ⟨h3, s2.gens, s2.drawn, s2.toks, s2.os⟩ H3 h3.objs.size (cellsFrom (h3.objs.size + 1) scope.names (cloFrom X.env.cells scope.names [])) fp
  have pt := ht ⟨h3, s2.gens, s2.drawn, s2.toks, s2.os⟩ H3 h3.objs.size (cellsFrom (h3.objs.size + 1) scope.names (cloFrom X.env.cells scope.names [])) fp
  have pe := he ⟨h3, s2.gens, s2.drawn, s2.toks, s2.os⟩ H3 h3.objs.size (cellsFrom (h3.objs.size + 1) scope.names (cloFrom X.env.cells scope.names [])) fp
  have st4 : tn 0 (pushCells (h3.push { cls := Value.type "dict", data := Data.dict #[] }) scope.names) := T.keep 0 h3 _ st3 fun b _ o e => pushCells_keeps _ _ _ _ (Heap.get?_push_of_some _ e)
  refine (fun loop => PpSet.codeAny_compStart_set loop (T.self X.A 0 _ _ _ st4 loop)) ?_
  refine PpSet.compLoopS_any (fun n s' => ∃ i H', L2.Inv (X.blk ⟨h3, s2.gens, s2.drawn, s2.toks, s2.os⟩ H3 scope (compEnvC scope (cellsFrom (h3.objs.size + 1) scope.names (cloFrom X.env.cells scope.names [])) h3.objs.size X.env) fp) [] (L2.wipe σ (own.map (·.2))) H' s' ∧ tn i s'.heap ∧ (∀ b ∈ fp, H' b = none) ∧ W i n H') (fun n s5 a => ?_) m0 ⟨0, H3, I4, st4, nfp, w0⟩
  obtain ⟨i, H5, I5, st5, n5, w5⟩ := a
  have stat : ∀ {σ' : L2.St} {H' : Hp} {s' : Shared}, L2.Inv (X.blk ⟨h3, s2.gens, s2.drawn, s2.toks, s2.os⟩ H3 scope (compEnvC scope (cellsFrom (h3.objs.size + 1) scope.names (cloFrom X.env.cells scope.names [])) h3.objs.size X.env) fp) [] σ' H' s' → (∀ b ∈ fp, H' b = none) → ∀ b ∈ fp, FpOk (X.blk ⟨h3, s2.gens, s2.drawn, s2.toks, s2.os⟩ H3 scope (compEnvC scope (cellsFrom (h3.objs.size + 1) scope.names (cloFrom X.env.cells scope.names [])) h3.objs.size X.env) fp) [] H' b := fun I' hn b hb =>
    ⟨hn b hb, (I'.ok.exf b hb).1, I'.ok.exfs b hb, .inl hb, fun x c e => (I'.ok.exf b hb).2 x c e, fun p hp => absurd (show p ∈ ([] : List (Addr × Obj)) ++ [] from hp) (by simp)⟩
  rcases turn i n H5 w5 with ⟨stop, qq⟩ | ⟨go, Nx, hNx, step⟩
  · refine thnF (T.done (X.blk ⟨h3, s2.gens, s2.drawn, s2.toks, s2.os⟩ H3 scope (compEnvC scope (cellsFrom (h3.objs.size + 1) scope.names (cloFrom X.env.cells scope.names [])) h3.objs.size X.env) fp) rfl rfl rfl hc i [] s5 _ H5 _ I5 (stat I5 n5) st5 stop) fun r s6 hr => ?_
    obtain ⟨rfl, I6⟩ := hr
    have I7 := Inv.call' I3 I6.os I6.base I6.hok I6.bare fun b hb => ⟨(f3 b hb).1.2.2.2.1, (f3 b hb).1.2.1, (f3 b hb).1.2.2.2.2.1, (f3 b hb).1.2.2.2.2.2⟩
    obtain ⟨m, hn, _⟩ := I6.loc
    have f := Inv.fpOk I3 (Nat.le_refl h3.objs.size) (show H5 h3.objs.size = none from I6.free)
    refine ⟨m, hn, fun h'' sb => ⟨.ref D, H5, Inv.turned I7 (fun b o hb e => (sb.2 b hb).trans e) f.1 f.2.1 f.2.2.2.1 f.2.2.2.2.1 f.2.2.2.2.2, rfl, qq⟩⟩
  · refine thnF (T.item (X.blk ⟨h3, s2.gens, s2.drawn, s2.toks, s2.os⟩ H3 scope (compEnvC scope (cellsFrom (h3.objs.size + 1) scope.names (cloFrom X.env.cells scope.names [])) h3.objs.size X.env) fp) rfl rfl rfl hc i [] s5 _ H5 _ I5 (stat I5 n5) st5 go) fun r s6 hr => ?_
    obtain ⟨u, rfl, h6⟩ := hr
    refine thnF h6 fun _ s7 h7 => ?_
    obtain ⟨x, H7, I7, r7, y7, st7, n7⟩ := h7
    have I7' := Inv.pinned I7 (stat I7 n7) (T.obj (i + 1) s7.heap st7)
    refine thnF (pg.run ([] ++ pinsAt fp s7.heap) s7 _ H7 x u _ I7' r7 (step x H7 y7)) fun _ s8 h8 => ?_
    obtain ⟨σ8, H8, I8, hw8, q8⟩ := h8
    refine thnF (pt.run ([] ++ pinsAt fp s7.heap) s8 σ8 H8 _ I8 q8) fun b s9 h9 => ?_
    obtain ⟨H9, I9, q9⟩ := h9
    have fin : ∀ {s' : Shared} {H' : Hp}, L2.Inv (X.blk ⟨h3, s2.gens, s2.drawn, s2.toks, s2.os⟩ H3 scope (compEnvC scope (cellsFrom (h3.objs.size + 1) scope.names (cloFrom X.env.cells scope.names [])) h3.objs.size X.env) fp) ([] ++ pinsAt fp s7.heap) σ8 H' s' → Nx H' → ∃ m', m' < n ∧ ∃ i H', L2.Inv (X.blk ⟨h3, s2.gens, s2.drawn, s2.toks, s2.os⟩ H3 scope (compEnvC scope (cellsFrom (h3.objs.size + 1) scope.names (cloFrom X.env.cells scope.names [])) h3.objs.size X.env) fp) [] (L2.wipe σ (own.map (·.2))) H' s' ∧ tn i s'.heap ∧ (∀ b ∈ fp, H' b = none) ∧ W i m' H' := fun {s' H'} I' nx => by
      obtain ⟨m', hm, w'⟩ := hNx H' nx
      have pin' : ∀ b ∈ fp, ∀ o, s7.heap.get? b = some o → s'.heap.get? b = some o ∧ H' b = none := fun b hb o e => by
        have z := I'.pin (b, o) (List.mem_append_right _ (List.mem_append_right _ (mem_pinsAt hb e)))
        exact ⟨z.1, z.2.1⟩
      refine ⟨m', hm, i + 1, H', Inv.weak (Inv.unpinned I') (by rw [← hw8]; exact wipe_length _ _) (fun j v e => (wipe_some (by rw [← hw8] at e; exact e)).1), T.keep (i + 1) s7.heap s'.heap st7 fun b hb o e => (pin' b hb o e).1, fun b hb => ?_, w'⟩
      obtain ⟨o, e, _⟩ := T.obj (i + 1) s7.heap st7 b hb
      exact (pin' b hb o e).2
    cases b with
    | false =>
      rw [if_neg Bool.false_ne_true] at q9 ⊢
      exact fin I9 q9
    | true =>
      rw [if_pos rfl] at q9 ⊢
      refine thnF (pe.run ([] ++ pinsAt fp s7.heap) s9 σ8 H9 _ I9 q9) fun v s10 h10 => ?_
      obtain ⟨y, H10, I10, r10, c, S, k, rfl, hD10, hz10, nx⟩ := h10
      obtain ⟨tk, rfl⟩ := r10
      exact addI_ok (X := X.blk ⟨h3, s2.gens, s2.drawn, s2.toks, s2.os⟩ H3 scope (compEnvC scope (cellsFrom (h3.objs.size + 1) scope.names (cloFrom X.env.cells scope.names [])) h3.objs.size X.env) fp) I10 hD10 hz10 fun s11 I11 => fin I11 nx

/-- len of a set of ints -/
def rLenSO (w : World) : List V → Hp → VK → Prop := fun xs H Q => ∃ a S n, xs = [.ref a] ∧ H a = some (SetO w a S n) ∧ Q (.int (n : Nat)) H
theorem call_lenSO {X : Cx} : CallR X (.builtin "len") (rLenSO X.w) := fun pins s σ H xs us Q I r h => by
  obtain ⟨a, S, n, rfl, hD, q⟩ := h
  cases r with
  | cons r1 r2 =>
    cases r2
    cases (show _ = Value.ref a from r1)
    obtain ⟨o, es, ep, t, ho, hx, hd, _, _, _, hb, hf, hn, _⟩ := setO_get I hD
    refine call_len_set ho hx hd hf (by have : scanBound = 4096 := rfl; omega) ?_
    exact ⟨.int (n : Nat), H, I.tok _, ⟨_, by rw [← hn]⟩, q⟩
/-- len(set(xs)) -/
def tLenSetG (K : PySem.W.Frag) (ta : TE) : TE := fun σ H Q => ta σ H fun x H1 => ∃ (l : Addr) (ns : List Int), x = .ref l ∧ SqL K H1 l (ns.map V.int) ∧ ns.length < 4000 ∧ Q (.int (dl ns).length) H1
theorem pe_lenSetG {X : Cx} {a : Expr} {ta : TE} {p p2 q pos : Pos} (hm : X.mg "len" = none) (hm2 : X.mg "set" = none) (ha : PE X a ta) (hc : X.calm = true) (hg : Gl X "len" := by rfl) (hg2 : Gl X "set" := by rfl) (hst : starEach [a] X.env = (false, eval a X.env) :: starEach [] X.env := by rfl) :
    PE X (.Call (.Name "len" p) [.Call (.Name "set" p2) [a] [] q] [] pos) (tLenSetG X.K ta) := by
  refine ⟨fun pins s σ H Q I h => ?_⟩
  refine Call_ (ld_blt I hg hm boot_len (callWith_builtin1 (args_cons (Call_ (ld_blt I hg2 hm2 boot_set (callWith_type1 (args_cons (thn (ha.run pins s σ H _ I h) fun v s1 hh => args_nil ?_) hst) hst))))))
  obtain ⟨x, H1, I1, r1, l, ns, rfl, hq, hl, q1⟩ := hh
  obtain rfl : v = Value.ref l := r1
  obtain ⟨its, r, pl, _⟩ := I1.list hq
  have hlen : its.toArray.size = ns.length := by rw [List.size_toArray, ← r.length, List.length_map]
  refine call_set_list (I1.ok.hd hc) pl.isList (RZ.intsAre_vals r) (by rw [hlen]; have : scanBound = 4096 := rfl; omega) fun h' tk hS hk => args_nil ?_
  rw [hlen, firstMet_dl] at hS
  obtain ⟨o, es, ep, t, ho, hx, hd, _, _, hb, hf, hn⟩ := hS
  refine call_len_set ho hx hd hf (by have : scanBound = 4096 := rfl; omega) ?_
  refine ⟨.int (dl ns).length, H1, I1.kept fun b u e => hk b u (Heap.lt_size e) e, ⟨_, by rw [← hn]⟩, q1⟩

theorem scI_list {w : World} {K : PySem.W.Frag} {a : Addr} {xs : List V} {g : TG} {tt : TT} {te : TE} {vs : List Nat} {σ : L2.St} {H1 : Hp} {D : Addr} {Qd : Hp → Prop} (Pv : Nat → Hp → Prop) (h0 : Pv 0 (upd H1 D (SetO w D (fun _ => false) 0)))
    (hl : ∀ i H, i ≤ xs.length → Pv i H → SqL K H a xs)
    (hs : ∀ i x H, xs[i]? = some x → Pv i H → g x (L2.wipe σ vs) H fun σ2 H2 => L2.wipe σ2 vs = L2.wipe σ vs ∧ tt σ2 H2 fun b H3 => if b = true then te σ2 H3 fun y H4 => ∃ (c : Int) (S : Int → Bool) (n : Nat), y = .int c ∧ H4 D = some (SetO w D S n) ∧ n + 1 < scanBound ∧
      Pv (i + 1) (upd H4 D (SetO w D (fun j => S j || decide (j = c)) (if S c = true then n else n + 1))) else Pv (i + 1) H3)
    (he : ∀ H, Pv xs.length H → Qd H) : ∃ W : Nat → Nat → Hp → Prop, (∃ m, W 0 m (upd H1 D (SetO w D (fun _ => false) 0))) ∧ ∀ i m H, W i m H → ((Itl K a).stop i H ∧ Qd H) ∨ ((Itl K a).go i H ∧ ∃ Nx : Hp → Prop, (∀ H', Nx H' → ∃ m', m' < m ∧ W (i + 1) m' H') ∧ ∀ x H', (Itl K a).yld i H x H' →
    g x (L2.wipe σ vs) H' fun σ2 H2 => L2.wipe σ2 vs = L2.wipe σ vs ∧ tt σ2 H2 fun b H3 => if b = true then te σ2 H3 fun y H4 => ∃ (c : Int) (S : Int → Bool) (n : Nat), y = .int c ∧ H4 D = some (SetO w D S n) ∧ n + 1 < scanBound ∧
      Nx (upd H4 D (SetO w D (fun j => S j || decide (j = c)) (if S c = true then n else n + 1))) else Nx H3) := by
  refine ⟨fun i m H => i ≤ xs.length ∧ m = xs.length - i ∧ Pv i H, ⟨xs.length, Nat.zero_le _, rfl, h0⟩, fun i m H hW => ?_⟩
  obtain ⟨hi, rfl, hP⟩ := hW
  have hL := hl i H hi hP
  by_cases z : i < xs.length
  · refine .inr ⟨⟨xs, xs[i], hL, List.getElem?_eq_getElem z⟩, Pv (i + 1), fun H' p => ⟨xs.length - (i + 1), by omega, by omega, rfl, p⟩, fun x H' hy => ?_⟩
    obtain ⟨rfl, hx⟩ := hy
    exact hs i x _ (hx xs hL) hP
  · have e : i = xs.length := by omega
    subst e
    exact .inl ⟨⟨xs, hL, Nat.le_refl _⟩, he H hP⟩
theorem dl_any (l : List Int) (c : Int) : (l.any fun y => y == c) = decide (c ∈ l) := by
  rw [Bool.eq_iff_iff, List.any_eq_true, decide_eq_true_iff]
  constructor
  · rintro ⟨y, h, e⟩
    rw [beq_iff_eq] at e
    exact e ▸ h
  · exact fun h => ⟨c, h, beq_self_eq_true c⟩
def setL (w : World) (D : Addr) (l : List Int) : HO := SetO w D (fun j => decide (j ∈ dl l)) (dl l).length
theorem setL_snoc {w : World} {D : Addr} {l : List Int} {c : Int} : SetO w D (fun j => decide (j ∈ dl l) || decide (j = c)) (if decide (c ∈ dl l) = true then (dl l).length else (dl l).length + 1) = setL w D (l ++ [c]) := by
  unfold setL
  rw [dl_snoc, dl_any]
  by_cases h : c ∈ dl l
  · rw [decide_eq_true h, if_pos rfl, if_pos rfl]
    have : (fun j => decide (j ∈ dl l) || decide (j = c)) = fun j => decide (j ∈ dl l) := by
      funext j
      by_cases e : j = c
      · rw [e, decide_eq_true h]; rfl
      · rw [decide_eq_false e, Bool.or_false]
    rw [this]
  · rw [decide_eq_false h, if_neg Bool.false_ne_true, if_neg Bool.false_ne_true]
    have : (fun j => decide (j ∈ dl l) || decide (j = c)) = fun j => decide (j ∈ dl l ++ [c]) := by
      funext j
      rw [Bool.eq_iff_iff]
      simp
    rw [this, List.length_append, List.length_singleton]
section
variable {K : PySem.W.Frag} {w : World} {G : Gm} {te tl ta : TE} {j : Nat} {ds : List PyData}
theorem sv_lenSetG {ns : List Int} (ha : Rl ta G (ns.map PyData.int)) (hz : ns.length < 4000) : Sv (tLenSetG K ta) G (isD (.int ((dl ns).length : Nat))) := fun M0 σ B M H Q q => ha M0 σ B M H _ fun a vs B1 e1 d1 hh q1 =>
  ⟨a, ns, rfl, by rw [← DqAll_ints q1]; exact sq_of hh, hz, q _ B1 e1 d1 (.int _)⟩
theorem sv_lenSc (h : Rl tl G ds) (g : PyData → Int) (hj : j < G.length) (hz : ds.length < 4000) (he : ∀ d, d ∈ ds → Sv te (Gv G j d) (isD (.int (g d)))) : Sv (tCB (rLenSO w) (tCons (tScI w (iList K tl) (gName j) tYes te [j]) tNil)) G (isD (.int ((dl (ds.map g)).length : Nat))) := fun M0 σ B M H Q q => h M0 σ B M H _ fun a vs B1 e1 d1 hh q1 => by
  have hlen := DqAll_len q1
  refine ⟨a, rfl, ⟨vs, sq_of hh⟩, fun D hD => ?_⟩
  have hM := (jn_free hD).2
  refine scI_list (xs := vs) (fun i H => ∃ B', H = jn B' (upd M D (setL w D ((ds.take i).map g))) ∧ Ex B1 B' ∧ Dj B' (upd M D (setL w D ((ds.take i).map g)))) ⟨B1, ?_, Ex.refl B1, ?_⟩ (fun i H' _ p => ?_) (fun i x H' hx p => ?_) (fun H' p => ?_)
  · show upd (jn B1 M) D _ = jn B1 (upd M D _)
    rw [← upd_own]
    rfl
  · exact dj_own d1 (jn_free hD).1
  · obtain ⟨B', rfl, e, dj⟩ := p
    refine sq_of ?_
    have hne : a ≠ D := fun z => by rw [z, hD] at hh; cases hh
    unfold jn at hh ⊢
    rw [upd_ne hne]
    cases z : M a with
    | some u => rw [z] at hh; exact hh
    | none => rw [z] at hh; exact e _ _ hh
  · obtain ⟨B', rfl, e, dj⟩ := p
    obtain ⟨d, hd, px⟩ := DqAll_getV q1 hx
    have hi := (List.getElem?_eq_some_iff.mp hd).1
    refine ⟨wipe_one σ j x, ?_⟩
    have hB' : B' D = none := dj_free dj upd_same
    have djM : Dj B' M := fun b u z => by
      have := dj b u z
      by_cases y : b = D
      · rw [y]; exact hM
      · rw [upd_ne y] at this; exact this
    have H2 : Holds M0 (Gv G j d) ((L2.wipe σ [j]).set j (some x)) B' (upd M D (setL w D ((ds.take i).map g))) := by
      have h1 := (((H.ext e1 d1).ext e djM).wipes [j]).more (p := D) (o := setL w D ((ds.take i).map g)) (show jn B' M D = none by rw [jn_N hM]; exact hB')
      exact h1.setIm (by show j < (G.set j .no).length; rw [List.length_set]; exact hj) (Dq_ex e d x px)
    refine st_yes M0 _ _ _ H2 _ fun B3 e3 d3 => ?_
    rw [if_pos rfl]
    refine he d (List.mem_of_getElem? hd) M0 _ _ _ (H2.ext e3 d3) _ fun v B4 e4 d4 p4 => ?_
    refine ⟨g d, fun j => decide (j ∈ dl ((ds.take i).map g)), (dl ((ds.take i).map g)).length, dp_int p4, jn_M upd_same, ?_, ?_⟩
    · have := dl_le ((ds.take i).map g)
      rw [List.length_map, List.length_take] at this
      have : scanBound = 4096 := rfl
      omega
    · have es : (ds.take (i + 1)).map g = (ds.take i).map g ++ [g d] := by rw [List.take_succ, hd, List.map_append]; rfl
      refine ⟨B4, ?_, (e.trans e3).trans e4, ?_⟩
      · rw [upd_own, upd_upd, setL_snoc, es]
      · intro b u z
        have := d4 b u z
        by_cases y : b = D
        · rw [y, upd_same] at this; cases this
        · rw [upd_ne y] at this ⊢; exact this
  · obtain ⟨B', rfl, e, dj⟩ := p
    rw [hlen, List.take_length] at *
    have hB' : B' D = none := dj_free dj upd_same
    refine ⟨D, _, _, rfl, jn_M upd_same, ?_⟩
    rw [jn_push hM]
    exact q _ _ ((e1.trans e).trans (ex_new (M := M) (by rw [jn_N hM]; exact hB'))) (dj_push dj hM) (.int _)
end
end Mini

namespace Mini
open PySem L2 Evl PyProof.Rows

/-! ### t[::-1] of a tuple -/
theorem rev_places (n : Nat) : Builtin.Slice.slicePlaces ((n : Int) - 1) (-1) (-1) = n := by
  unfold Builtin.Slice.slicePlaces
  rw [if_neg (by omega)]
  by_cases h : (n : Int) - 1 > -1
  · rw [if_pos h]
    have : ((n : Int) - 1 - -1 - 1) / - -1 + 1 = n := by rw [Int.neg_neg, Int.ediv_one]; omega
    rw [this]; rfl
  · rw [if_neg h]; omega
theorem sliceApplied_rev {prog : Program} {w : World} {A : Around} {E : Value → Shared → Prop} {s : Shared} {sl : Addr} {st : Value} {n : Nat} {Q : Int × Int × Nat → Shared → Prop} (hs : s.heap.IsSliceOf sl .none .none st) (hp : IsPart st (some (-1))) (q : Q ((n : Int) - 1, -1, n) s) :
    wpAny (model prog w) A (Builtin.Slice.sliceApplied (.ref sl) (pure (n : Int))) Q E s := by
  obtain ⟨o, h1, _, h2⟩ := hs
  unfold Builtin.Slice.sliceApplied Builtin.Slice.sliceFields
  refine wpAny_bind (wpAny_bind (wpAny_field (i := 0) h1 h2 rfl (wpAny_bind (wpAny_field (i := 1) h1 h2 rfl (wpAny_bind (wpAny_field (i := 2) h1 h2 rfl (wpAny_pure ?_)))))))
  refine wpAny_bind (HT.slicePart_ hp ?_)
  rw [if_neg (by decide)]
  refine wpAny_bind (slicePart_none (wpAny_bind (slicePart_none (wpAny_bind (wpAny_pure (wpAny_pure ?_))))))
  have e : Builtin.Slice.sliceAdjust none none (-1) (n : Int) = ((n : Int) - 1, -1) := rfl
  show Q ((n : Int) - 1, -1, Builtin.Slice.slicePlaces ((n : Int) - 1) (-1) (-1)) s
  rw [rev_places]
  exact q
theorem rev_pick (xs : List Value) : (List.range xs.length).filterMap (fun k : Nat => xs.toArray[(((xs.length : Nat) : Int) - 1 + (k : Int) * (-1)).toNat]?) = xs.reverse := by
  have h : ∀ k ∈ List.range xs.length, (fun k : Nat => xs.toArray[(((xs.length : Nat) : Int) - 1 + (k : Int) * (-1)).toNat]?) k = some (xs.reverse.getD k .none) := fun k hk => by
    have hk := List.mem_range.mp hk
    have e : (((xs.length : Nat) : Int) - 1 + (k : Int) * (-1)).toNat = xs.length - 1 - k := by omega
    show xs.toArray[_]? = _
    rw [e, List.getElem?_toArray, List.getD_eq_getElem?_getD, List.getElem?_reverse hk, List.getElem?_eq_getElem (by omega)]
    rfl
  have f : ∀ (l : List Nat), (∀ k ∈ l, xs.toArray[(((xs.length : Nat) : Int) - 1 + ((k : Nat) : Int) * (-1)).toNat]? = some (xs.reverse.getD k .none)) → l.filterMap (fun k : Nat => xs.toArray[(((xs.length : Nat) : Int) - 1 + (k : Int) * (-1)).toNat]?) = l.map fun k => xs.reverse.getD k .none := by
    intro l
    induction l with
    | nil => intro _; rfl
    | cons a l ih => intro g; rw [List.filterMap_cons, g a List.mem_cons_self, List.map_cons, ih fun k hk => g k (List.mem_cons_of_mem _ hk)]
  rw [f _ h]
  apply List.ext_getElem
  · simp
  · intro i h1 h2
    simp [List.getD_eq_getElem?_getD, List.getElem?_eq_getElem h2]
theorem getItem_tup_rev {prog : Program} {w : World} {A : Around} {E : Value → Shared → Prop} {s : Shared} {t sl : Addr} {xs : List Value} {st : Value} {Q : Value → Shared → Prop} (ht : IsTup s.heap t xs.toArray) (hs : s.heap.IsSliceOf sl .none .none st) (hp : IsPart st (some (-1)))
    (q : Q (.ref s.heap.objs.size) ⟨s.heap.push { cls := .type "tuple", data := Data.seq xs.reverse.toArray }, s.gens, s.drawn, s.toks, s.os⟩) (hz : xs.length ≤ sizeLine) : wpAny (model prog w) A (getItem (.ref t) (.ref sl)) Q E s := by
  have hsl : s.TypeIs (.ref sl) "slice" := by
    obtain ⟨o, h1, h2, h3⟩ := hs
    exact ⟨o, h1, h2⟩
  refine wpAny_getItem_slot ht.typeIs (by decide) slot_tuple_getitem (wpAny_call_entry slot_tuple_getitem ht.typeIs entry_tuple_getitem ?_ (args_tuple_getitem _ _))
  show wpAny _ _ (Builtin.Tuple.tupleItemsOf (.ref t) >>= _) _ _ _
  refine wpAny_bind (tupleItemsOf_ ht (wpAny_bind (wpAny_typeOf hsl ?_)))
  rw [if_pos (by decide)]
  refine wpAny_bind ?_
  rw [List.size_toArray]
  refine sliceApplied_rev hs hp ?_
  dsimp only
  rw [if_neg (by simp)]
  rw [rev_pick]
  refine wpAny_bind (wpAny_newObj_type ?_ (by show xs.reverse.toArray.size ≤ sizeLine; rw [List.size_toArray, List.length_reverse]; exact hz))
  exact wpAny_pure ⟨_, rfl, q⟩

def tRevT (K : PySem.W.Frag) (te : TE) : TE := fun σ H Q => te σ H fun x H1 => ∃ a xs, x = .ref a ∧ SqT K H1 a xs ∧ ∀ p, H1 p = none → Q (.ref p) (upd H1 p (.tup xs.reverse))
theorem pe_revT {X : Cx} {K : PySem.W.Frag} {e : Expr} {te : TE} {k : Nat} {p1 p2 p3 pos : Pos} (he : PE X e te) (hK : X.K = K := by rfl) : PE X (.Subscript e (.Slice none none (some (.UnaryOp .USub (.Constant (.int 1) k p1) p2)) p3) pos) (tRevT K te) := by
  subst hK
  refine ⟨fun pins s σ H Q I h => ?_⟩
  refine Subscript_ (thn (he.run pins s σ H _ I h) fun v s1 hh => ?_)
  obtain ⟨x, H1, I1, rx, a, xs, rfl, hx, q⟩ := hh
  obtain rfl : v = Value.ref a := rx
  have hst : PO X (some (.UnaryOp .USub (.Constant (.int 1) k p1) p2)) (tPart (tUn (rU fun i => .int (-i)) (tC (.int 1)))) := po_some (pe_un un_neg pe_int)
  refine wpAny_Slice (thn (po_none.run pins s1 σ H1 (fun o H2 => o = none ∧ H2 = H1) I1 ⟨rfl, rfl⟩) fun vl s2 h2 => ?_)
  obtain ⟨_, _, I2, pl, rfl, rfl⟩ := h2
  refine thn (po_none.run pins s2 σ _ (fun o H2 => o = none ∧ H2 = _) I2 ⟨rfl, rfl⟩) fun vu s3 h3 => ?_
  obtain ⟨_, _, I3, pu, rfl, rfl⟩ := h3
  refine thn (hst.run pins s3 σ _ (fun o H4 => o = some (-1) ∧ H4 = _) I3 ⟨1, rfl, -1, rfl, rfl, rfl⟩) fun vs s4 h4 => ?_
  obtain ⟨_, _, I4, ps, rfl, rfl⟩ := h4
  cases pl
  cases pu
  have I5 := I4.kept (t' := s4.toks) (h' := s4.heap.push { cls := Value.type "slice", data := Data.fields #[.none, .none, vs] }) fun b ob q => Heap.get?_push_of_some _ q
  obtain ⟨its, r, ht, hz⟩ := I5.tuple hx
  refine tail_any ht.typeIs slot_tuple_getitem.lookup ?_ rfl
  refine getItem_tup_rev ht (Heap.IsSliceOf.new _ _ _ _) ps ?_ (by rw [← r.length]; exact hz)
  refine ⟨.ref _, _, I5.laid (fun b o e => Heap.get?_push_of_some _ e) (Nat.le_refl _) ?_, rfl, q _ (I5.hok.fresh (Nat.le_refl _))⟩
  exact ⟨by rw [List.length_reverse]; exact hz, _, r.reverse, IsTup.new _ _⟩
section
variable {K : PySem.W.Frag} {G : Gm} {ta : TE} {ds : List PyData}
theorem DqAll_rev {B : Hp} : ∀ {ds : List PyData} {vs : List V}, DqAll B vs ds → DqAll B vs.reverse ds.reverse
  | [], _, h => by cases h; exact .nil
  | d :: ds, _, h => by
    cases h with
    | cons a b => rw [List.reverse_cons, List.reverse_cons]; exact DqAll_append (DqAll_rev b) (.cons a .nil)
theorem sv_revT (ha : Sv ta G (isD (.tuple ds))) : Sv (tRevT K ta) G (isD (.tuple ds.reverse)) := fun M0 σ B M H Q q => ha M0 σ B M H _ fun x B1 e1 d1 p1 => by
  obtain ⟨a, vs, rfl, h1, q1⟩ := dq_tup p1
  refine ⟨a, vs, rfl, st_of (jn_B d1 h1), fun p hp => ?_⟩
  rw [upd_new hp]
  exact q _ _ (e1.trans (ex_new hp)) (dj_new d1 hp) (.tup upd_same (DqAll_ex (ex_new hp) (DqAll_rev q1)))
end
end Mini

namespace Mini
open PySem L2 Evl PyProof.Rows

/-! ### a, b, c = a list -/
theorem drawL {prog : Program} {w : World} {A : Around} {E : Value → Shared → Prop} {it l : Addr} {items : Array Value} (ne : l ≠ it) : ∀ (n i : Nat) (s : Shared) (Q : List Value → Shared → Prop), s.heap.IsListIter it l i → s.heap.IsList l items → i + n ≤ items.size →
    (∀ h' : Heap, h'.IsListIter it l (i + n) → Heap.SameBut it s.heap h' → Q ((items.toList.drop i).take n) ⟨h', s.gens, s.drawn, s.toks, s.os⟩) → wpAny (model prog w) A (draw (.ref it) n) Q E s
  | 0, i, s, Q, hi, hl, hn, q => by
    rw [draw]
    refine wpAny_pure ?_
    have := q s.heap hi ⟨rfl, fun _ _ => rfl⟩
    rw [List.take_zero] at this
    exact this
  | n + 1, i, s, Q, hi, hl, hn, q => by
    rw [draw]
    have hlt : i < items.size := by omega
    refine wpAny_bind (wpAny_pyNext_list_item hi hl (Array.getElem?_eq_getElem hlt) fun h' hi' sb => ?_)
    refine wpAny_bind (wpAny_holding ?_)
    have hl' : h'.IsList l items := by
      obtain ⟨o, a, b⟩ := hl
      exact ⟨o, (sb.2 l ne).trans a, b⟩
    refine drawL ne n (i + 1) _ _ hi' hl' (by omega) fun h2 hi2 sb2 => wpAny_pure ?_
    have e : (items.toList.drop i).take (n + 1) = items[i] :: (items.toList.drop (i + 1)).take n := by
      rw [List.drop_eq_getElem_cons (by rw [Array.length_toList]; exact hlt), List.take_succ_cons]
      rfl
    have := q h2 (by rw [show i + (n + 1) = i + 1 + n by omega]; exact hi2) ⟨sb2.1.trans sb.1, fun b hb => (sb2.2 b hb).trans (sb.2 b hb)⟩
    rw [e] at this
    exact this
theorem unpackItemsL {prog : Program} {w : World} {A : Around} {E : Value → Shared → Prop} {s : Shared} {l : Addr} {items : Array Value} {Q : List Value → Shared → Prop} (hA : A.handled = none) (hl : s.heap.IsList l items)
    (q : ∀ h', Heap.ExtBut s.heap.objs.size s.heap h' → Q items.toList ⟨h', s.gens, s.drawn, s.toks, s.os⟩) : wpAny (model prog w) A (unpackItems (.ref l) items.size none) Q E s := by
  have hlt : l < s.heap.objs.size := by
    obtain ⟨o, a, _⟩ := hl
    exact Heap.lt_size a
  unfold unpackItems notIterableAtAll
  refine wpAny_bind (wpAny_bind (wpAny_specialOf hl.typeIs F.slot_list_iter.lookup ?_))
  rw [if_pos (show (some (Value.builtin "list.__iter__")).isSome = true from rfl)]
  refine wpAny_pure ?_
  rw [if_neg Bool.false_ne_true]
  refine wpAny_bind (wpAny_holding (wpAny_pyIter_list hl ?_))
  refine wpAny_bind (wpAny_holding ?_)
  have hl1 : (s.heap.push { cls := .type "list_iterator", data := Data.fields #[.ref l, .int 0 0] }).IsList l items := by
    obtain ⟨o, a, b⟩ := hl
    exact ⟨o, Heap.get?_push_of_some _ a, b⟩
  refine drawL (l := l) (items := items) (Nat.ne_of_lt hlt) items.size 0 _ _ ⟨_, Heap.get?_push_size _ rfl, rfl, rfl⟩ hl1 (by omega) fun h1 hi1 sb1 => ?_
  have e : (items.toList.drop 0).take items.size = items.toList := by rw [List.drop_zero, List.take_of_length_le (by rw [Array.length_toList]; exact Nat.le_refl _)]
  rw [e]
  have hlen : ¬ items.toList.length < items.size := by rw [Array.length_toList]; exact Nat.lt_irrefl _
  rw [if_neg hlen]
  have hl2 : h1.IsList l items := by
    obtain ⟨o, a, b⟩ := hl1
    exact ⟨o, (sb1.2 l (Nat.ne_of_lt hlt)).trans a, b⟩
  refine wpAny_bind (wpAny_holding (wpAny_pyNext_list_end (items := items) hA hi1 hl2 (by rw [Nat.zero_add]; exact Array.getElem?_eq_none (Nat.le_refl _)) fun h2 ex => ?_))
  refine wpAny_pure (q h2 fun b o ne hb => ex b o ne ((sb1.2 b ne).trans (Heap.get?_push_of_some _ hb)))
def gTupL (K : PySem.W.Frag) (n : Nat) (t : TGs) : TG := fun v σ H Q => ∃ a xs, v = .ref a ∧ SqL K H a xs ∧ xs.length = n ∧ t xs σ H Q
theorem pg_tupL {X : Cx} {pos : Pos} {es : List Expr} {k n : Nat} {t : TGs} (hc : X.calm = true) (h : PGs X es t) (hn : (assignEach es X.env).length = n := by rfl) (hs : (assignEach es X.env).findIdx? (fun x => x.1) = none := by rfl) : PG X (.Tuple es k pos) (gTupL X.K n t) := by
  refine ⟨fun pins s σ H v u Q I r hh => ?_⟩
  obtain ⟨a, xs, rfl, hx, hl, q⟩ := hh
  obtain rfl : u = Value.ref a := r
  obtain ⟨its, rv, pl, _⟩ := I.list hx
  have hz : n = its.toArray.size := by rw [List.size_toArray, ← rv.length, hl]
  show wpAny _ _ (do standAt pos; unpack (.ref a) (assignEach es X.env)) _ _ _
  refine wpAny_bind (wpAny_standAt ?_)
  unfold unpack
  rw [hs, hn, hz]
  refine wpAny_bind (wpAny_holding (unpackItemsL (I.ok.hd hc) pl.isList fun h' ex => ?_))
  exact h.run pins _ σ H xs its _ (I.kept fun b o e => ex b o (Nat.ne_of_lt (Heap.lt_size e)) e) rv q

/-! ### lists of typed things -/
inductive AllP (B : Hp) : List V → List Ty → Prop where
  | nil : AllP B [] []
  | cons {v P vs Ps} : P.p v B → AllP B vs Ps → AllP B (v :: vs) (P :: Ps)
theorem AllP.ext {B B' : Hp} (e : Ex B B') {vs : List V} {Ps : List Ty} (h : AllP B vs Ps) : AllP B' vs Ps := by
  induction h with
  | nil => exact .nil
  | cons a _ ih => exact .cons (Ty.mono _ e a) ih
theorem AllP.len {B : Hp} {vs : List V} {Ps : List Ty} (h : AllP B vs Ps) : vs.length = Ps.length := by
  induction h with
  | nil => rfl
  | cons a _ ih => simp [ih]
theorem AllP.snoc {B : Hp} {vs : List V} {Ps : List Ty} (h : AllP B vs Ps) {v : V} {P : Ty} (p : P.p v B) : AllP B (vs ++ [v]) (Ps ++ [P]) := by
  induction h with
  | nil => exact .cons p .nil
  | cons a _ ih => exact .cons a ih
theorem AllP.get {B : Hp} {vs : List V} {Ps : List Ty} (h : AllP B vs Ps) {i : Nat} {v : V} (e : vs[i]? = some v) : ∃ P, Ps[i]? = some P ∧ P.p v B := by
  induction h generalizing i with
  | nil => simp at e
  | @cons u P us Qs a b ih =>
    cases i with
    | zero => simp at e; subst e; exact ⟨P, rfl, a⟩
    | succ i => exact ih e
def isQ (Ps : List Ty) : Ow := ⟨fun _ o B => ∃ vs, o = .lst vs ∧ AllP B vs Ps, fun e ⟨vs, h, q⟩ => ⟨vs, h, q.ext e⟩⟩
def isQI (Ps : List Ty) : Ty := ⟨fun v B => ∃ a vs, v = .ref a ∧ B a = some (.lst vs) ∧ AllP B vs Ps, fun e ⟨a, vs, h1, h2, h3⟩ => ⟨a, vs, h1, e _ _ h2, h3.ext e⟩⟩
section
variable {K : PySem.W.Frag} {E : L2.St → XK} {G : Gm} {te tl ta tb tc : TE} {tt : TT} {ts : TS} {o : Out} {P : Ty} {Ps : List Ty} {n i j l : Nat} {ds es fs : List PyData}
theorem ss_ownQ (h : G[n]? = some (.ow (isL []))) (k : Ss E ts (G.set n (.ow (isQ []))) o) : Ss E ts G o := fun M0 D σ B M H q => by
  obtain ⟨l, ob, a, c, ⟨vs, rfl, r⟩, f⟩ := H.ow n _ h
  cases r
  have H' := H.change (R' := isQ []) (o' := .lst []) h a c ⟨[], rfl, .nil⟩
  have e : upd M l (.lst []) = M := by
    funext b
    by_cases z : b = l
    · rw [z, upd_same, c]
    · rw [upd_ne z]
  rw [e] at H'
  exact k M0 D σ B M H' q
theorem ss_freezeQ (h : G[n]? = some (.ow (isQ Ps))) (k : Ss E ts (G.set n (.im (isQI Ps))) o) : Ss E ts G o := fun M0 D σ B M H q => by
  obtain ⟨l, ob, a, c, ⟨vs, rfl, r⟩, f⟩ := H.ow n _ h
  obtain ⟨H', ex⟩ := H.freeze h a c (P := isQI Ps) ⟨l, vs, rfl, upd_same, r.ext (Ex.new (dj_free H.dj c))⟩
  have k' := k M0 D σ _ _ H' (q.ext ex)
  rw [jn_del c] at k'
  exact k'
theorem ss_appendQ (h : G[n]? = some (.ow (isQ Ps))) (he : Sv te G P) (hz : Ps.length < sizeLine) : Ss E (tDrop (tBM K "list" rAppend (tVar n) (tCons te tNil))) G (.nx (G.set n (.ow (isQ (Ps ++ [P]))))) := fun M0 D σ B M H q => by
  obtain ⟨l, ob, a, c, ⟨vs, rfl, r⟩, f⟩ := H.ow n _ h
  refine ⟨.ref l, a, Or.inl ⟨rfl, vs, sq_of (jn_M c)⟩, ?_⟩
  refine he M0 σ B M H _ fun v B' e dj p => ?_
  refine ⟨l, vs, v, rfl, rfl, jn_M c, by rw [r.len]; exact hz, ?_⟩
  rw [upd_own]
  exact q σ B' _ e ((H.ext e dj).change h a c ⟨_, rfl, (r.ext e).snoc p⟩)
theorem ss_unp3 {P1 P2 P3 : Ty} (h : Sv te G (isQI [P1, P2, P3])) (hi : i < G.length := by exact Nat.le_of_ble_eq_true rfl) (hj : j < G.length := by exact Nat.le_of_ble_eq_true rfl) (hl : l < G.length := by exact Nat.le_of_ble_eq_true rfl) :
    Ss E (tAsg te (gTupL K 3 (gCons (gName i) (gCons (gName j) (gCons (gName l) gNil))))) G (.nx (((G.set i (.im P1)).set j (.im P2)).set l (.im P3))) := fun M0 D σ B M H q => by
  refine h M0 σ B M H _ fun v B' e dj p => ?_
  obtain ⟨a, vs, rfl, h1, h2⟩ := p
  cases h2 with
  | cons p1 h2 => cases h2 with
    | cons p2 h2 => cases h2 with
      | cons p3 h2 =>
        cases h2
        refine ⟨a, _, rfl, sq_of (jn_B dj h1), rfl, _, _, rfl, _, _, rfl, _, _, rfl, rfl, ?_⟩
        exact q _ B' M e ((((H.ext e dj).setIm hi p1).setIm (by rw [List.length_set]; exact hj) p2).setIm (by rw [List.length_set, List.length_set]; exact hl) p3)
end
end Mini

namespace Mini
open PySem L2 Evl PyProof.Rows

/-! ### more comprehensions -/
/-- over typed things -/
def GvP (G : Gm) (j : Nat) (P : Ty) : Gm := (wipeG G [j]).set j (.im P)
section
variable {K : PySem.W.Frag} {G : Gm} {te tl twi : TE} {j l : Nat} {ds : List PyData} {Ps : List Ty}
theorem svl_lcQ (h : Sv tl G (isQI Ps)) (y : Nat → PyData) (hj : j < G.length) (hz : Ps.length < 10000000) (he : ∀ i P, Ps[i]? = some P → Sv te (GvP G j P) (isD (y i))) : Svl (tLc (iList K tl) (gName j) tYes te [j]) G ((List.range Ps.length).map y) := fun M0 σ B M H Q q => h M0 σ B M H _ fun v B1 e1 d1 p1 => by
  obtain ⟨a, vs, rfl, hh, q1⟩ := p1
  have hlen := q1.len
  refine ⟨a, rfl, ⟨vs, sq_of (jn_B d1 hh)⟩, fun Dl hD => ?_⟩
  have hM := (jn_free hD).2
  refine lc_list (xs := vs) (Pvc B1 M Dl fun i => (List.range i).map y) ⟨B1, [], by rw [upd_own], Ex.refl B1, dj_own d1 (jn_free hD).1, .nil⟩ (fun i H' _ p => ?_) (fun i x H' hx p => ?_) (fun H' p => ?_)
  · obtain ⟨B', acc, rfl, e, dj, _⟩ := p
    exact sq_of (jn_B dj (e _ _ hh))
  · obtain ⟨B', acc, rfl, e, dj, ha⟩ := p
    obtain ⟨P, hP, px⟩ := q1.get hx
    have hi := (List.getElem?_eq_some_iff.mp hP).1
    refine ⟨wipe_one σ j x, ?_⟩
    have hB' : B' Dl = none := dj_free dj upd_same
    have djM : Dj B' M := fun a u q => by
      have := dj a u q
      by_cases z : a = Dl
      · rw [z]; exact hM
      · rw [upd_ne z] at this; exact this
    have H2 : Holds M0 (GvP G j P) ((L2.wipe σ [j]).set j (some x)) B' (upd M Dl (.lst acc)) := by
      have h1 := (((H.ext e1 d1).ext e djM).wipes [j]).more (p := Dl) (o := .lst acc) (show jn B' M Dl = none by rw [jn_N hM]; exact hB')
      exact h1.setIm (by show j < (G.set j .no).length; rw [List.length_set]; exact hj) (P.mono e px)
    refine st_yes M0 _ _ _ H2 _ fun B3 e3 d3 => ?_
    rw [if_pos rfl]
    refine he i P hP M0 _ _ _ (H2.ext e3 d3) _ fun v B4 e4 d4 p4 => ?_
    refine ⟨acc, jn_M upd_same, by rw [DqAll_len ha, List.length_map, List.length_range, sizeLine_eq]; omega, ?_⟩
    rw [upd_own, upd_upd]
    refine ⟨B4, acc ++ [v], rfl, (e.trans e3).trans e4, ?_, ?_⟩
    · intro a u q
      have := d4 a u q
      by_cases z : a = Dl
      · rw [z, upd_same] at this; cases this
      · rw [upd_ne z] at this ⊢; exact this
    · show DqAll B4 (acc ++ [v]) ((List.range (i + 1)).map y)
      rw [List.range_succ, List.map_append]
      exact DqAll_append (DqAll_ex (e3.trans e4) ha) (.cons p4 .nil)
  · rw [hlen] at p
    exact lc_end hM (Ex.refl _) (fun p vs B' e dj hf hv => q p vs B' (e1.trans e) dj hf hv) H' p
theorem tyes_ite {σ : L2.St} {H : Hp} {A B : Hp → Prop} (h : A H) : tYes σ H (fun b H3 => if b = true then A H3 else B H3) := by
  show (if true = true then A H else B H)
  rw [if_pos rfl]; exact h
/-- two loops over tuples, the inner thing itself -/
def Gv2 (G : Gm) (j l : Nat) (d : PyData) : Gm := (wipeG G [j, l]).set j (.im (isD d))
theorem wipe_two (σ : L2.St) {j l : Nat} (h : j ≠ l) (x : V) : L2.wipe ((L2.wipe σ [j, l]).set j (some x)) [j, l] = L2.wipe σ [j, l] := by
  show ((((σ.set l none).set j none).set j (some x)).set l none).set j none = (σ.set l none).set j none
  rw [List.set_set, List.set_comm _ _ h, List.set_set, List.set_set]
theorem svl_lc2T (h : Sv tl G (isD (.tuple ds))) (es : PyData → List PyData) (hj : j < G.length) (hl : l < G.length) (hjl : j ≠ l) (hz : (ds.flatMap es).length < 10000000) (hi : ∀ d ∈ ds, Sv twi (Gv2 G j l d) (isD (.tuple (es d)))) :
    Svl (tLc2 (iTup K tl) (gName j) tYes (iTup K twi) (gName l) tYes (tVar l) [j, l] [l]) G (ds.flatMap es) := fun M0 σ B M H Q q => h M0 σ B M H _ fun v B1 e1 d1 p1 => by
  obtain ⟨a, vs, rfl, hh, q1⟩ := dq_tup p1
  have hlen := DqAll_len q1
  refine ⟨a, rfl, ⟨vs, st_of (jn_B d1 hh)⟩, fun Dl hD => ?_⟩
  have hM := (jn_free hD).2
  refine ⟨fun i m H' => i ≤ vs.length ∧ m = vs.length - i ∧ Pvc B1 M Dl (fun i => (ds.take i).flatMap es) i H', ⟨vs.length, Nat.zero_le _, rfl, B1, [], by rw [upd_own], Ex.refl B1, dj_own d1 (jn_free hD).1, .nil⟩, fun i m H' hW => ?_⟩
  obtain ⟨hle, rfl, B', acc, rfl, e, dj, ha⟩ := hW
  have hB' : B' Dl = none := dj_free dj upd_same
  have djM : Dj B' M := fun a u q => by
    have := dj a u q
    by_cases z : a = Dl
    · rw [z]; exact hM
    · rw [upd_ne z] at this; exact this
  have hS : SqT K (jn B' (upd M Dl (.lst acc))) a vs := st_of (jn_B dj (e _ _ hh))
  by_cases z : i < vs.length
  · refine .inr ⟨⟨vs, vs[i], hS, List.getElem?_eq_getElem z⟩, fun H' => Pvc B1 M Dl (fun i => (ds.take i).flatMap es) (i + 1) H', fun H' p => ⟨vs.length - (i + 1), by omega, by omega, rfl, p⟩, fun x H' hy => ?_⟩
    obtain ⟨rfl, hx⟩ := hy
    obtain ⟨d, hd, px⟩ := DqAll_getV q1 (hx vs hS)
    refine ⟨wipe_two σ hjl x, ?_⟩
    have H2 : Holds M0 (Gv2 G j l d) ((L2.wipe σ [j, l]).set j (some x)) B' (upd M Dl (.lst acc)) := by
      have h1 := (((H.ext e1 d1).ext e djM).wipes [j, l]).more (p := Dl) (o := .lst acc) (show jn B' M Dl = none by rw [jn_N hM]; exact hB')
      exact h1.setIm (by show j < ((G.set l .no).set j .no).length; rw [List.length_set, List.length_set]; exact hj) (Dq_ex e d x px)
    refine st_yes M0 _ _ _ H2 _ fun B3 e3 d3 => ?_
    rw [if_pos rfl]
    refine hi d (List.mem_of_getElem? hd) M0 _ _ _ (H2.ext e3 d3) _ fun v B4 e4 d4 p4 => ?_
    obtain ⟨b, us, rfl, hb, q4⟩ := dq_tup p4
    have hlu := DqAll_len q4
    have hlt : ((ds.take (i + 1)).flatMap es) = (ds.take i).flatMap es ++ es d := by rw [List.take_succ, hd, List.flatMap_append]; simp
    have htot : ((ds.take i).flatMap es).length + (es d).length < 10000000 := by
      rw [← List.length_append, ← hlt]
      have e2 : ds.flatMap es = (ds.take (i + 1)).flatMap es ++ (ds.drop (i + 1)).flatMap es := by rw [← List.flatMap_append, List.take_append_drop]
      rw [e2, List.length_append] at hz
      omega
    refine ⟨b, rfl, ⟨us, st_of (jn_B d4 hb)⟩, ?_⟩
    refine ⟨fun r k H' => r ≤ us.length ∧ k = us.length - r ∧ ∃ B5 acc5, H' = jn B5 (upd M Dl (.lst acc5)) ∧ Ex B4 B5 ∧ Dj B5 (upd M Dl (.lst acc5)) ∧ DqAll B5 acc5 ((ds.take i).flatMap es ++ (es d).take r), ⟨us.length, Nat.zero_le _, rfl, B4, acc, rfl, Ex.refl _, d4, ?_⟩, fun r k H' hW1 => ?_⟩
    · rw [List.take_zero, List.append_nil]
      exact DqAll_ex (e3.trans e4) ha
    obtain ⟨hr, rfl, B5, acc5, rfl, e5, dj5, ha5⟩ := hW1
    have hS5 : SqT K (jn B5 (upd M Dl (.lst acc5))) b us := st_of (jn_B dj5 (e5 _ _ hb))
    by_cases zr : r < us.length
    · refine .inr ⟨⟨us, us[r], hS5, List.getElem?_eq_getElem zr⟩, fun H' => ∃ B5 acc5, H' = jn B5 (upd M Dl (.lst acc5)) ∧ Ex B4 B5 ∧ Dj B5 (upd M Dl (.lst acc5)) ∧ DqAll B5 acc5 ((ds.take i).flatMap es ++ (es d).take (r + 1)), fun H' p => ⟨us.length - (r + 1), by omega, by omega, rfl, p⟩, fun y H' hy => ?_⟩
      obtain ⟨rfl, hy⟩ := hy
      obtain ⟨f, hf, py⟩ := DqAll_getV q4 (hy us hS5)
      refine ⟨wipe_one _ l y, ?_⟩
      refine tyes_ite ?_
      have hll : l < ((((σ.set l none).set j none).set j (some x)).set l none).length := by
        rw [List.length_set, List.length_set, List.length_set, List.length_set, H.len]; exact hl
      refine ⟨y, List.getElem?_set_self hll, acc5, jn_M upd_same, ?_, ?_⟩
      · rw [DqAll_len ha5, List.length_append, List.length_take, sizeLine_eq]; omega
      · rw [upd_own, upd_upd]
        refine ⟨B5, acc5 ++ [y], rfl, e5, ?_, ?_⟩
        · intro a u q
          have := dj5 a u q
          by_cases z : a = Dl
          · rw [z, upd_same] at this; cases this
          · rw [upd_ne z] at this ⊢; exact this
        · rw [List.take_succ, hf, ← List.append_assoc]
          exact DqAll_append ha5 (.cons (Dq_ex e5 f y py) .nil)
    · have er : r = us.length := by omega
      subst er
      refine .inl ⟨⟨us, hS5, Nat.le_refl _⟩, B5, acc5, rfl, (e.trans (e3.trans e4)).trans e5, dj5, ?_⟩
      show DqAll B5 acc5 ((ds.take (i + 1)).flatMap es)
      rw [hlt]
      rw [hlu, List.take_length] at ha5
      exact ha5
  · have ei : i = vs.length := by omega
    subst ei
    refine .inl ⟨⟨vs, hS, Nat.le_refl _⟩, ?_⟩
    refine lc_end (es := fun i => (ds.take i).flatMap es) (i := vs.length) hM (Ex.refl _) (fun p us B2 e2 dj2 hf hv => ?_) _ ⟨B', acc, rfl, e, dj, ha⟩
    rw [hlen, List.take_length] at hv
    exact q p us B2 (e1.trans e2) dj2 hf hv
end
end Mini

namespace Mini
open PySem L2 Evl PyProof.Rows
theorem pe_fldK {X : Cx} {K : PySem.W.Frag} {e : Expr} {f : Str} {pos : Pos} {ta : TE} (h : PE X e ta) (hb : attributeBase e f X.env (eval e X.env) = eval e X.env) (hK : X.K = K := by rfl) : PE X (.Attribute e f pos) (tFld K ta f) := hK ▸ pe_fld h hb
theorem pi_tupK {X : Cx} {K : PySem.W.Frag} {tg l : Expr} {tl : TE} (h : PE X l tl) (hK : X.K = K := by rfl) : PI X tg l (iTup K tl) := hK ▸ pi_tup h
theorem pi_listK {X : Cx} {K : PySem.W.Frag} {tg l : Expr} {tl : TE} (h : PE X l tl) (hK : X.K = K := by rfl) : PI X tg l (iList K tl) := hK ▸ pi_list h
abbrev rLenK (K : PySem.W.Frag) : List V → Hp → VK → Prop := fun xs H Q => ∃ x n, xs = [x] ∧ LenV K x H n ∧ Q (.int n) H
section
variable {K : PySem.W.Frag} {E : L2.St → XK} {G : Gm} {ta tb tc : TE} {ds es fs : List PyData} {i j l : Nat}
/-- a, b, c = (new lists), through a tuple -/
theorem ss_tup3 (ha : Svl ta G ds) (hb : Svl tb G es) (hc : Svl tc G fs) (hi : i < G.length := by exact Nat.le_of_ble_eq_true rfl) (hj : j < G.length := by exact Nat.le_of_ble_eq_true rfl) (hl : l < G.length := by exact Nat.le_of_ble_eq_true rfl) :
    Ss E (tAsg (tTup (tCons ta (tCons tb (tCons tc tNil)))) (gTup K 3 (gCons (gName i) (gCons (gName j) (gCons (gName l) gNil))))) G (.nx (((G.set i (.ow (isL ds))).set j (.ow (isL es))).set l (.ow (isL fs)))) := fun M0 D σ B M H q =>
  ha M0 σ B M H _ fun p vs B1 e1 d1 hf ha1 => by
    rw [upd_own]
    have H1 := (H.ext e1 d1).more (p := p) (o := .lst vs) hf
    refine hb M0 σ B1 _ H1 _ fun p2 us B2 e2 d2 hf2 ha2 => ?_
    rw [upd_own]
    have H2 := (H1.ext e2 d2).more (p := p2) (o := .lst us) hf2
    refine hc M0 σ B2 _ H2 _ fun p3 ws B3 e3 d3 hf3 ha3 => ?_
    rw [upd_own]
    have n2 : p ≠ p2 := ne_of_none (show (upd M p (HO.lst vs)) p = some _ from upd_same) (jn_free hf2).2
    have m1 : (upd (upd M p (HO.lst vs)) p2 (HO.lst us)) p = some (.lst vs) := by rw [upd_ne n2]; exact upd_same
    have b1 : B3 p = none := dj_free d3 m1
    have b2 : B3 p2 = none := dj_free d3 upd_same
    have b3 : B3 p3 = none := (jn_free hf3).1
    have djM : Dj B3 M := fun a u z => by
      have w := d3 a u z
      by_cases y2 : a = p2
      · rw [y2] at z; rw [b2] at z; cases z
      · rw [upd_ne y2] at w
        by_cases y1 : a = p
        · rw [y1] at z; rw [b1] at z; cases z
        · rw [upd_ne y1] at w; exact w
    have hM1 := (jn_free hf).2
    have hM2 := (jn_free hf2).2
    have hM3 := (jn_free hf3).2
    have K1 : Holds M0 (G.set i (.ow (isL ds))) (σ.set i (some (.ref p))) B3 (upd M p (.lst vs)) := (((H.ext e1 d1).ext (e2.trans e3) djM)).setOw hi (by rw [jn_N hM1]; exact b1) ⟨vs, rfl, DqAll_ex (e2.trans e3) ha1⟩
    have K2 := K1.setOw (n := j) (R := isL es) (p := p2) (o := .lst us) (by rw [List.length_set]; exact hj) (by rw [jn_N hM2]; exact b2) ⟨us, rfl, DqAll_ex e3 ha2⟩
    have K3 := K2.setOw (n := l) (R := isL fs) (p := p3) (o := .lst ws) (by rw [List.length_set, List.length_set]; exact hl) (by rw [jn_N hM3]; exact b3) ⟨ws, rfl, ha3⟩
    refine ⟨by show 3 ≤ sizeLine; decide, fun t ht => ?_⟩
    rw [upd_new ht]
    refine ⟨t, _, rfl, st_of (jn_B (dj_new K3.dj ht) upd_same), rfl, _, _, rfl, _, _, rfl, _, _, rfl, rfl, ?_⟩
    exact q _ _ _ ((e1.trans (e2.trans e3)).trans (ex_new ht)) (K3.ext (ex_new ht) (dj_new K3.dj ht))
end
end Mini

namespace Mini
open PySem L2 Evl PyProof.Rows

/-! ### dicts from ints to ints -/
/-- y = {..}, y a local name -/
theorem ps_setDc {X : Cx} {i : Nat} {y : Str} {py : Pos} {kx vx tg iter : Expr} {ifs : List Expr} {scope : Scope} {own : List (Str × Nat)} {pos spos : Pos} {wi : TI} {g : TG} {tt : TT} {tk tv : TE} (hc : X.calm = true) (hN : X.N.Nodup) (hy : X.N[i]? = some y) (hyl : X.env.scope.names.lookup y = some .local)
    (hsw : swapsWith (.DictComp kx vx [⟨tg, iter, ifs, 0⟩] scope pos) (some (.Name y py)) spos.line X.env = pure true) (hi : PI X tg iter wi) (ok : BlkOk X.N X.env.scope scope own)
    (hg : ∀ (s : Shared) (H : Hp) (C : Addr) (cl : List (Str × Addr)) (fp : List Addr), PG (X.blk s H scope (compEnvC scope cl C X.env) fp) tg g)
    (ht : ∀ (s : Shared) (H : Hp) (C : Addr) (cl : List (Str × Addr)) (fp : List Addr), PTs (X.blk s H scope (compEnvC scope cl C X.env) fp) ifs tt)
    (hk : ∀ (s : Shared) (H : Hp) (C : Addr) (cl : List (Str × Addr)) (fp : List Addr), PE (X.blk s H scope (compEnvC scope cl C X.env) fp) kx tk)
    (he : ∀ (s : Shared) (H : Hp) (C : Addr) (cl : List (Str × Addr)) (fp : List Addr), PE (X.blk s H scope (compEnvC scope cl C X.env) fp) vx tv)
    (hs : ∀ x, foldedSetIterable iter X.env x = pure x := by exact fun _ => rfl) : PS X (.Assign [.Name y py] (.DictComp kx vx [⟨tg, iter, ifs, 0⟩] scope pos) spos) (tAsg (tDc wi g tt tk tv (own.map (·.2))) (gName i)) := by
  refine ⟨fun pins s σ H D I h => ?_⟩
  rw [exec_Assign_Name_used y py _ spos hsw]
  refine wpAny_bind (wpAny_standAt (wpAny_bind ?_))
  refine wpAny_bind (thn (dc_core hc hN I hi ok hg ht hk he hs h fun L C s' m H' I' q hn f => ?_) fun x s' hq => wpAny_pure (wpAny_pure hq))
  refine wpAny_assign_Name (store_ok2 (v := V.ref L) I' hN hy (.inl hyl) rfl (fun s2 I2 hx => ?_) (.inr hyl))
  obtain ⟨a, sb, ha⟩ := hx
  have haC : C ≠ a := by
    rcases ha with z | z
    · rw [z]; exact f.2.1
    · exact fun e => f.2.2.2.2.1 y a z e.symm
  exact ⟨m, hn.sameBut sb haC, fun h3 sb3 => ⟨σ.set i (some (.ref L)), H', Inv.turned I2 (fun b o hb e => (sb3.2 b hb).trans e) f.1 f.2.1 f.2.2.2.1 f.2.2.2.2.1 f.2.2.2.2.2, q⟩⟩
theorem pg_tupK {X : Cx} {K : PySem.W.Frag} {pos : Pos} {es : List Expr} {k : Nat} {t : TGs} {n : Nat} (hc : X.calm = true) (h : PGs X es t) (hn : (assignEach es X.env).length = n := by rfl) (hs : (assignEach es X.env).findIdx? (fun x => x.1) = none := by rfl) (hK : X.K = K := by rfl) : PG X (.Tuple es k pos) (gTup K n t) := hK ▸ pg_tup hc h hn hs

def putI (kvs : List (Int × Int)) (k v : Int) : List (Int × Int) := if (kvs.any fun p => decide (p.1 = k)) = true then kvs.map (fun p => if p.1 = k then (p.1, v) else p) else kvs ++ [(k, v)]
def dkV (kvs : List (Int × Int)) : List (Key × V) := kvs.map fun p => (Sum.inl p.1, V.int p.2)
theorem put_dkV (kvs : List (Int × Int)) (k v : Int) : putK (dkV kvs) (Sum.inl k) (V.int v) = dkV (putI kvs k v) := by
  have e : ((dkV kvs).any fun kv => decide (kv.1 = (Sum.inl k : Key))) = kvs.any fun p => decide (p.1 = k) := by
    unfold dkV
    rw [List.any_map]
    congr 1
    funext p
    show decide ((Sum.inl p.1 : Key) = Sum.inl k) = decide (p.1 = k)
    by_cases z : p.1 = k
    · rw [decide_eq_true z, decide_eq_true (by rw [z])]
    · rw [decide_eq_false z, decide_eq_false (fun q => z (Sum.inl.inj q))]
  unfold putK putI
  rw [e]
  split
  · unfold dkV
    rw [List.map_map, List.map_map]
    refine List.map_congr_left fun p _ => ?_
    show (if (Sum.inl p.1 : Key) = Sum.inl k then _ else _) = _
    by_cases z : p.1 = k
    · rw [if_pos (by rw [z])]
      show _ = (fun p : Int × Int => ((Sum.inl p.1 : Key), V.int p.2)) (if p.1 = k then (p.1, v) else p)
      rw [if_pos z]
    · rw [if_neg (fun q => z (Sum.inl.inj q))]
      show _ = (fun p : Int × Int => ((Sum.inl p.1 : Key), V.int p.2)) (if p.1 = k then (p.1, v) else p)
      rw [if_neg z]
  · unfold dkV
    rw [List.map_append]
    rfl
theorem putI_len (kvs : List (Int × Int)) (k v : Int) : (putI kvs k v).length ≤ kvs.length + 1 := by
  unfold putI
  split
  · rw [List.length_map]; omega
  · rw [List.length_append, List.length_singleton]; omega
/-- {key of d: its number} -/
def dE (kf : PyData → Int) (ds : List PyData) : Nat → List (Int × Int)
  | 0 => []
  | i + 1 => putI (dE kf ds i) (kf (ds.getD i .none)) i
theorem dE_len (kf : PyData → Int) (ds : List PyData) : ∀ i, (dE kf ds i).length ≤ i
  | 0 => Nat.le_refl 0
  | i + 1 => by
    have := dE_len kf ds i
    have := putI_len (dE kf ds i) (kf (ds.getD i .none)) i
    show (putI (dE kf ds i) _ _).length ≤ i + 1
    omega
def isDi (kvs : List (Int × Int)) : Ty := ⟨fun v B => ∃ a, v = .ref a ∧ B a = some (.dK (dkV kvs)), fun e ⟨a, h1, h2⟩ => ⟨a, h1, e _ _ h2⟩⟩
def getI (kvs : List (Int × Int)) (k : Int) : PyData := match kvs.find? fun p => decide (p.1 = k) with
  | some p => .int p.2
  | none => .none
theorem val_dkV (kvs : List (Int × Int)) (k : Int) : valV (dkV kvs) (Sum.inl k : Key) = (kvs.find? fun p => decide (p.1 = k)).map fun p => V.int p.2 := by
  unfold valV dkV
  rw [List.find?_map, Option.map_map]
  have e : ((fun kv : Key × V => decide (kv.1 = (Sum.inl k : Key))) ∘ fun p : Int × Int => ((Sum.inl p.1 : Key), V.int p.2)) = fun p : Int × Int => decide (p.1 = k) := by
    funext p
    show decide ((Sum.inl p.1 : Key) = Sum.inl k) = decide (p.1 = k)
    by_cases z : p.1 = k
    · rw [decide_eq_true z, decide_eq_true (by rw [z])]
    · rw [decide_eq_false z, decide_eq_false (fun q => z (Sum.inl.inj q))]
  rw [e]
  rfl
def GvE (G : Gm) (j l : Nat) (i : Nat) (d : PyData) : Gm := ((wipeG G [j, l]).set j (.im (isD (.int (i : Int))))).set l (.im (isD d))
section
variable {K : PySem.W.Frag} {E : L2.St → XK} {G : Gm} {td ty tl tk : TE} {j l n : Nat} {k : Int} {kvs : List (Int × Int)} {ds : List PyData}
theorem sv_dget (hd : Sv td G (isDi kvs)) (hk : Sv ty G (isD (.int k))) : Sv (tDGet1 td ty) G (isD (getI kvs k)) := fun M0 σ B M H Q q => hd M0 σ B M H _ fun v B1 e1 d1 p1 => by
  obtain ⟨a, rfl, h1⟩ := p1
  refine ⟨a, rfl, .inl ⟨_, .inl (jn_B d1 h1)⟩, ?_⟩
  refine hk M0 σ B1 M (H.ext e1 d1) _ fun y B2 e2 d2 p2 => ?_
  refine ⟨_, .inl ⟨_, Sum.inl k, .inl (jn_B d2 (e2 _ _ h1)), dp_int p2, rfl⟩, ?_⟩
  refine q _ B2 (e1.trans e2) d2 ?_
  rw [val_dkV]
  show Dq B2 _ (getI kvs k)
  unfold getI
  cases kvs.find? fun p => decide (p.1 = k) with
  | none => exact .non
  | some p => exact .int _
theorem wipe_two2 (σ : L2.St) {j l : Nat} (h : j ≠ l) (x y : V) : L2.wipe (((L2.wipe σ [j, l]).set j (some x)).set l (some y)) [j, l] = L2.wipe σ [j, l] := by
  show (((((σ.set l none).set j none).set j (some x)).set l (some y)).set l none).set j none = (σ.set l none).set j none
  rw [List.set_set, List.set_set, List.set_comm _ _ h, List.set_set, List.set_set]
theorem ss_setDcE (h : Rl tl G ds) (kf : PyData → Int) (hn : n < G.length) (hj : j < G.length) (hl : l < G.length) (hjl : j ≠ l) (hz : ds.length < 1000000) (hk : ∀ i d, ds[i]? = some d → Sv tk (GvE G j l i d) (isD (.int (kf d)))) :
    Ss E (tAsg (tDc (iEnum K (tCons tl tNil)) (gTup K 2 (gCons (gName j) (gCons (gName l) gNil))) tYes tk (tVar j) [j, l]) (gName n)) G (.nx (G.set n (.im (isDi (dE kf ds ds.length))))) := fun M0 D σ B M H q => h M0 σ B M H _ fun a vs B1 e1 d1 hh q1 => by
  have hlen := DqAll_len q1
  refine ⟨a, vs, rfl, sq_of hh, fun Dl hD => ?_⟩
  have hM := (jn_free hD).2
  refine ⟨fun i m H' => i ≤ vs.length ∧ m = vs.length - i ∧ ∃ B', H' = jn B' (upd M Dl (.dK (dkV (dE kf ds i)))) ∧ Ex B1 B' ∧ Dj B' (upd M Dl (.dK (dkV (dE kf ds i)))), ⟨vs.length, Nat.zero_le _, rfl, B1, by rw [upd_own]; rfl, Ex.refl B1, dj_own d1 (jn_free hD).1⟩, fun i m H' hW => ?_⟩
  obtain ⟨hle, rfl, B', rfl, e, dj⟩ := hW
  have hB' : B' Dl = none := dj_free dj upd_same
  have djM : Dj B' M := fun a u q => by
    have := dj a u q
    by_cases z : a = Dl
    · rw [z]; exact hM
    · rw [upd_ne z] at this; exact this
  have hS : SqL K (jn B' (upd M Dl (.dK (dkV (dE kf ds i))))) a vs := by
    refine sq_of ?_
    have hne : a ≠ Dl := fun z => by rw [z, hD] at hh; cases hh
    unfold jn at hh ⊢
    rw [upd_ne hne]
    cases z : M a with
    | some u => rw [z] at hh; exact hh
    | none => rw [z] at hh; exact e _ _ hh
  by_cases z : i < vs.length
  · refine .inr ⟨⟨vs, vs[i], hS, List.getElem?_eq_getElem z⟩, fun H' => ∃ B', H' = jn B' (upd M Dl (.dK (dkV (dE kf ds (i + 1))))) ∧ Ex B1 B' ∧ Dj B' (upd M Dl (.dK (dkV (dE kf ds (i + 1))))), fun H' p => ⟨vs.length - (i + 1), by omega, by omega, rfl, p⟩, fun v H' hy => ?_⟩
    obtain ⟨t, x, rfl, ht, rfl, hx⟩ := hy
    obtain ⟨d, hd, px⟩ := DqAll_getV q1 (hx vs hS)
    rw [upd_new ht]
    refine ⟨t, _, rfl, st_of (jn_B (dj_new dj ht) upd_same), rfl, _, _, rfl, _, _, rfl, rfl, ?_⟩
    refine ⟨wipe_two2 σ hjl _ _, ?_⟩
    have et : Ex B' (upd B' t (.tup [V.int i, x])) := ex_new ht
    have djt : Dj (upd B' t (.tup [V.int i, x])) (upd M Dl (.dK (dkV (dE kf ds i)))) := dj_new dj ht
    have H2 : Holds M0 (GvE G j l i d) (((L2.wipe σ [j, l]).set j (some (V.int i))).set l (some x)) (upd B' t (.tup [V.int i, x])) (upd M Dl (.dK (dkV (dE kf ds i)))) := by
      have h1 := ((((H.ext e1 d1).ext e djM).wipes [j, l]).more (p := Dl) (o := .dK (dkV (dE kf ds i))) (show jn B' M Dl = none by rw [jn_N hM]; exact hB')).ext et djt
      have h2 := h1.setIm (n := j) (v := V.int i) (P := isD (.int (i : Int))) (by show j < ((G.set l .no).set j .no).length; rw [List.length_set, List.length_set]; exact hj) (.int _)
      exact h2.setIm (by rw [List.length_set]; show l < ((G.set l .no).set j .no).length; rw [List.length_set, List.length_set]; exact hl) (Dq_ex (e.trans et) d x px)
    refine tyes_ite ?_
    refine hk i d hd M0 _ _ _ H2 _ fun y B4 e4 d4 p4 => ?_
    have hjj : (((L2.wipe σ [j, l]).set j (some (V.int i))).set l (some x))[j]? = some (some (V.int i)) := by
      rw [List.getElem?_set_ne (Ne.symm hjl)]
      exact List.getElem?_set_self (by show j < ((σ.set l none).set j none).length; rw [List.length_set, List.length_set, H.len]; exact hj)
    refine ⟨_, hjj, dkV (dE kf ds i), Sum.inl (kf d), dp_int p4, jn_M upd_same, ?_, ?_⟩
    · have := dE_len kf ds i
      unfold dkV
      rw [List.length_map, sizeLine_eq]
      omega
    · have ed : ds.getD i .none = d := by rw [List.getD_eq_getElem?_getD, hd]; rfl
      refine ⟨B4, ?_, (e.trans et).trans e4, ?_⟩
      · rw [upd_own, upd_upd, put_dkV]
        show _ = jn B4 (upd M Dl (.dK (dkV (putI (dE kf ds i) (kf (ds.getD i .none)) i))))
        rw [ed]
      · intro b u q
        have := d4 b u q
        by_cases z : b = Dl
        · rw [z, upd_same] at this; cases this
        · rw [upd_ne z] at this ⊢; exact this
  · have ei : i = vs.length := by omega
    subst ei
    refine .inl ⟨⟨vs, hS, Nat.le_refl _⟩, ?_⟩
    show D.nx (σ.set n (some (.ref Dl))) _
    rw [jn_push hM, hlen]
    have hDn : jn B' M Dl = none := by rw [jn_N hM]; exact hB'
    have eN : Ex B' (upd B' Dl (.dK (dkV (dE kf ds ds.length)))) := ex_new hDn
    rw [hlen] at dj
    have djN : Dj (upd B' Dl (.dK (dkV (dE kf ds ds.length)))) M := dj_push dj hM
    exact q _ _ M ((e1.trans e).trans eN) ((((H.ext e1 d1).ext e djM).ext eN djN).setIm hn ⟨Dl, rfl, upd_same⟩)
end
end Mini

namespace Mini
open PySem L2 Evl PyProof.Rows
section
variable {K : PySem.W.Frag} {E : L2.St → XK} {G : Gm} {te : TE} {n : Nat} {i j : Int}
/-- x += e -/
theorem ss_aug (h : G[n]? = some (.im (isD (.int i)))) (he : Sv te G (isD (.int j))) : Ss E (tAug n te (ipI fun i j => i + j)) G (.nx (G.set n (.im (isD (.int (i + j)))))) := fun M0 D σ B M H q => by
  obtain ⟨v, a, b⟩ := H.im n _ h
  refine ⟨v, a, he M0 σ B M H _ fun y B1 e1 d1 p1 => ?_⟩
  refine ⟨i, j, dp_int b, dp_int p1, ?_⟩
  exact q _ B1 M e1 ((H.ext e1 d1).setIm (List.getElem?_eq_some_iff.mp h).1 (.int _))
end
theorem cut_mid {α : Type} (ds : List α) {a b : Int} (h0 : 0 ≤ a) (h1 : a ≤ b) (h2 : a ≤ ds.length) : cutD ds (some a) (some b) = (ds.drop a.toNat).take (b - a).toNat := by
  unfold cutD
  obtain ⟨n, rfl⟩ := Int.eq_ofNat_of_zero_le h0
  obtain ⟨m, rfl⟩ := Int.eq_ofNat_of_zero_le (Int.le_trans h0 h1)
  rw [HT.sIx_nat, HT.sIx_nat, Int.toNat_natCast, Nat.min_eq_left (show n ≤ ds.length by omega)]
  have e : ((m : Int) - (n : Int)).toNat = m - n := by omega
  rw [e]
  by_cases h : m ≤ ds.length
  · rw [Nat.min_eq_left h]
  · rw [Nat.min_eq_right (by omega), List.take_of_length_le (by rw [List.length_drop]; omega), List.take_of_length_le (by rw [List.length_drop]; omega)]
/-! a step that is made as long as it can be -/
def itS {S : Type} (f : S → Option S) (s : S) : Nat → S
  | 0 => s
  | i + 1 => match f (itS f s i) with
    | some s' => s'
    | none => itS f s i
theorem itS_cons {S : Type} {f : S → Option S} {s s' : S} (h : f s = some s') : ∀ i, itS f s (i + 1) = itS f s' i
  | 0 => by show (match f s with | some s' => s' | none => s) = s'; rw [h]
  | i + 1 => by
    show (match f (itS f s (i + 1)) with | some s' => s' | none => itS f s (i + 1)) = _
    rw [itS_cons h i]
    rfl
def runS {S R : Type} (f : S → Option S) (fin : S → R) (d : R) : Nat → S → R
  | 0, _ => d
  | n + 1, s => match f s with
    | some s' => runS f fin d n s'
    | none => fin s
theorem run_stop {S R : Type} {f : S → Option S} {fin : S → R} {d : R} (μ : S → Nat) (hμ : ∀ s s', f s = some s' → μ s' < μ s) : ∀ (n : Nat) (s : S), μ s < n → ∃ N, N ≤ μ s ∧ (∀ i, i < N → ∃ s', f (itS f s i) = some s' ∧ itS f s (i + 1) = s') ∧ f (itS f s N) = none ∧ runS f fin d n s = fin (itS f s N)
  | 0, s, h => absurd h (Nat.not_lt_zero _)
  | n + 1, s, h => by
    cases e : f s with
    | none => exact ⟨0, Nat.zero_le _, fun i hi => absurd hi (Nat.not_lt_zero _), e, by show (match f s with | some s' => runS f fin d n s' | none => fin s) = _; rw [e]; rfl⟩
    | some s' =>
      have hlt := hμ s s' e
      obtain ⟨N, h0, h1, h2, h3⟩ := run_stop μ hμ n s' (by omega)
      refine ⟨N + 1, by omega, fun i hi => ?_, by rw [itS_cons e]; exact h2, by rw [itS_cons e]; show (match f s with | some s' => runS f fin d n s' | none => fin s) = _; rw [e]; exact h3⟩
      cases i with
      | zero => exact ⟨s', e, by rw [itS_cons e]; rfl⟩
      | succ i =>
        rw [itS_cons e, itS_cons e]
        exact h1 i (by omega)
end Mini
namespace Mini
open PySem L2 Evl PyProof.Rows
section
variable {K : PySem.W.Frag} {E : L2.St → XK} {G : Gm} {ta tb : TE} {P : Ty} {ds : List PyData} {i j : Nat}
/-- a, b = (a new list, a value), through a tuple -/
theorem ss_tup2 (ha : Svl ta G ds) (hb : Sv tb G P) (hi : i < G.length := by exact Nat.le_of_ble_eq_true rfl) (hj : j < G.length := by exact Nat.le_of_ble_eq_true rfl) :
    Ss E (tAsg (tTup (tCons ta (tCons tb tNil))) (gTup K 2 (gCons (gName i) (gCons (gName j) gNil)))) G (.nx ((G.set i (.ow (isL ds))).set j (.im P))) := fun M0 D σ B M H q =>
  ha M0 σ B M H _ fun p vs B1 e1 d1 hf ha1 => by
    rw [upd_own]
    have H1 := (H.ext e1 d1).more (p := p) (o := .lst vs) hf
    refine hb M0 σ B1 _ H1 _ fun v B2 e2 d2 p2 => ?_
    have hM1 := (jn_free hf).2
    have b1 : B2 p = none := dj_free d2 upd_same
    have djM : Dj B2 M := fun a u z => by
      have w := d2 a u z
      by_cases y1 : a = p
      · rw [y1] at z; rw [b1] at z; cases z
      · rw [upd_ne y1] at w; exact w
    have K1 : Holds M0 (G.set i (.ow (isL ds))) (σ.set i (some (.ref p))) B2 (upd M p (.lst vs)) := ((H.ext e1 d1).ext e2 djM).setOw hi (by rw [jn_N hM1]; exact b1) ⟨vs, rfl, DqAll_ex e2 ha1⟩
    have K2 := K1.setIm (n := j) (v := v) (P := P) (by rw [List.length_set]; exact hj) p2
    refine ⟨by show 2 ≤ sizeLine; decide, fun t ht => ?_⟩
    rw [upd_new ht]
    refine ⟨t, _, rfl, st_of (jn_B (dj_new K2.dj ht) upd_same), rfl, _, _, rfl, _, _, rfl, rfl, ?_⟩
    exact q _ _ _ ((e1.trans e2).trans (ex_new ht)) (K2.ext (ex_new ht) (dj_new K2.dj ht))
end
end Mini

namespace Mini
open PySem L2 Evl PyProof.Rows
section
variable {K : PySem.W.Frag} {E : L2.St → XK} {G : Gm} {te ta tb tl : TE} {n : Nat} {i j l : Nat} {d d1 d2 d3 e : PyData} {ds es : List PyData} {ns : List Int} {k : Int} {b c : Bool}
/-! in, is True, str(n), tuple(range(n)) -/
theorem inV_ints (k : Int) (ns : List Int) : inV (.int k) (ns.map V.int) = decide (k ∈ ns) := by
  unfold inV
  induction ns with
  | nil => rfl
  | cons a ns ih =>
    rw [List.map_cons, List.any_cons, ih]
    show ((a == k) || decide (k ∈ ns)) = _
    by_cases e : a = k
    · subst e; simp
    · have e' : ¬ k = a := fun z => e z.symm
      simp [e, e']
theorem sv_inT (ha : Sv ta G (isD (.int k))) (hb : Sv tb G (isD (.tuple (ns.map .int)))) : Sv (tOp (rIn K false) ta tb) G (isD (.bool (decide (k ∈ ns)))) := fun M0 σ B M H Q q =>
  ha M0 σ B M H _ fun x B1 e1 d1 p1 => hb M0 σ B1 M (H.ext e1 d1) _ fun y B2 e2 d2 p2 => by
    rw [dp_int p1]
    obtain ⟨a, vs, rfl, h1, h2⟩ := dq_tup p2
    rw [DqAll_ints h2] at h1
    refine ⟨a, ns.map V.int, rfl, .inr (st_of (jn_B d2 h1)), rfl, ?_, ?_⟩
    · rw [List.all_eq_true]
      intro v hv
      obtain ⟨m, _, rfl⟩ := List.mem_map.mp hv
      rfl
    · rw [inV_ints]
      exact q _ B2 (e1.trans e2) d2 (.bl _)
abbrev rIsBl : R2 := fun x y H Q => ∃ a b, x = .bl a ∧ y = .bl b ∧ Q (.bl (decide (a = b))) H
theorem sv_isBl (ha : Sv ta G (isD (.bool b))) (hb : Sv tb G (isD (.bool c))) : Sv (tOp rIsBl ta tb) G (isD (.bool (decide (b = c)))) := fun M0 σ B M H Q q =>
  ha M0 σ B M H _ fun x B1 e1 d1 p1 => hb M0 σ B1 M (H.ext e1 d1) _ fun y B2 e2 d2 p2 => ⟨b, c, dp_bool p1, dp_bool p2, q _ B2 (e1.trans e2) d2 (.bl _)⟩
abbrev cStr : List V → Hp → VK → Prop := fun xs H Q => ∃ i, xs = [.int i] ∧ i.natAbs.log2 < 1920 ∧ Q (.str (toString i)) H
theorem sv_strI (ha : Sv ta G (isD (.int k))) (hk : k.natAbs.log2 < 1920) : Sv (tCB cStr (tCons ta tNil)) G (isD (.str (toString k))) := fun M0 σ B M H Q q =>
  ha M0 σ B M H _ fun x B1 e1 d1 p1 => ⟨k, by rw [dp_int p1], hk, q _ B1 e1 d1 (.str _)⟩
theorem sv_tupRg (ha : Sv ta G (isD (.int k))) (h0 : 0 ≤ k) (h1 : k ≤ 16777216) : Sv (tTupRg (tRg1 ta)) G (isD (.tuple ((List.range k.toNat).map fun i : Nat => PyData.int (i : Int)))) := fun M0 σ B M H Q q =>
  ha M0 σ B M H _ fun x B1 e1 d1 p1 => ⟨k, dp_int p1, RgOk.of_le (by omega) (by omega) (by omega) h0, fun t ht => by
    have e : rgV 0 k = ((List.range k.toNat).map fun i : Nat => (i : Int)).map V.int := by
      unfold rgV
      rw [Int.sub_zero, List.map_map]
      apply List.map_congr_left
      intro i _
      show V.int (0 + (i : Int)) = V.int (i : Int)
      rw [Int.zero_add]
    rw [upd_new ht, e]
    refine q _ _ (e1.trans (ex_new ht)) (dj_new d1 ht) (.tup upd_same ?_)
    have h := DqAll_ofInts (H := upd B1 t (.tup (((List.range k.toNat).map fun i : Nat => (i : Int)).map V.int))) ((List.range k.toNat).map fun i : Nat => (i : Int))
    have e5 : ((List.range k.toNat).map fun i : Nat => (i : Int)).map PyData.int = (List.range k.toNat).map fun i : Nat => PyData.int (i : Int) := by rw [List.map_map]; rfl
    rw [e5] at h
    exact h⟩
/-! a, b, c = a tuple; xs().append(e) of a new list that nobody holds -/
theorem ss_unpT3 (h : Sv te G (isD (.tuple [d1, d2, d3]))) (hi : i < G.length := by exact Nat.le_of_ble_eq_true rfl) (hj : j < G.length := by exact Nat.le_of_ble_eq_true rfl) (hl : l < G.length := by exact Nat.le_of_ble_eq_true rfl) :
    Ss E (tAsg te (gTup K 3 (gCons (gName i) (gCons (gName j) (gCons (gName l) gNil))))) G (.nx (((G.set i (.im (isD d1))).set j (.im (isD d2))).set l (.im (isD d3)))) := fun M0 D σ B M H q => by
  refine h M0 σ B M H _ fun v B' e dj p => ?_
  obtain ⟨a, vs, rfl, h1, h2⟩ := dq_tup p
  cases h2 with
  | cons p1 h2 => cases h2 with
    | cons p2 h2 => cases h2 with
      | cons p3 h2 =>
        cases h2
        refine ⟨a, _, rfl, st_of (jn_B dj h1), rfl, _, _, rfl, _, _, rfl, _, _, rfl, rfl, ?_⟩
        exact q _ B' M e ((((H.ext e dj).setIm (P := isD d1) hi p1).setIm (P := isD d2) (by rw [List.length_set]; exact hj) p2).setIm (P := isD d3) (by rw [List.length_set, List.length_set]; exact hl) p3)
theorem ss_unpT2 (h : Sv te G (isD (.tuple [d1, d2]))) (hi : i < G.length := by exact Nat.le_of_ble_eq_true rfl) (hj : j < G.length := by exact Nat.le_of_ble_eq_true rfl) :
    Ss E (tAsg te (gTup K 2 (gCons (gName i) (gCons (gName j) gNil)))) G (.nx ((G.set i (.im (isD d1))).set j (.im (isD d2)))) := fun M0 D σ B M H q => by
  refine h M0 σ B M H _ fun v B' e dj p => ?_
  obtain ⟨a, vs, rfl, h1, h2⟩ := dq_tup p
  cases h2 with
  | cons p1 h2 => cases h2 with
    | cons p2 h2 =>
      cases h2
      refine ⟨a, _, rfl, st_of (jn_B dj h1), rfl, _, _, rfl, _, _, rfl, rfl, ?_⟩
      exact q _ B' M e (((H.ext e dj).setIm (P := isD d1) hi p1).setIm (P := isD d2) (by rw [List.length_set]; exact hj) p2)
theorem ss_appT (h : Svl tl G ds) (he : Sv te G (isD e)) (hz : ds.length < sizeLine) : Ss E (tDrop (tBM K "list" rAppend tl (tCons te tNil))) G (.nx G) := fun M0 D σ B M H q => by
  refine h M0 σ B M H _ fun p vs B1 e1 d1 hf ha => ?_
  rw [upd_own]
  refine ⟨Or.inl ⟨rfl, vs, sq_of (jn_M upd_same)⟩, ?_⟩
  have H1 := (H.ext e1 d1).more (p := p) (o := .lst vs) hf
  refine he M0 σ B1 _ H1 _ fun v B2 e2 d2 p2 => ?_
  refine ⟨p, vs, v, rfl, rfl, jn_M upd_same, by rw [DqAll_len ha]; exact hz, ?_⟩
  rw [upd_own]
  have djM : Dj B2 M := fun a u z => by
    have w := d2 a u z
    by_cases y1 : a = p
    · subst y1; exact (jn_free hf).2
    · rw [upd_ne y1] at w; exact w
  have hfp : jn B2 M p = none := by rw [jn_N (jn_free hf).2]; exact dj_free d2 upd_same
  have e3 : upd (upd M p (.lst vs)) p (.lst (vs ++ [v])) = upd M p (.lst (vs ++ [v])) := by
    funext a
    by_cases y1 : a = p
    · subst y1; rw [upd_same, upd_same]
    · rw [upd_ne y1, upd_ne y1, upd_ne y1]
  rw [e3]
  exact q σ B2 _ (e1.trans e2) (((H.ext e1 d1).ext e2 djM).more hfp)
end
end Mini

namespace Mini
open PySem L2 Evl PyProof.Rows
theorem eqvB (a b : Bool) : PyData.eqv (.bool a) (.bool b) = decide (a = b) := by cases a <;> cases b <;> decide +kernel
theorem shapedB (a : Bool) : SeqAt.shaped (.bool a) = true := by cases a <;> decide +kernel
theorem eqvInt (a b : Int) : PyData.eqv (.int a) (.int b) = decide (a = b) := by
  unfold PyData.eqv
  by_cases h : a = b
  · simp [h]
  · simp [h]
theorem shapedI (a : Int) : SeqAt.shaped (.int a) = true := by simp [SeqAt.shaped, PyData.canLay0, PyData.depth]
section
variable {K : PySem.W.Frag} {E : L2.St → XK} {G : Gm} {te ta tb tl : TE} {b c : Bool} {i j : Int} {a a' : List Int} {ds es : List PyData}
/-- tests that compare with what is due -/
theorem neB (h1 : Sv ta G (isD (.bool b))) (h2 : Sv tb G (isD (.bool c))) (e : b = c) : St' (tTest (tOp (rNeD K) ta tb)) G false := st_is (st_test (sv_ne h1 h2 (shapedB _) (shapedB _))) (by rw [eqvB, decide_eq_true e]; rfl)
theorem neM (h1 : Sv ta G (isD (.int i))) (h2 : Sv tb G (isD (.int j))) (e : i = j) : St' (tTest (tOp (rNeD K) ta tb)) G false := st_is (st_test (sv_neI h1 h2)) (by simp [e])
theorem neT (h1 : Sv ta G (isD (.tuple (a.map .int)))) (h2 : Sv tb G (isD (.tuple (a'.map .int)))) (e : a = a') : St' (tTest (tOp (rNeD K) ta tb)) G false := st_is (st_test (sv_ne h1 h2 (shaped_tints a) (shaped_tints a'))) (by rw [eqv_tints, decide_eq_true e]; rfl)
theorem neLI (h1 : Sv ta G (isD (.list (a.map .int)))) (h2 : Sv tb G (isD (.list (a'.map .int)))) (e : a = a') : St' (tTest (tOp (rNeD K) ta tb)) G false := st_is (st_test (sv_ne h1 h2 (shaped_ints a) (shaped_ints a'))) (by rw [eqv_ints, decide_eq_true e]; rfl)
theorem neD {d : PyData} (h1 : Sv ta G (isD d)) (h2 : Sv tb G (isD d)) (hs : SeqAt.shaped d = true) : St' (tTest (tOp (rNeD K) ta tb)) G false := st_is (st_test (sv_ne h1 h2 hs hs)) (by rw [SeqAt.eqv_refl d (SeqAt.canLay_of_shaped hs)]; rfl)
end
/-- all that come of tests with the index -/
def fil (f : Nat → Bool) (n : Nat) : List Nat := (List.range n).filter f
theorem fil_succ (f : Nat → Bool) (n : Nat) : fil f (n + 1) = if f n = true then fil f n ++ [n] else fil f n := by
  unfold fil
  rw [List.range_succ, List.filter_append]
  by_cases h : f n = true
  · simp [h]
  · simp [h]
end Mini

namespace Mini
open PySem L2 Evl PyProof.Rows
theorem dl_nd : ∀ (l acc : List Int), acc.Nodup → (l.foldl (fun acc x => if acc.any (fun y => y == x) = true then acc else acc ++ [x]) acc).length = acc.length + l.length → (acc ++ l).Nodup
  | [], acc, h, _ => by rw [List.append_nil]; exact h
  | x :: l, acc, h, e => by
    rw [List.foldl_cons] at e
    have hle : ∀ (l acc : List Int), (l.foldl (fun acc x => if acc.any (fun y => y == x) = true then acc else acc ++ [x]) acc).length ≤ acc.length + l.length := by
      intro l
      induction l with
      | nil => intro acc; simp
      | cons a l ih =>
        intro acc
        rw [List.foldl_cons]
        split
        · have := ih acc; rw [List.length_cons]; omega
        · have := ih (acc ++ [a]); rw [List.length_append, List.length_singleton] at this; rw [List.length_cons]; omega
    by_cases c : (acc.any fun y => y == x) = true
    · rw [if_pos c] at e
      have := hle l acc
      rw [e, List.length_cons] at this
      omega
    · rw [if_neg c] at e
      have hx : x ∉ acc := fun z => c (by rw [dl_any]; exact decide_eq_true z)
      have hnd : (acc ++ [x]).Nodup := by
        rw [List.nodup_append]
        refine ⟨h, by simp, fun a ha b hb => ?_⟩
        rw [List.mem_singleton] at hb
        rw [hb]
        exact fun z => hx (z ▸ ha)
      have := dl_nd l (acc ++ [x]) hnd (by rw [e, List.length_append, List.length_singleton, List.length_cons]; omega)
      rw [List.append_assoc] at this
      exact this
theorem nd_dl : ∀ (l acc : List Int), (acc ++ l).Nodup → (l.foldl (fun acc x => if acc.any (fun y => y == x) = true then acc else acc ++ [x]) acc).length = acc.length + l.length
  | [], acc, _ => by simp
  | x :: l, acc, h => by
    rw [List.foldl_cons]
    have hx : x ∉ acc := fun z => by
      rw [List.nodup_append] at h
      exact h.2.2 x z x List.mem_cons_self rfl
    have c : ¬ (acc.any fun y => y == x) = true := by rw [dl_any]; exact fun z => hx (of_decide_eq_true z)
    rw [if_neg c, nd_dl l (acc ++ [x]) (by rw [List.append_assoc]; exact h), List.length_append, List.length_singleton, List.length_cons]
    omega
theorem nd_get {l : List Int} (h : l.Nodup) {i j : Nat} (hi : i < l.length) (hj : j < l.length) (e : l[i] = l[j]) : i = j := by
  have p := List.pairwise_iff_getElem.mp h
  rcases Nat.lt_trichotomy i j with z | z | z
  · exact absurd e (p i j hi hj z)
  · exact z
  · exact absurd e.symm (p j i hj hi z)
end Mini

namespace Mini
open PySem L2 Evl PyProof.Rows
/-! ### xs[a::c] of a list -/
def placesI (n : Nat) (i c : Int) : List Nat := sliceRange (sliceBounds (some i) none (some c) n).1 (sliceBounds (some i) none (some c) n).2.1 (sliceBounds (some i) none (some c) n).2.2
def stepL {α : Type} (xs : List α) (i c : Int) : List α := (placesI xs.length i c).filterMap fun j => xs[j]?
theorem step_pick (xs : List Value) (i c : Int) : slicePick xs.toArray (some i) none (some c) = (stepL xs i c).toArray := by
  unfold slicePick stepL placesI
  rw [List.size_toArray]
  congr 1
  refine congrArg (fun f => List.filterMap f _) (funext fun x => ?_)
  rw [List.getElem?_toArray]
theorem placesI_len (n : Nat) {i c : Int} (hc : 0 < c) : (placesI n i c).length ≤ n := by
  have e : placesI n i c = sliceRange (max 0 (min (if i < 0 then i + (n : Int) else i) (n : Int))) n c := by
    unfold placesI sliceBounds
    simp only [Option.getD_some, gt_iff_lt, hc, if_true]
  rw [e]
  unfold sliceRange
  rw [List.length_map, List.length_range, if_pos hc]
  generalize hb : max 0 (min (if i < 0 then i + (n : Int) else i) (n : Int)) = b
  have hb0 : 0 ≤ b := by rw [← hb]; omega
  have hbn : b ≤ n := by rw [← hb]; omega
  by_cases h : b < (n : Int)
  · rw [if_pos h]
    have h1 := ceilDiv_le ((n : Int) - b) c (by omega) (by omega)
    omega
  · rw [if_neg h]; simp
theorem filterMap_len {α β : Type} (f : α → Option β) (l : List α) : (l.filterMap f).length ≤ l.length := List.length_filterMap_le f l
theorem vals_step {vs : List V} {us : List Value} (r : Vals vs us) (l : List Nat) : Vals (l.filterMap fun j => vs[j]?) (l.filterMap fun j => us[j]?) := by
  induction l with
  | nil => exact .nil
  | cons j l ih =>
    rw [List.filterMap_cons, List.filterMap_cons]
    cases e : vs[j]? with
    | none =>
      have e2 : us[j]? = none := by
        rw [List.getElem?_eq_none_iff] at e ⊢
        rw [← r.length]; exact e
      rw [e2]; exact ih
    | some v =>
      obtain ⟨u, e2, ru⟩ := r.get e
      rw [e2]; exact .cons ru ih
theorem DqAll_step {B : Hp} {ds : List PyData} {vs : List V} (h : DqAll B vs ds) (l : List Nat) : DqAll B (l.filterMap fun j => vs[j]?) (l.filterMap fun j => ds[j]?) := by
  induction l with
  | nil => exact .nil
  | cons j l ih =>
    rw [List.filterMap_cons, List.filterMap_cons]
    cases e : ds[j]? with
    | none =>
      have e2 : vs[j]? = none := by
        rw [List.getElem?_eq_none_iff] at e ⊢
        rw [DqAll_len h]; exact e
      rw [e2]; exact ih
    | some d =>
      obtain ⟨v, e2, q⟩ := DqAll_get h e
      rw [e2]; exact .cons q ih
def tStep (K : PySem.W.Frag) (te ta tc : TE) : TE := fun σ H Q => te σ H fun x H1 => tPart ta σ H1 fun lo H2 => tPart tc σ H2 fun st H3 => ∃ a xs i c, x = .ref a ∧ lo = some i ∧ st = some c ∧ 0 < c ∧ SqL K H3 a xs ∧ ∀ p, H3 p = none → Q (.ref p) (upd H3 p (.lst (stepL xs i c)))
theorem pe_step {X : Cx} {K : PySem.W.Frag} {e ea ec : Expr} {te ta tc : TE} {p3 pos : Pos} (he : PE X e te) (ha : PE X ea ta) (hc : PE X ec tc) (hK : X.K = K := by rfl) : PE X (.Subscript e (.Slice (some ea) none (some ec) p3) pos) (tStep K te ta tc) := by
  subst hK
  refine ⟨fun pins s σ H Q I h => ?_⟩
  refine Subscript_ (thn (he.run pins s σ H _ I h) fun v s1 ⟨x, H1, I1, r1, q1⟩ => ?_)
  refine wpAny_Slice (thn ((po_some ha).run pins s1 σ H1 _ I1 q1) fun vl s2 ⟨l, H2, I2, pl, q2⟩ => ?_)
  refine thn (po_none.run pins s2 σ H2 (fun o H3 => o = none ∧ H3 = H2) I2 ⟨rfl, rfl⟩) fun vu s3 ⟨u, H3, I3, pu, eu, e3⟩ => ?_
  subst eu e3
  refine thn ((po_some hc).run pins s3 σ H3 _ I3 q2) fun vs s4 ⟨o, H4, I4, ps, a, xs, y, c, ex, el, eo, hc0, hx, q⟩ => ?_
  subst el
  subst eo ex
  cases r1
  have I5 : Inv X pins σ H4 { s4 with heap := s4.heap.push { cls := .type "slice", data := .fields #[vl, vu, vs] } } := I4.kept (t' := s4.toks) fun b ob q => Heap.get?_push_of_some _ q
  obtain ⟨its, r, ht, hz⟩ := I5.list hx
  have hlen := r.length
  show wpAny (model X.prog X.w) X.A (subscriptTail e (.Slice (some ea) none (some ec) p3) (.ref a) (.ref s4.heap.objs.size)) (EP X pins σ Q) X.xe { s4 with heap := s4.heap.push { cls := .type "slice", data := .fields #[vl, vu, vs] } }
  refine tail_any (ops := [.ref a, .ref s4.heap.objs.size]) ht.isList.typeIs (PySem.slot_list_getitem.lookup) ?_ (by with_unfolding_all rfl)
  refine wpAny_getItem_list_slice ht.isList (Heap.IsSliceOf.new _ vl vu vs) pl pu ps (by intro z; cases z; omega) ?_ (by rw [List.size_toArray]; omega)
  rw [step_pick]
  refine ⟨.ref _, _, I5.laid (t' := s4.toks) (o := .lst (stepL xs y c)) (fun b ob q => Heap.get?_push_of_some _ q) (Nat.le_refl _) ?_, rfl, q _ (I5.hok.fresh (Nat.le_refl _))⟩
  have hsl : (stepL xs y c).length ≤ xs.length := Nat.le_trans (filterMap_len _ _) (placesI_len _ hc0)
  have hvv : Vals (stepL xs y c) (stepL its y c) := by
    unfold stepL
    rw [hlen]
    exact vals_step r _
  exact ⟨Nat.le_trans hsl hz, _, 0, hvv, Heap.get?_push_size _ rfl⟩
section
variable {K : PySem.W.Frag} {G : Gm} {te ta tc : TE} {ds : List PyData} {i c : Int}
theorem svl_step (h : Rl te G ds) (ha : Sv ta G (isD (.int i))) (hc : Sv tc G (isD (.int c))) (h0 : 0 < c) : Svl (tStep K te ta tc) G (stepL ds i c) := fun M0 σ B M H Q q =>
  h M0 σ B M H _ fun a vs B1 e1 d1 hh q1 => ha M0 σ B1 M (H.ext e1 d1) _ fun y B2 e2 d2 p2 => ⟨i, dp_int p2, hc M0 σ B2 M ((H.ext e1 d1).ext e2 d2) _ fun z B3 e3 d3 p3 => ⟨c, dp_int p3, by
    have hh3 : jn B3 M a = some (.lst vs) := jn_mono (e2.trans e3) d3 a _ hh
    refine ⟨a, vs, i, c, rfl, rfl, rfl, h0, sq_of hh3, fun p hp => q p _ B3 ((e1.trans e2).trans e3) d3 hp ?_⟩
    have q3 := DqAll_ex (e2.trans e3) q1
    unfold stepL
    rw [DqAll_len q3]
    exact DqAll_step q3 _⟩⟩
end
/-- a column of a table of s rows of k -/
theorem placesI_col {s k i : Nat} (hi : i < k) : placesI (s * k) i k = (List.range s).map fun j => i + k * j := by
  unfold placesI sliceBounds sliceRange
  have hk : (0 : Int) < (k : Int) := by omega
  simp only [Option.getD_some, gt_iff_lt, hk, if_true]
  rw [if_neg (show ¬ ((i : Int) < 0) by omega)]
  cases s with
  | zero =>
    rw [Nat.zero_mul]
    have e : max 0 (min (i : Int) ((0 : Nat) : Int)) = 0 := by omega
    rw [e]; rfl
  | succ s =>
    have hm : k ≤ (s + 1) * k := by rw [Nat.succ_mul]; omega
    have e : max 0 (min (i : Int) (((s + 1) * k : Nat) : Int)) = i := by omega
    rw [e, if_pos (by omega)]
    have ec : ((((s + 1) * k : Nat) : Int) - i + k - 1) / (k : Int) = ((s + 1 : Nat) : Int) := by
      have h1 : (((s + 1) * k : Nat) : Int) = ((s + 1 : Nat) : Int) * (k : Int) := Int.natCast_mul _ _
      rw [h1]
      have h2 : ((s + 1 : Nat) : Int) * (k : Int) - i + k - 1 = (k - 1 - i) + ((s + 1 : Nat) : Int) * (k : Int) := by omega
      rw [h2, Int.add_mul_ediv_right _ _ (by omega), Int.ediv_eq_zero_of_lt (by omega) (by omega), Int.zero_add]
    rw [ec, Int.toNat_natCast]
    refine List.map_congr_left fun j _ => ?_
    rw [← Int.natCast_mul, ← Int.natCast_add, Int.toNat_natCast]
theorem step_col {xs : List Int} {s k i : Nat} (hi : i < k) (hl : xs.length = s * k) : stepL xs i k = (List.range s).map fun j => xs.getD (i + k * j) 0 := by
  unfold stepL
  rw [hl, placesI_col hi]
  rw [List.filterMap_map]
  have h : ∀ j ∈ List.range s, ((fun j => xs[j]?) ∘ fun j => i + k * j) j = some (xs.getD (i + k * j) 0) := fun j hj => by
    have hj := List.mem_range.mp hj
    have hb : i + k * j < xs.length := by
      rw [hl]
      have h1 : (j + 1) * k ≤ s * k := Nat.mul_le_mul_right k (by omega)
      rw [Nat.succ_mul, Nat.mul_comm j k] at h1
      omega
    show xs[i + k * j]? = _
    rw [List.getD_eq_getElem?_getD, List.getElem?_eq_getElem hb]; rfl
  have f : ∀ (l : List Nat), (∀ j ∈ l, ((fun j => xs[j]?) ∘ fun j => i + k * j) j = some (xs.getD (i + k * j) 0)) → l.filterMap ((fun j => xs[j]?) ∘ fun j => i + k * j) = l.map fun j => xs.getD (i + k * j) 0 := by
    intro l
    induction l with
    | nil => intro _; rfl
    | cons a l ih => intro g; rw [List.filterMap_cons, g a List.mem_cons_self, List.map_cons, ih fun j hj => g j (List.mem_cons_of_mem _ hj)]
  exact f _ h
theorem step_map {α β : Type} (f : α → β) (xs : List α) (i c : Int) : stepL (xs.map f) i c = (stepL xs i c).map f := by
  unfold stepL
  rw [List.length_map, List.map_filterMap]
  refine congrArg (fun g => List.filterMap g _) (funext fun x => ?_)
  rw [List.getElem?_map]
end Mini

namespace Mini
open PySem L2 Evl PyProof.Rows
/-! ### two loops in a comprehension, over whatever is walked -/
def WkOk (J : It) (B : Hp) (ds : List PyData) : Prop := ∀ B2 M2, Ex B B2 → Dj B2 M2 → (∀ i, ds.length ≤ i → J.stop i (jn B2 M2)) ∧ (∀ i, i < ds.length → J.go i (jn B2 M2)) ∧ ∀ i x H', i < ds.length → J.yld i (jn B2 M2) x H' → H' = jn B2 M2 ∧ ∃ d, ds[i]? = some d ∧ Dq B2 x d
def Wk (wi : TI) (G : Gm) (ds : List PyData) : Prop := ∀ (M0 : Hp) (σ : L2.St) (B M : Hp), Holds M0 G σ B M → ∀ R : It → Hp → Prop, (∀ J B', Ex B B' → Dj B' M → WkOk J B' ds → R J (jn B' M)) → wi σ (jn B M) R
section
variable {K : PySem.W.Frag} {G : Gm} {te tl : TE} {wi wi1 : TI} {j l : Nat} {ds : List PyData} {n : Int}
theorem wk_list (h : Sv tl G (isD (.list ds))) : Wk (iList K tl) G ds := fun M0 σ B M H R q => h M0 σ B M H _ fun v B1 e1 d1 p1 => by
  obtain ⟨a, vs, rfl, hh, q1⟩ := dq_lst p1
  have hlen := DqAll_len q1
  refine ⟨a, rfl, ⟨vs, sq_of (jn_B d1 hh)⟩, q _ B1 e1 d1 fun B2 M2 e2 d2 => ?_⟩
  have hS : SqL K (jn B2 M2) a vs := sq_of (jn_B d2 (e2 _ _ hh))
  refine ⟨fun i hi => ⟨vs, hS, by omega⟩, fun i hi => ⟨vs, vs[i]'(by omega), hS, List.getElem?_eq_getElem (by omega)⟩, fun i x H' hi hy => ?_⟩
  obtain ⟨rfl, hx⟩ := hy
  obtain ⟨d, hd, px⟩ := DqAll_getV q1 (hx vs hS)
  exact ⟨rfl, d, hd, Dq_ex e2 d x px⟩
theorem wk_tup (h : Sv tl G (isD (.tuple ds))) : Wk (iTup K tl) G ds := fun M0 σ B M H R q => h M0 σ B M H _ fun v B1 e1 d1 p1 => by
  obtain ⟨a, vs, rfl, hh, q1⟩ := dq_tup p1
  have hlen := DqAll_len q1
  refine ⟨a, rfl, ⟨vs, st_of (jn_B d1 hh)⟩, q _ B1 e1 d1 fun B2 M2 e2 d2 => ?_⟩
  have hS : SqT K (jn B2 M2) a vs := st_of (jn_B d2 (e2 _ _ hh))
  refine ⟨fun i hi => ⟨vs, hS, by omega⟩, fun i hi => ⟨vs, vs[i]'(by omega), hS, List.getElem?_eq_getElem (by omega)⟩, fun i x H' hi hy => ?_⟩
  obtain ⟨rfl, hx⟩ := hy
  obtain ⟨d, hd, px⟩ := DqAll_getV q1 (hx vs hS)
  exact ⟨rfl, d, hd, Dq_ex e2 d x px⟩
theorem wk_rng (h : Sv te G (isD (.int n))) (h1 : n ≤ 2 ^ 60) (h0 : -(2 ^ 60) ≤ n) : Wk (iRng1 (tCons te tNil)) G ((List.range n.toNat).map fun i : Nat => .int (i : Int)) := fun M0 σ B M H R q => h M0 σ B M H _ fun v B1 e1 d1 p1 => by
  refine ⟨n, by rw [dp_int p1], by omega, by omega, q _ B1 e1 d1 fun B2 M2 e2 d2 => ?_⟩
  rw [List.length_map, List.length_range]
  refine ⟨fun i hi => hi, fun i hi => hi, fun i x H' hi hy => ?_⟩
  obtain ⟨rfl, rfl⟩ := hy
  refine ⟨rfl, .int (i : Int), ?_, ?_⟩
  · rw [List.getElem?_map, List.getElem?_range hi]; rfl
  · rw [Int.zero_add]; exact .int _
theorem svl_lc2 (h : Wk wi G ds) (es : PyData → List PyData) (y : PyData → PyData → PyData) (hj : j < G.length) (hl : l < G.length) (hjl : j ≠ l) (hz : (ds.flatMap fun d => (es d).map (y d)).length < 10000000) (hi : ∀ d ∈ ds, Wk wi1 (Gv2 G j l d) (es d)) (he : ∀ d ∈ ds, ∀ f ∈ es d, Sv te (Gv (Gv2 G j l d) l f) (isD (y d f))) :
    Svl (tLc2 wi (gName j) tYes wi1 (gName l) tYes te [j, l] [l]) G (ds.flatMap fun d => (es d).map (y d)) := fun M0 σ B M H Q q => h M0 σ B M H _ fun J B1 e1 d1 w1 Dl hD => by
  have hM := (jn_free hD).2
  let F : PyData → List PyData := fun d => (es d).map (y d)
  refine ⟨fun i m H' => i ≤ ds.length ∧ m = ds.length - i ∧ Pvc B1 M Dl (fun i => (ds.take i).flatMap F) i H', ⟨ds.length, Nat.zero_le _, rfl, B1, [], by rw [upd_own], Ex.refl B1, dj_own d1 (jn_free hD).1, .nil⟩, fun i m H' hW => ?_⟩
  obtain ⟨hle, rfl, B', acc, rfl, e, dj, ha⟩ := hW
  have hB' : B' Dl = none := dj_free dj upd_same
  have djM : Dj B' M := fun a u q => by
    have := dj a u q
    by_cases z : a = Dl
    · rw [z]; exact hM
    · rw [upd_ne z] at this; exact this
  obtain ⟨w1s, w1g, w1y⟩ := w1 B' (upd M Dl (.lst acc)) e dj
  by_cases z : i < ds.length
  · refine .inr ⟨w1g i z, fun H' => Pvc B1 M Dl (fun i => (ds.take i).flatMap F) (i + 1) H', fun H' p => ⟨ds.length - (i + 1), by omega, by omega, rfl, p⟩, fun x H' hy => ?_⟩
    obtain ⟨rfl, d, hd, px⟩ := w1y i x H' z hy
    refine ⟨wipe_two σ hjl x, ?_⟩
    have H2 : Holds M0 (Gv2 G j l d) ((L2.wipe σ [j, l]).set j (some x)) B' (upd M Dl (.lst acc)) := by
      have h1 := (((H.ext e1 d1).ext e djM).wipes [j, l]).more (p := Dl) (o := .lst acc) (show jn B' M Dl = none by rw [jn_N hM]; exact hB')
      exact h1.setIm (by show j < ((G.set l .no).set j .no).length; rw [List.length_set, List.length_set]; exact hj) px
    refine tyes_ite ?_
    refine hi d (List.mem_of_getElem? hd) M0 _ _ _ H2 _ fun J4 B4 e4 d4 w4 => ?_
    have hlt : ((ds.take (i + 1)).flatMap F) = (ds.take i).flatMap F ++ F d := by rw [List.take_succ, hd, List.flatMap_append]; simp
    have hFl : (F d).length = (es d).length := List.length_map _
    have htot : ((ds.take i).flatMap F).length + (F d).length < 10000000 := by
      rw [← List.length_append, ← hlt]
      have e2 : ds.flatMap F = (ds.take (i + 1)).flatMap F ++ (ds.drop (i + 1)).flatMap F := by rw [← List.flatMap_append, List.take_append_drop]
      have hz' : (ds.flatMap F).length < 10000000 := hz
      rw [e2, List.length_append] at hz'
      omega
    refine ⟨fun r k H' => r ≤ (es d).length ∧ k = (es d).length - r ∧ ∃ B5 acc5, H' = jn B5 (upd M Dl (.lst acc5)) ∧ Ex B4 B5 ∧ Dj B5 (upd M Dl (.lst acc5)) ∧ DqAll B5 acc5 ((ds.take i).flatMap F ++ (F d).take r), ⟨(es d).length, Nat.zero_le _, rfl, B4, acc, rfl, Ex.refl _, d4, ?_⟩, fun r k H' hW1 => ?_⟩
    · rw [List.take_zero, List.append_nil]
      exact DqAll_ex e4 ha
    obtain ⟨hr, rfl, B5, acc5, rfl, e5, dj5, ha5⟩ := hW1
    obtain ⟨w4s, w4g, w4y⟩ := w4 B5 (upd M Dl (.lst acc5)) e5 dj5
    have hB5 : B5 Dl = none := dj_free dj5 upd_same
    have djM5 : Dj B5 M := fun a u q => by
      have := dj5 a u q
      by_cases z : a = Dl
      · rw [z]; exact hM
      · rw [upd_ne z] at this; exact this
    by_cases zr : r < (es d).length
    · refine .inr ⟨w4g r zr, fun H' => ∃ B5 acc5, H' = jn B5 (upd M Dl (.lst acc5)) ∧ Ex B4 B5 ∧ Dj B5 (upd M Dl (.lst acc5)) ∧ DqAll B5 acc5 ((ds.take i).flatMap F ++ (F d).take (r + 1)), fun H' p => ⟨(es d).length - (r + 1), by omega, by omega, rfl, p⟩, fun x1 H' hy1 => ?_⟩
      obtain ⟨rfl, f, hf, py⟩ := w4y r x1 H' zr hy1
      refine ⟨wipe_one _ l x1, ?_⟩
      refine tyes_ite ?_
      have e15 : Ex B1 B5 := (e.trans e4).trans e5
      have H5 : Holds M0 (Gv2 G j l d) ((L2.wipe σ [j, l]).set j (some x)) B5 (upd M Dl (.lst acc5)) := by
        have h1 := (((H.ext e1 d1).ext e15 djM5).wipes [j, l]).more (p := Dl) (o := .lst acc5) (show jn B5 M Dl = none by rw [jn_N hM]; exact hB5)
        exact h1.setIm (by show j < ((G.set l .no).set j .no).length; rw [List.length_set, List.length_set]; exact hj) (Dq_ex (e4.trans e5) d x px)
      have H6 : Holds M0 (Gv (Gv2 G j l d) l f) ((L2.wipe ((L2.wipe σ [j, l]).set j (some x)) [l]).set l (some x1)) B5 (upd M Dl (.lst acc5)) :=
        (H5.wipes [l]).setIm (by show l < ((((G.set l .no).set j .no).set j (.im (isD d))).set l .no).length; rw [List.length_set, List.length_set, List.length_set, List.length_set]; exact hl) py
      refine he d (List.mem_of_getElem? hd) f (List.mem_of_getElem? hf) M0 _ _ _ H6 _ fun v B7 e7 d7 p7 => ?_
      refine ⟨acc5, jn_M upd_same, ?_, ?_⟩
      · rw [DqAll_len ha5, List.length_append, List.length_take, sizeLine_eq]; omega
      · rw [upd_own, upd_upd]
        refine ⟨B7, acc5 ++ [v], rfl, e5.trans e7, ?_, ?_⟩
        · intro a u q
          have := d7 a u q
          by_cases z : a = Dl
          · rw [z, upd_same] at this; cases this
          · rw [upd_ne z] at this ⊢; exact this
        · have hFr : (F d)[r]? = some (y d f) := by show ((es d).map (y d))[r]? = _; rw [List.getElem?_map, hf]; rfl
          rw [List.take_succ, hFr, ← List.append_assoc]
          exact DqAll_append (DqAll_ex e7 ha5) (.cons p7 .nil)
    · have er : r = (es d).length := by omega
      subst er
      refine .inl ⟨w4s _ (Nat.le_refl _), B5, acc5, rfl, (e.trans e4).trans e5, dj5, ?_⟩
      show DqAll B5 acc5 ((ds.take (i + 1)).flatMap F)
      rw [hlt]
      rw [← hFl, List.take_length] at ha5
      exact ha5
  · have ei : i = ds.length := by omega
    subst ei
    refine .inl ⟨w1s _ (Nat.le_refl _), ?_⟩
    refine lc_end (es := fun i => (ds.take i).flatMap F) (i := ds.length) hM (Ex.refl _) (fun p us B2 e2 dj2 hf hv => ?_) _ ⟨B', acc, rfl, e, dj, ha⟩
    rw [List.take_length] at hv
    exact q p us B2 (e1.trans e2) dj2 hf hv
end
/-! ### what stands where in lists put together -/
theorem flat_len {α : Type} {f : Nat → List α} {L : Nat} (hf : ∀ q, (f q).length = L) : ∀ s : Nat, ((List.range s).flatMap f).length = s * L
  | 0 => by simp
  | s + 1 => by rw [List.range_succ, List.flatMap_append, List.length_append, flat_len hf s, Nat.succ_mul]; simp [hf]
theorem flat_get {α : Type} {f : Nat → List α} {L : Nat} (hf : ∀ q, (f q).length = L) (d : α) {q k : Nat} (hk : k < L) : ∀ s : Nat, q < s → ((List.range s).flatMap f).getD (q * L + k) d = (f q).getD k d
  | 0, h => by omega
  | s + 1, h => by
    rw [List.range_succ, List.flatMap_append]
    have hl := flat_len hf s
    by_cases z : q < s
    · have hb : q * L + k < s * L := by
        have : (q + 1) * L ≤ s * L := Nat.mul_le_mul_right L z
        rw [Nat.succ_mul] at this
        omega
      rw [List.getD_eq_getElem?_getD, List.getElem?_append_left (by rw [hl]; exact hb), ← List.getD_eq_getElem?_getD]
      exact flat_get hf d hk s z
    · have e : q = s := by omega
      subst e
      rw [List.getD_eq_getElem?_getD, List.getElem?_append_right (by rw [hl]; omega), hl]
      have e2 : q * L + k - q * L = k := by omega
      rw [e2]
      simp
end Mini

namespace Mini
open PySem L2 Evl PyProof.Rows
theorem pe_tupleOfK {X : Cx} {K : PySem.W.Frag} {a : Expr} {ta : TE} {p pos : Pos} (hg : Gl X "tuple") (hm : X.mg "tuple" = none) (ha : PE X a ta) (na : starEach [a] X.env = (false, eval a X.env) :: starEach [] X.env := by rfl) (hK : X.K = K := by rfl) : PE X (.Call (.Name "tuple" p) [a] [] pos) (tThen ta (kTup K)) := by
  subst hK
  exact pe_tupleOf hg hm ha na
/-- a comprehension within a comprehension -/
theorem blkOk_in {N : List Str} {scope sc0 scD : Scope} {own : List (Str × Nat)} {env : Env} (hs : env.scope = scD) (h : blkC N (relabel sc0 (envOfC "" scD 0 0 .none)) scope own = true) : BlkOk N (relabel sc0 env) scope own := by
  have e : relabel sc0 env = relabel sc0 (envOfC "" scD 0 0 .none) := by
    unfold relabel Env.kindOf
    rw [hs]
    rfl
  rw [e]
  exact blkOk_by h
end Mini

namespace Mini
open PySem L2 Evl PyProof.Rows
section
variable {K : PySem.W.Frag} {E : L2.St → XK} {tu ts : TS} {te tl ta tb : TE} {tt : TT} {G : Gm} {o : Out} {ds es : List PyData} {n lo hi : Int} {j l : Nat}
/-- for i, x in enumerate(a list that stays) -/
theorem ss_forE (h : Sv tl G (isD (.list ds))) (Gi : Nat → Gm) (N : Nat) (hN : N ≤ ds.length) (h0 : Le G (Gi 0)) (hj : ∀ i, i ≤ N → j < (Gi i).length) (hl : ∀ i, i ≤ N → l < (Gi i).length)
    (hs : ∀ i d, ds[i]? = some d → i < N → Turn E tu (((Gi i).set j (.im (isD (.int (i : Int))))).set l (.im (isD d))) (Gi (i + 1)))
    (hd : EndsAs E tu Gi (fun i => ((Gi i).set j (.im (isD (.int (i : Int))))).set l (.im (isD (ds.getD i .none)))) N ds.length o) :
    Ss E (tFor (iEnum K (tCons tl tNil)) (gTup K 2 (gCons (gName j) (gCons (gName l) gNil))) tu) G o := fun M0 D σ B M H q =>
  h M0 σ B M H _ fun v B1 e1 d1 p1 => by
    obtain ⟨a, vs, rfl, ha, hv⟩ := dq_lst p1
    have hlen := DqAll_len hv
    refine ⟨a, vs, rfl, sq_of (jn_B d1 ha), ?_⟩
    refine ⟨fun i m σ H => m = vs.length - i ∧ i ≤ vs.length ∧ Pvl M0 B1 Gi N i σ H, ⟨vs.length, by simp, Nat.zero_le _, Nat.zero_le _, B1, M, rfl, Ex.refl B1, (H.ext e1 d1).le h0⟩, ?_⟩
    rintro i m σ' H1 ⟨rfl, hi, p⟩
    obtain ⟨hiN, B', M', rfl, e, H'⟩ := p
    have hS : SqL K (jn B' M') a vs := sq_of (jn_B H'.dj (e _ _ ha))
    by_cases hlt : i < vs.length
    · refine .inr ⟨⟨vs, vs[i], hS, List.getElem?_eq_getElem hlt⟩, Pvl M0 B1 Gi N (i + 1), fun σ' H' p' => ⟨vs.length - (i + 1), by omega, rfl, hlt, p'⟩, fun x H2 y => ?_⟩
      obtain ⟨t, x, rfl, ht, rfl, hx⟩ := y
      obtain ⟨d, hd1, px⟩ := DqAll_getV hv (hx vs hS)
      rw [upd_new ht]
      have dj2 := dj_new (o := .tup [.int (i : Nat), x]) H'.dj ht
      have ex2 := ex_new (o := .tup [.int (i : Nat), x]) ht
      refine ⟨t, _, rfl, st_of (jn_B dj2 upd_same), rfl, _, _, rfl, _, _, rfl, rfl, ?_⟩
      have HH := ((H'.ext ex2 dj2).setIm (hj i hiN) (P := isD (.int (i : Int))) (v := .int (i : Int)) (Dq.int _)).setIm (n := l) (P := isD d) (v := x) (by rw [List.length_set]; exact hl i hiN) (Dq_ex (e.trans ex2) d x px)
      refine turn_ok (o := o) hiN HH (e.trans ex2) (fun w => hs i d hd1 w) (fun w => ?_) (q.ext e1)
      rcases hd with ⟨b, _⟩ | ⟨_, b⟩
      · omega
      · have z : ds.getD N .none = d := by rw [← w, List.getD_eq_getElem?_getD, hd1]; rfl
        dsimp only at b
        rw [z, ← w] at b
        exact b
    · refine .inl ⟨⟨vs, hS, by omega⟩, ?_⟩
      rcases hd with ⟨b, c⟩ | ⟨b, _⟩
      · rw [c] at q
        have ei : i = N := by omega
        rw [ei] at H'
        exact q σ' B' M' (e1.trans e) H'
      · omega
/-- min(m, n) -/
theorem sv_min2 {i k : Int} (ha : Sv ta G (isD (.int i))) (hb : Sv tb G (isD (.int k))) : Sv (tCB (fun xs H Q => ∃ i j, xs = [.int i, .int j] ∧ Q (.int (if j < i then j else i)) H) (tCons ta (tCons tb tNil))) G (isD (.int (if k < i then k else i))) := fun M0 σ B M H Q q => ha M0 σ B M H _ fun x B1 e1 d1 p1 => hb M0 σ B1 M (H.ext e1 d1) _ fun y B2 e2 d2 p2 =>
  ⟨i, k, by rw [dp_int p1, dp_int p2], q _ B2 (e1.trans e2) d2 (.int _)⟩
end
end Mini

namespace Mini
open PySem L2 Evl PyProof.Rows
/-! ### data that may stand in the module's own top -/
def KT (K : PySem.W.Frag) (a : Addr) (xs : List V) : Prop := ∃ (o : Obj) (its : Array Value) (n : Nat), K.lookup a = some o ∧ o.cls = .type "tuple" ∧ o.data = .seq its n ∧ its.size ≤ sizeLine ∧ Vals xs its.toList
theorem KT.st {K : PySem.W.Frag} {a : Addr} {xs : List V} (h : KT K a xs) (H : Hp) : SqT K H a xs := Or.inr h
mutual
inductive DqK (K : PySem.W.Frag) (H : Hp) : V → PyData → Prop
  | non : DqK K H .non .none
  | bl (b : Bool) : DqK K H (.bl b) (.bool b)
  | int (i : Int) : DqK K H (.int i) (.int i)
  | str (x : Str) : DqK K H (.str x) (.str x)
  | lst {a : Addr} {xs : List V} {ds : List PyData} : H a = some (.lst xs) → DqKA K H xs ds → DqK K H (.ref a) (.list ds)
  | tup {a : Addr} {xs : List V} {ds : List PyData} : (H a = some (.tup xs) ∨ KT K a xs) → DqKA K H xs ds → DqK K H (.ref a) (.tuple ds)
inductive DqKA (K : PySem.W.Frag) (H : Hp) : List V → List PyData → Prop
  | nil : DqKA K H [] []
  | cons {v : V} {vs : List V} {d : PyData} {ds : List PyData} : DqK K H v d → DqKA K H vs ds → DqKA K H (v :: vs) (d :: ds)
end
theorem DqK_ex {K : PySem.W.Frag} {H H' : Hp} (e : Ex H H') : ∀ (d : PyData) (v : V), DqK K H v d → DqK K H' v d
  | .none, _, h => by cases h; exact .non
  | .bool b, _, h => by cases h; exact .bl b
  | .int i, _, h => by cases h; exact .int i
  | .str x, _, h => by cases h; exact .str x
  | .list ds, _, h => by
    cases h with
    | lst hs ha => exact .lst (e _ _ hs) (go e ds _ ha)
  | .tuple ds, _, h => by
    cases h with
    | tup hs ha => exact .tup (hs.imp (e _ _) id) (go e ds _ ha)
  | .dict _, _, h => by cases h
where
  go {K : PySem.W.Frag} {H H' : Hp} (e : Ex H H') : ∀ (ds : List PyData) (vs : List V), DqKA K H vs ds → DqKA K H' vs ds
  | [], _, h => by cases h; exact .nil
  | d :: ds, _, h => by
    cases h with
    | cons a b => exact .cons (DqK_ex e d _ a) (go e ds _ b)
theorem Dq_K {K : PySem.W.Frag} {H : Hp} : ∀ (d : PyData) (v : V), Dq H v d → DqK K H v d
  | .none, _, h => by cases h; exact .non
  | .bool b, _, h => by cases h; exact .bl b
  | .int i, _, h => by cases h; exact .int i
  | .str x, _, h => by cases h; exact .str x
  | .list ds, _, h => by
    cases h with
    | lst hs ha => exact .lst hs (go ds _ ha)
  | .tuple ds, _, h => by
    cases h with
    | tup hs ha => exact .tup (.inl hs) (go ds _ ha)
  | .dict _, _, h => by cases h
where
  go {K : PySem.W.Frag} {H : Hp} : ∀ (ds : List PyData) (vs : List V), DqAll H vs ds → DqKA K H vs ds
  | [], _, h => by cases h; exact .nil
  | d :: ds, _, h => by
    cases h with
    | cons a b => exact .cons (Dq_K d _ a) (go ds _ b)
theorem DqKA_len {K : PySem.W.Frag} {H : Hp} : ∀ {ds : List PyData} {vs : List V}, DqKA K H vs ds → vs.length = ds.length
  | [], _, h => by cases h; rfl
  | d :: ds, _, h => by cases h with | cons a b => simp [DqKA_len b]
theorem DqKA_get {K : PySem.W.Frag} {H : Hp} : ∀ {ds : List PyData} {vs : List V} {i : Nat} {d : PyData}, DqKA K H vs ds → ds[i]? = some d → ∃ v, vs[i]? = some v ∧ DqK K H v d
  | [], _, i, d, h, e => by simp at e
  | x :: ds, _, 0, d, h, e => by
    cases h with | cons a b => simp at e; subst e; exact ⟨_, rfl, a⟩
  | x :: ds, _, i + 1, d, h, e => by
    cases h with | cons a b => simpa using DqKA_get (i := i) b (by simpa using e)
/-- what is a whole number, a truth, a text or nothing -/
def AtomP : PyData → Prop
  | .int _ => True
  | .bool _ => True
  | .none => True
  | .str s => PyData.strOk s = true
  | _ => False
def isP (K : PySem.W.Frag) (d : PyData) : Ty := ⟨fun v B => DqK K B v d, fun e h => DqK_ex e d _ h⟩
section
variable {K : PySem.W.Frag} {E : L2.St → XK} {G : Gm} {te ta tb tl : TE} {tas : TA} {d : PyData} {ds es : List PyData} {i : Int} {b : Bool}
theorem sv_pD (h : Sv te G (isD d)) : Sv te G (isP K d) := fun M0 σ B M H Q q => h M0 σ B M H Q fun v B' e dj p => q v B' e dj (Dq_K d v p)
theorem sv_pA (ha : AtomP d) (h : Sv te G (isP K d)) : Sv te G (isD d) := fun M0 σ B M H Q q => h M0 σ B M H Q fun v B' e dj p => q v B' e dj (by
  have p : DqK K B' v d := p
  show Dq B' v d
  cases d with
  | none => cases p; exact .non
  | bool b => cases p; exact .bl b
  | int i => cases p; exact .int i
  | str x => cases p; exact .str x
  | _ => exact absurd ha (by simp [AtomP]))
theorem sv_pS {e : PyData} (h : Sv te G (isP K d)) (q : d = e) : Sv te G (isP K e) := q ▸ h
theorem sv_pK {v : V} (h : ∀ B, DqK K B v d) : Sv (tC v) G (isP K d) := sv_cV h
theorem jn_st {B M : Hp} {a : Addr} {xs : List V} (dj : Dj B M) (h : B a = some (.tup xs) ∨ KT K a xs) : SqT K (jn B M) a xs := by
  rcases h with h | h
  · exact st_of (jn_B dj h)
  · exact h.st _
theorem sv_lenP (ha : Sv ta G (isP K (.tuple ds))) : Sv (tCB (fun xs H Q => ∃ x n, xs = [x] ∧ LenV K x H n ∧ Q (.int n) H) (tCons ta tNil)) G (isD (.int ds.length)) := fun M0 σ B M H Q q => ha M0 σ B M H _ fun x B1 e1 d1 p1 => by
  cases (show DqK K B1 x (.tuple ds) from p1) with
  | tup hs hh => exact ⟨_, ds.length, rfl, .inr ⟨_, jn_st d1 hs, (DqKA_len hh).symm⟩, q _ B1 e1 d1 (.int _)⟩
theorem sv_lenPL (ha : Sv ta G (isP K (.list ds))) : Sv (tCB (fun xs H Q => ∃ x n, xs = [x] ∧ LenV K x H n ∧ Q (.int n) H) (tCons ta tNil)) G (isD (.int ds.length)) := fun M0 σ B M H Q q => ha M0 σ B M H _ fun x B1 e1 d1 p1 => by
  cases (show DqK K B1 x (.list ds) from p1) with
  | lst hs hh => exact ⟨_, ds.length, rfl, .inl ⟨_, sq_of (jn_B d1 hs), (DqKA_len hh).symm⟩, q _ B1 e1 d1 (.int _)⟩
theorem DqKA_atI {B : Hp} {vs : List V} (h : DqKA K B vs ds) {i : Int} (e : atI ds i = some d) : ∃ v, atI vs i = some v ∧ DqK K B v d := by
  unfold atI at e ⊢
  rw [DqKA_len h]
  cases q : ixN ds.length i with
  | none => rw [q] at e; cases e
  | some j => rw [q] at e; exact DqKA_get h e
theorem sv_ixP (ha : Sv ta G (isP K (.tuple ds))) (hb : Sv tb G (isD (.int i))) (hi : atI ds i = some d) : Sv (tOp (rIx K) ta tb) G (isP K d) := fun M0 σ B M H Q q =>
  ha M0 σ B M H _ fun x B1 e1 d1 p1 => hb M0 σ B1 M (H.ext e1 d1) _ fun y B2 e2 d2 p2 => by
    cases (show DqK K B2 x (.tuple ds) from (isP K (.tuple ds)).mono e2 p1) with
    | tup hs hh =>
      rw [dp_int p2]
      obtain ⟨v, h1, h2⟩ := DqKA_atI hh hi
      exact .inr (.inl ⟨_, _, i, v, rfl, rfl, jn_st d2 hs, h1, q v B2 (e1.trans e2) d2 h2⟩)
theorem sv_ixPL (ha : Sv ta G (isP K (.list ds))) (hb : Sv tb G (isD (.int i))) (hi : atI ds i = some d) : Sv (tOp (rIx K) ta tb) G (isP K d) := fun M0 σ B M H Q q =>
  ha M0 σ B M H _ fun x B1 e1 d1 p1 => hb M0 σ B1 M (H.ext e1 d1) _ fun y B2 e2 d2 p2 => by
    cases (show DqK K B2 x (.list ds) from (isP K (.list ds)).mono e2 p1) with
    | lst hs hh =>
      rw [dp_int p2]
      obtain ⟨v, h1, h2⟩ := DqKA_atI hh hi
      exact .inl ⟨_, _, i, v, rfl, rfl, sq_of (jn_B d2 hs), h1, q v B2 (e1.trans e2) d2 h2⟩
theorem DqK_ty {H : Hp} {v : V} (h : DqK K H v d) : TyX K H v (.type (tyName d)) := by
  cases h with
  | non => exact .base .non
  | bl b => exact .base (.bl b)
  | int i => exact .base (.int i)
  | str x => exact .base (.str x)
  | lst e _ => exact .base (.lst e)
  | tup e _ =>
    rcases e with e | ⟨o, its, n, e, c, _⟩
    · exact .base (.tup e)
    · exact .kTuple e c
theorem sv_isiP {n : String} (ha : Sv ta G (isP K d)) (hb : Sv tb G (isV (.ty n))) (h : kitB (tyName d) n = some b) : Sv (tCB (rIsi K) (tCons ta (tCons tb tNil))) G (isD (.bool b)) := fun M0 σ B M H Q q =>
  ha M0 σ B M H _ fun x B1 e1 d1 p1 => hb M0 σ B1 M (H.ext e1 d1) _ fun y B2 e2 d2 p2 => ⟨x, y, _, _, b, rfl, by rw [show y = .ty n from p2]; exact .ty n, DqK_ty (DqK_ex (e2.trans (jn_ex d2)) d x p1), kit_ty h, q _ B2 (e1.trans e2) d2 (.bl _)⟩
theorem sv_isTupP (ha : Sv ta G (isP K d)) : Sv (tCB (rIsi K) (tCons ta (tCons (tC (.ty "tuple")) tNil))) G (isD (.bool (dTup d))) := sv_isiP ha sv_val (kit_tup d)
theorem sv_isLstP (ha : Sv ta G (isP K d)) : Sv (tCB (rIsi K) (tCons ta (tCons (tC (.ty "list")) tNil))) G (isD (.bool (dLst d))) := sv_isiP ha sv_val (kit_lst d)
theorem arsP {B M : Hp} : ∀ {ds : List PyData} {vs : List V}, ArsOk (ds.map fun d => .im (isP K d)) vs B M → DqKA K B vs ds
  | [], _, h => by cases h; exact .nil
  | d :: ds, _, h => by cases h with | cons a b => exact .cons a (arsP b)
theorem sv_tupP (h : Sa tas G (ds.map fun d => .im (isP K d))) (hz : ds.length ≤ sizeLine) : Sv (tTup tas) G (isP K (.tuple ds)) := fun M0 σ B M H Q q => h M0 σ B M H _ fun vs B1 e1 d1 p1 => by
  have p2 := arsP p1
  refine ⟨by rw [DqKA_len p2]; exact hz, fun t ht => ?_⟩
  rw [upd_new ht]
  exact q _ _ (e1.trans (ex_new ht)) (dj_new d1 ht) (.tup (.inl upd_same) (DqK_ex.go (ex_new ht) ds vs p2))
theorem sa_pms {tr : TA} (h : Sv te G (isP K d)) (hr : Sa tr G (ds.map fun d => .im (isP K d))) : Sa (tCons te tr) G ((d :: ds).map fun d => .im (isP K d)) := sa_im h hr
end
end Mini

namespace Mini
open PySem L2 Evl PyProof.Rows
section
variable {K : PySem.W.Frag} {E : L2.St → XK} {G : Gm} {td ty tl tk : TE} {j l n : Nat} {k : Int} {kvs : List (Int × Int)} {ds : List PyData}
/-- {e: k for k, x in enumerate(xs)}, not stored -/
theorem sv_dcE (h : Rl tl G ds) (kf : PyData → Int) (hj : j < G.length) (hl : l < G.length) (hjl : j ≠ l) (hz : ds.length < 1000000) (hk : ∀ i d, ds[i]? = some d → Sv tk (GvE G j l i d) (isD (.int (kf d)))) :
    Sv (tDc (iEnum K (tCons tl tNil)) (gTup K 2 (gCons (gName j) (gCons (gName l) gNil))) tYes tk (tVar j) [j, l]) G (isDi (dE kf ds ds.length)) := fun M0 σ B M H Q q => h M0 σ B M H _ fun a vs B1 e1 d1 hh q1 => by
  have hlen := DqAll_len q1
  refine ⟨a, vs, rfl, sq_of hh, fun Dl hD => ?_⟩
  have hM := (jn_free hD).2
  refine ⟨fun i m H' => i ≤ vs.length ∧ m = vs.length - i ∧ ∃ B', H' = jn B' (upd M Dl (.dK (dkV (dE kf ds i)))) ∧ Ex B1 B' ∧ Dj B' (upd M Dl (.dK (dkV (dE kf ds i)))), ⟨vs.length, Nat.zero_le _, rfl, B1, by rw [upd_own]; rfl, Ex.refl B1, dj_own d1 (jn_free hD).1⟩, fun i m H' hW => ?_⟩
  obtain ⟨hle, rfl, B', rfl, e, dj⟩ := hW
  have hB' : B' Dl = none := dj_free dj upd_same
  have djM : Dj B' M := fun a u q => by
    have := dj a u q
    by_cases z : a = Dl
    · rw [z]; exact hM
    · rw [upd_ne z] at this; exact this
  have hS : SqL K (jn B' (upd M Dl (.dK (dkV (dE kf ds i))))) a vs := by
    refine sq_of ?_
    have hne : a ≠ Dl := fun z => by rw [z, hD] at hh; cases hh
    unfold jn at hh ⊢
    rw [upd_ne hne]
    cases z : M a with
    | some u => rw [z] at hh; exact hh
    | none => rw [z] at hh; exact e _ _ hh
  by_cases z : i < vs.length
  · refine .inr ⟨⟨vs, vs[i], hS, List.getElem?_eq_getElem z⟩, fun H' => ∃ B', H' = jn B' (upd M Dl (.dK (dkV (dE kf ds (i + 1))))) ∧ Ex B1 B' ∧ Dj B' (upd M Dl (.dK (dkV (dE kf ds (i + 1))))), fun H' p => ⟨vs.length - (i + 1), by omega, by omega, rfl, p⟩, fun v H' hy => ?_⟩
    obtain ⟨t, x, rfl, ht, rfl, hx⟩ := hy
    obtain ⟨d, hd, px⟩ := DqAll_getV q1 (hx vs hS)
    rw [upd_new ht]
    refine ⟨t, _, rfl, st_of (jn_B (dj_new dj ht) upd_same), rfl, _, _, rfl, _, _, rfl, rfl, ?_⟩
    refine ⟨wipe_two2 σ hjl _ _, ?_⟩
    have et : Ex B' (upd B' t (.tup [V.int i, x])) := ex_new ht
    have djt : Dj (upd B' t (.tup [V.int i, x])) (upd M Dl (.dK (dkV (dE kf ds i)))) := dj_new dj ht
    have H2 : Holds M0 (GvE G j l i d) (((L2.wipe σ [j, l]).set j (some (V.int i))).set l (some x)) (upd B' t (.tup [V.int i, x])) (upd M Dl (.dK (dkV (dE kf ds i)))) := by
      have h1 := ((((H.ext e1 d1).ext e djM).wipes [j, l]).more (p := Dl) (o := .dK (dkV (dE kf ds i))) (show jn B' M Dl = none by rw [jn_N hM]; exact hB')).ext et djt
      have h2 := h1.setIm (n := j) (v := V.int i) (P := isD (.int (i : Int))) (by show j < ((G.set l .no).set j .no).length; rw [List.length_set, List.length_set]; exact hj) (.int _)
      exact h2.setIm (by rw [List.length_set]; show l < ((G.set l .no).set j .no).length; rw [List.length_set, List.length_set]; exact hl) (Dq_ex (e.trans et) d x px)
    refine tyes_ite ?_
    refine hk i d hd M0 _ _ _ H2 _ fun y B4 e4 d4 p4 => ?_
    have hjj : (((L2.wipe σ [j, l]).set j (some (V.int i))).set l (some x))[j]? = some (some (V.int i)) := by
      rw [List.getElem?_set_ne (Ne.symm hjl)]
      exact List.getElem?_set_self (by show j < ((σ.set l none).set j none).length; rw [List.length_set, List.length_set, H.len]; exact hj)
    refine ⟨_, hjj, dkV (dE kf ds i), Sum.inl (kf d), dp_int p4, jn_M upd_same, ?_, ?_⟩
    · have := dE_len kf ds i
      unfold dkV
      rw [List.length_map, sizeLine_eq]
      omega
    · have ed : ds.getD i .none = d := by rw [List.getD_eq_getElem?_getD, hd]; rfl
      refine ⟨B4, ?_, (e.trans et).trans e4, ?_⟩
      · rw [upd_own, upd_upd, put_dkV]
        show _ = jn B4 (upd M Dl (.dK (dkV (putI (dE kf ds i) (kf (ds.getD i .none)) i))))
        rw [ed]
      · intro b u q
        have := d4 b u q
        by_cases z : b = Dl
        · rw [z, upd_same] at this; cases this
        · rw [upd_ne z] at this ⊢; exact this
  · have ei : i = vs.length := by omega
    subst ei
    refine .inl ⟨⟨vs, hS, Nat.le_refl _⟩, ?_⟩
    rw [jn_push hM, hlen]
    have hDn : jn B' M Dl = none := by rw [jn_N hM]; exact hB'
    have eN : Ex B' (upd B' Dl (.dK (dkV (dE kf ds ds.length)))) := ex_new hDn
    rw [hlen] at dj
    have djN : Dj (upd B' Dl (.dK (dkV (dE kf ds ds.length)))) M := dj_push dj hM
    exact q _ _ ((e1.trans e).trans eN) djN ⟨Dl, rfl, upd_same⟩
end
/-- a tuple of the module's own top -/
def KTD (K : PySem.W.Frag) (a : Addr) (xs : List V) : Prop := ∃ (its : Array Value) (n : Nat) (sl : Array (Option Value)), K.lookup a = some ⟨.type "tuple", none, .seq its n, sl⟩ ∧ its.size ≤ sizeLine ∧ Vals xs its.toList
theorem KTD.kt {K : PySem.W.Frag} {a : Addr} {xs : List V} (h : KTD K a xs) : KT K a xs := by
  obtain ⟨its, n, sl, h1, h2, h3⟩ := h
  exact ⟨_, its, n, h1, rfl, rfl, h2, h3⟩
theorem KTD.ty {K : PySem.W.Frag} {a : Addr} {xs : List V} (h : KTD K a xs) (H : Hp) : tyV K "tuple" (.ref a) H := by
  obtain ⟨its, n, sl, h1, h2, h3⟩ := h
  exact .inr (.inl ⟨rfl, _, h1, rfl, rfl⟩)
/-- things of their own types in a tuple -/
def isTT (Ps : List Ty) : Ty := ⟨fun v B => ∃ a vs, v = .ref a ∧ B a = some (.tup vs) ∧ AllP B vs Ps, fun e ⟨a, vs, h1, h2, h3⟩ => ⟨a, vs, h1, e _ _ h2, h3.ext e⟩⟩
theorem ars_all {B M : Hp} : ∀ {Ps : List Ty} {vs : List V}, ArsOk (Ps.map fun P => .im P) vs B M → AllP B vs Ps
  | [], _, h => by cases h; exact .nil
  | P :: Ps, _, h => by cases h with | cons a b => exact .cons a (ars_all b)
theorem AllP.at {B : Hp} {vs : List V} {Ps : List Ty} (h : AllP B vs Ps) {i : Nat} {P : Ty} (e : Ps[i]? = some P) : ∃ v, vs[i]? = some v ∧ P.p v B := by
  induction h generalizing i with
  | nil => simp at e
  | @cons u Q us Qs a b ih =>
    cases i with
    | zero => simp at e; subst e; exact ⟨u, rfl, a⟩
    | succ i => exact ih e
section
variable {K : PySem.W.Frag} {E : L2.St → XK} {G : Gm} {te ta tb : TE} {tas : TA} {P : Ty} {Ps : List Ty} {n : Nat} {i : Int} {C : Addr} {fs : List (Str × Ty)} {f : Str} {a : Addr} {x : Str} {ys : List Str}
theorem sv_tt (h : Sa tas G (Ps.map fun P => .im P)) (hz : Ps.length ≤ sizeLine) : Sv (tTup tas) G (isTT Ps) := fun M0 σ B M H Q q => h M0 σ B M H _ fun vs B1 e1 d1 p1 => by
  have p2 := ars_all p1
  refine ⟨by rw [p2.len]; exact hz, fun t ht => ?_⟩
  rw [upd_new ht]
  exact q _ _ (e1.trans (ex_new ht)) (dj_new d1 ht) ⟨t, vs, rfl, upd_same, p2.ext (ex_new ht)⟩
theorem sv_ixTT {m : Nat} (ha : Sv ta G (isTT Ps)) (hb : Sv tb G (isD (.int i))) (hi : i = (m : Int)) (hm : Ps[m]? = some P) : Sv (tOp (rIx K) ta tb) G P := fun M0 σ B M H Q q =>
  ha M0 σ B M H _ fun x B1 e1 d1 p1 => hb M0 σ B1 M (H.ext e1 d1) _ fun y B2 e2 d2 p2 => by
    obtain ⟨a, vs, rfl, hh, q1⟩ := (isTT Ps).mono e2 p1
    rw [dp_int p2]
    obtain ⟨v, h1, h2⟩ := q1.at hm
    exact .inr (.inl ⟨a, vs, i, v, rfl, rfl, st_of (jn_B d2 hh), by rw [hi]; exact atI_nat h1, q v B2 (e1.trans e2) d2 h2⟩)
/-- self.f of an instance that is being made -/
theorem sv_fldOw {p dx : Addr} (h : G[n]? = some (.ow (owI C p dx (flds fs)))) (hf : fs.lookup f = some P) (c : Cls K C) (hn : NoAttr K C f) : Sv (tFld K (tVar n) f) G P := fun M0 σ B M H Q q => by
  obtain ⟨l, ob, a, c1, r, f1⟩ := H.ow n _ h
  obtain ⟨rfl, vs, rfl, hv, _⟩ := r
  obtain ⟨v, hl, pv⟩ := hv.look.1 P hf
  exact ⟨_, a, _, C, dx, vs, v, rfl, jn_M c1, c, hn, hl, q v B (Ex.refl B) H.dj pv⟩
theorem inV_strs (x : Str) (ys : List Str) : inV (.str x) (ys.map V.str) = decide (x ∈ ys) := by
  unfold inV
  induction ys with
  | nil => rfl
  | cons a ys ih =>
    rw [List.map_cons, List.any_cons, ih]
    show ((a == x) || decide (x ∈ ys)) = _
    by_cases e : a = x
    · subst e; simp
    · have e' : ¬ x = a := fun z => e z.symm
      simp [e, e']
/-- s not in a tuple of texts of the module's top -/
theorem sv_notInK (h : KTD K a (ys.map V.str)) (ha : Sv ta G (isD (.str x))) : Sv (tOp (rIn K true) ta (tC (.ref a))) G (isD (.bool (!decide (x ∈ ys)))) := fun M0 σ B M H Q q =>
  ha M0 σ B M H _ fun v B1 e1 d1 p1 => by
    rw [dp_str p1]
    refine ⟨a, ys.map V.str, rfl, .inr (h.kt.st _), rfl, flat_strs ys, ?_⟩
    rw [inV_strs]
    exact q _ B1 e1 d1 (.bl _)
abbrev rTupIx (K : PySem.W.Frag) : V → List V → Hp → VK → Prop := fun x xs H Q => ∃ p, ∃ ys : List Str, ∃ z j, x = .ref p ∧ xs = [.str z] ∧ SqT K H p (ys.map V.str) ∧ ys[j]? = some z ∧ (∀ m, m < j → ys[m]? ≠ some z) ∧ Q (.int (j : Nat)) H
/-- a tuple of texts' .index(s) -/
theorem sv_indexK {m : Nat} (h : KTD K a (ys.map V.str)) (ha : Sv ta G (isD (.str x))) (hm : ys[m]? = some x) (hno : ∀ k, k < m → ys[k]? ≠ some x) : Sv (tBM K "tuple" (rTupIx K) (tC (.ref a)) (tCons ta tNil)) G (isD (.int (m : Int))) := fun M0 σ B M H Q q =>
  ⟨h.ty _, ha M0 σ B M H _ fun v B1 e1 d1 p1 => by
    rw [dp_str p1]
    exact ⟨a, ys, x, m, rfl, rfl, h.kt.st _, hm, hno, q _ B1 e1 d1 (.int _)⟩⟩
end
end Mini

namespace Mini
open PySem L2 Evl PyProof.Rows
theorem tuple_mul1 (l : Addr) (items : Array Value) (n : Nat) (dd : Option Addr) (sl : Array (Option Value)) (u : Tok) :
    Meets (Builtin.«tuple.__mul__» ⟨[.ref l, .int 1 u], []⟩) (fun _ R s => s.heap.get? l = some { cls := .type "tuple", dict := dd, data := .seq items n, slots := sl } ∧
      R (.ok (.ret (Value.ref l))) s) :=
  .of_wp fun prog w A R s h => by
    obtain ⟨hp, g, d, tk, os⟩ := s
    obtain ⟨hl, h⟩ := h
    have f1 := AutoSeq1.idx_int
    have c1 : (items.isEmpty || (1 : Int) == 1) = true := by simp
    wp_walk using wpAny_loadPart' hl
    repeat (first
      | (refine wpAny_ite_false (by decide) ?_; wp_walk using wpAny_loadPart' hl)
      | (refine wpAny_ite_true (by rw [c1]) ?_; wp_walk using wpAny_loadPart' hl))
    exact ⟨_, rfl, h⟩
theorem tuple_mul0 (l : Addr) (items : Array Value) (n : Nat) (dd : Option Addr) (sl : Array (Option Value)) (u : Tok) (hne : items.isEmpty = false) :
    Meets (Builtin.«tuple.__mul__» ⟨[.ref l, .int 0 u], []⟩) (fun _ R s => s.heap.get? l = some { cls := .type "tuple", dict := dd, data := .seq items n, slots := sl } ∧
      R (.ok (.ret (Value.ref s.heap.objs.size))) { s with heap := s.heap.push { cls := Value.type "tuple", data := Data.seq #[] }, toks := s.toks }) :=
  .of_wp fun prog w A R s h => by
    obtain ⟨hp, g, d, tk, os⟩ := s
    obtain ⟨hl, h⟩ := h
    have f1 := AutoSeq1.idx_int
    have c1 : (items.isEmpty || (0 : Int) == 1) = false := by rw [hne]; rfl
    have c2 : (decide ((0 : Int) ≤ 0) || items.isEmpty) = true := by simp
    wp_walk using wpAny_loadPart' hl
    repeat (first
      | (refine wpAny_ite_false (by decide) ?_; wp_walk using wpAny_loadPart' hl)
      | (refine wpAny_ite_false (decide_eq_false (by rw [c1]; exact Bool.false_ne_true)) ?_; wp_walk using wpAny_loadPart' hl)
      | (refine wpAny_ite_true (by rw [c2]) ?_; wp_walk using wpAny_loadPart' hl))
    exact ⟨_, rfl, h⟩
section
variable {X : Cx}
/-- a tuple once, or not at all -/
def rRepS (K : PySem.W.Frag) : R2 := fun x y H Q => ∃ l xs, x = .ref l ∧ SqT K H l xs ∧ xs ≠ [] ∧ ((y = .int 1 ∧ Q (.ref l) H) ∨ (y = .int 0 ∧ ∀ p, H p = none → Q (.ref p) (upd H p (.tup []))))
theorem op_repS : OpR X (binaryOp .Mult) (rRepS X.K) := by
  intro pins s σ H x y v u Q I rx ry h
  obtain ⟨l, xs, e1, hT, hne, hk⟩ := h
  subst e1
  cases rx
  obtain ⟨its, r, ⟨⟨cls, dd, data, sl⟩, ho, hc, n, hd⟩, hs⟩ := I.tuple hT
  simp only at hc hd
  subst hc hd
  have hi : its.toArray.isEmpty = false := by
    cases its with
    | nil => exact absurd (List.length_eq_zero_iff.mp r.length) hne
    | cons a b => rfl
  rcases hk with ⟨ey, q⟩ | ⟨ey, q⟩
  · subst ey
    obtain ⟨t, rfl⟩ := ry
    refine wpAny_binaryOp_repeat_ref (T := "tuple") (U := "int") (by decide) ⟨_, ho, rfl⟩ (fun s' => typeIs_int s' 1 t) noFill_tuple_mul F.fills_int_mul F.slot_int_rmul repeat_tuple F.slot_int_index.lookup ?_
    refine call_meets F.slot_int_rmul (typeIs_int s 1 t) F.entry_int_rmul (F.args_int_rmul_2 _ _) (int_rmul_tuple 1 t l its.toArray n dd sl) ⟨ho, rfl, ⟨_, ho, rfl⟩, ?_⟩
    exact call_meets F.slot_tuple_mul ⟨_, ho, rfl⟩ F.entry_tuple_mul (F.args_tuple_mul_2 _ _) (tuple_mul1 l its.toArray n dd sl t) ⟨ho, .ref l, H, I, rfl, q⟩
  · subst ey
    obtain ⟨t, rfl⟩ := ry
    refine wpAny_binaryOp_repeat_ref (T := "tuple") (U := "int") (by decide) ⟨_, ho, rfl⟩ (fun s' => typeIs_int s' 0 t) noFill_tuple_mul F.fills_int_mul F.slot_int_rmul repeat_tuple F.slot_int_index.lookup ?_
    refine call_meets F.slot_int_rmul (typeIs_int s 0 t) F.entry_int_rmul (F.args_int_rmul_2 _ _) (int_rmul_tuple 0 t l its.toArray n dd sl) ⟨ho, rfl, ⟨_, ho, rfl⟩, ?_⟩
    refine call_meets F.slot_tuple_mul ⟨_, ho, rfl⟩ F.entry_tuple_mul (F.args_tuple_mul_2 _ _) (tuple_mul0 l its.toArray n dd sl t hi) ⟨ho, ?_⟩
    refine ⟨.ref s.heap.objs.size, _, I.laid (t' := s.toks) (o := .tup []) (fun b ob q => Heap.get?_push_of_some _ q) (Nat.le_refl _) ?_, rfl, q _ (I.hok.fresh (Nat.le_refl _))⟩
    exact ⟨Nat.zero_le _, [], .nil, IsTup.new _ _⟩
def uMul2 (K : PySem.W.Frag) : R2 := fun x y H Q => uMul K x y H Q ∨ rRepS K x y H Q
theorem op_uMul2 : OpR X (binaryOp .Mult) (uMul2 X.K) := OpR.or op_uMul op_repS
end
section
variable {K : PySem.W.Frag} {G : Gm} {ta tb : TE} {ds : List PyData} {i : Int}
theorem sv_repT2 (ha : Sv ta G (isD (.tuple ds))) (hb : Sv tb G (isD (.int i))) (hn : ds ≠ []) (h0 : 0 ≤ i) (hz : (ds.length : Int) * i ≤ 1000000) : Sv (tOp (uMul2 K) ta tb) G (isD (.tuple (List.replicate i.toNat ds).flatten)) := by
  by_cases h2 : 2 ≤ i
  · refine sv_op ha hb (rv_or1 ?_)
    intro B M x y dj p1 p2 Q q
    obtain ⟨a, vs, rfl, h1, h3⟩ := dq_tup p1
    have hne : vs ≠ [] := by intro z; subst z; cases h3; exact hn rfl
    rw [dp_int p2]
    refine .inr (.inr ⟨a, i, vs, rfl, rfl, st_of (jn_B dj h1), hne, h2, by rw [DqAll_len h3]; exact hz, fun p hp => ?_⟩)
    rw [upd_new hp]
    exact q _ _ (ex_new hp) (dj_new dj hp) (.tup upd_same (DqAll_ex (ex_new hp) (DqAll_rep h3 _)))
  · refine sv_op ha hb (rv_or2 ?_)
    intro B M x y dj p1 p2 Q q
    obtain ⟨a, vs, rfl, h1, h3⟩ := dq_tup p1
    have hne : vs ≠ [] := by intro z; subst z; cases h3; exact hn rfl
    rw [dp_int p2]
    have hi : i = 1 ∨ i = 0 := by omega
    refine ⟨a, vs, rfl, st_of (jn_B dj h1), hne, ?_⟩
    rcases hi with rfl | rfl
    · refine .inl ⟨rfl, q _ B (Ex.refl B) dj (.tup h1 ?_)⟩
      simpa using h3
    · refine .inr ⟨rfl, fun p hp => ?_⟩
      rw [upd_new hp]
      exact q _ _ (ex_new hp) (dj_new dj hp) (.tup upd_same .nil)
end
end Mini

namespace Mini
open PySem L2 Evl PyProof.Rows
theorem sv_notN {ta : TE} {G : Gm} {d : PyData} (ha : Sv ta G (isD d)) : Sv (tOp (fun x y H Q => y = .non ∧ Q (.bl (!decide (x = .non))) H) ta (tC .non)) G (isD (.bool (match d with | .none => false | _ => true))) := fun M0 σ B M H Q q => ha M0 σ B M H _ fun v B' e dj p => ⟨rfl, by
  refine q _ B' e dj ?_
  cases p with
  | non => exact .bl _
  | _ => exact .bl true⟩
end Mini

namespace Mini
open PySem L2 Evl PyProof.Rows
/-! ### is not True, is not False, of whatever stands -/
abbrev rNotBl : R2 := fun x y H Q => ∃ b, y = .bl b ∧ Q (.bl (!decide (x = .bl b))) H
abbrev rIsBl2 : R2 := fun x y H Q => ∃ b, y = .bl b ∧ Q (.bl (decide (x = .bl b))) H
theorem op_notBl {X : Cx} : OpR X (compareOp .IsNot) rNotBl := by
  intro pins s σ H x y v u Q I rx ry h
  obtain ⟨b, rfl, q⟩ := h
  cases (show u = Value.bool b from ry)
  cases x with
  | bl a =>
    cases (show v = Value.bool a from rx)
    exact isnot_bool ⟨.bl _, H, I, rfl, by cases a <;> cases b <;> simpa using q⟩
  | non => cases rx; exact wpAny_pure ⟨.bl true, H, I, rfl, by simpa using q⟩
  | ref a => cases rx; exact wpAny_pure ⟨.bl true, H, I, rfl, by simpa using q⟩
  | ty n => cases rx; exact wpAny_pure ⟨.bl true, H, I, rfl, by simpa using q⟩
  | int i => obtain ⟨t, rfl⟩ := rx; exact wpAny_pure ⟨.bl true, H, I, rfl, by simpa using q⟩
  | str i => obtain ⟨t, rfl⟩ := rx; exact wpAny_pure ⟨.bl true, H, I, rfl, by simpa using q⟩
  | byt i => obtain ⟨t, rfl⟩ := rx; exact wpAny_pure ⟨.bl true, H, I, rfl, by simpa using q⟩
  | flt i => obtain ⟨t, rfl⟩ := rx; exact wpAny_pure ⟨.bl true, H, I, rfl, by simpa using q⟩
theorem op_isBl2 {X : Cx} : OpR X (compareOp .Is) rIsBl2 := by
  intro pins s σ H x y v u Q I rx ry h
  obtain ⟨b, rfl, q⟩ := h
  cases (show u = Value.bool b from ry)
  cases x with
  | bl a =>
    cases (show v = Value.bool a from rx)
    exact is_bool ⟨.bl _, H, I, rfl, by cases a <;> cases b <;> simpa using q⟩
  | non => cases rx; exact wpAny_pure ⟨.bl false, H, I, rfl, by simpa using q⟩
  | ref a => cases rx; exact wpAny_pure ⟨.bl false, H, I, rfl, by simpa using q⟩
  | ty n => cases rx; exact wpAny_pure ⟨.bl false, H, I, rfl, by simpa using q⟩
  | int i => obtain ⟨t, rfl⟩ := rx; exact wpAny_pure ⟨.bl false, H, I, rfl, by simpa using q⟩
  | str i => obtain ⟨t, rfl⟩ := rx; exact wpAny_pure ⟨.bl false, H, I, rfl, by simpa using q⟩
  | byt i => obtain ⟨t, rfl⟩ := rx; exact wpAny_pure ⟨.bl false, H, I, rfl, by simpa using q⟩
  | flt i => obtain ⟨t, rfl⟩ := rx; exact wpAny_pure ⟨.bl false, H, I, rfl, by simpa using q⟩
/-- this truth value -/
def blB (d : PyData) (b : Bool) : Bool := match d with
  | .bool a => decide (a = b)
  | _ => false
section
variable {K : PySem.W.Frag} {G : Gm} {ta : TE} {d : PyData} {b : Bool}
theorem dq_bl {B : Hp} {v : V} (p : Dq B v d) : decide (v = .bl b) = blB d b := by
  cases p with
  | bl a => cases a <;> cases b <;> rfl
  | _ => rfl
theorem sv_notBl (ha : Sv ta G (isD d)) : Sv (tOp rNotBl ta (tC (.bl b))) G (isD (.bool (!blB d b))) := fun M0 σ B M H Q q => ha M0 σ B M H _ fun v B' e dj p => ⟨b, rfl, by
  rw [dq_bl p]
  exact q _ B' e dj (.bl _)⟩
theorem sv_isBl2 (ha : Sv ta G (isD d)) : Sv (tOp rIsBl2 ta (tC (.bl b))) G (isD (.bool (blB d b))) := fun M0 σ B M H Q q => ha M0 σ B M H _ fun v B' e dj p => ⟨b, rfl, by
  rw [dq_bl p]
  exact q _ B' e dj (.bl _)⟩
end
end Mini

namespace Mini
open PySem L2 Evl PyProof.Rows
/-! ### a, b, .. = values, new lists, .. through a tuple -/
inductive Pend : List (Ty ⊕ List PyData) → List V → Hp → Hp → Hp → Prop where
  | nil {B M} : Pend [] [] B M M
  | im {P ks v vs B M M'} : P.p v B → Pend ks vs B M M' → Pend (.inl P :: ks) (v :: vs) B M M'
  | nl {ds ks p us vs B M M'} : M p = none → DqAll B us ds → Pend ks vs B (upd M p (.lst us)) M' → Pend (.inr ds :: ks) (.ref p :: vs) B M M'
theorem Pend.len {ks vs B M M'} (h : Pend ks vs B M M') : vs.length = ks.length := by
  induction h with
  | nil => rfl
  | im _ _ ih => simp [ih]
  | nl _ _ _ ih => simp [ih]
theorem Pend.ex {ks vs B M M'} (h : Pend ks vs B M M') : Ex M M' := by
  induction h with
  | nil => exact Ex.refl _
  | im _ _ ih => exact ih
  | nl hp _ _ ih => exact (Ex.new hp).trans ih
theorem Pend.ext {ks vs B B' M M'} (h : Pend ks vs B M M') (e : Ex B B') : Pend ks vs B' M M' := by
  induction h with
  | nil => exact .nil
  | im a _ ih => exact .im (Ty.mono _ e a) (ih e)
  | nl hp a _ ih => exact .nl hp (DqAll_ex e a) (ih e)
def Sn (ta : TA) (G : Gm) (ks : List (Ty ⊕ List PyData)) : Prop := ∀ (M0 : Hp) (σ : L2.St) (B M : Hp), Holds M0 G σ B M → ∀ Q : List V → Hp → Prop, (∀ vs B' M', Ex B B' → Dj B' M' → Pend ks vs B' M M' → Q vs (jn B' M')) → ta σ (jn B M) Q
def kSl : Ty ⊕ List PyData → Sl
  | .inl P => .im P
  | .inr ds => .ow (isL ds)
def setAll (G : Gm) : List Nat → List (Ty ⊕ List PyData) → Gm
  | i :: is, k :: ks => setAll (G.set i (kSl k)) is ks
  | _, _ => G
def setSt (σ : L2.St) : List Nat → List V → L2.St
  | i :: is, v :: vs => setSt (σ.set i (some v)) is vs
  | _, _ => σ
def gNames : List Nat → TGs
  | [] => gNil
  | i :: is => gCons (gName i) (gNames is)
section
variable {K : PySem.W.Frag} {E : L2.St → XK} {G : Gm} {te ta tb tc : TE} {tr : TA} {P P' : Ty} {ds : List PyData} {ks : List (Ty ⊕ List PyData)}
theorem sn_nil : Sn tNil G [] := fun M0 σ B M H Q q => q [] B M (Ex.refl B) H.dj .nil
theorem sn_im (h : Sv te G P) (hr : Sn tr G ks) : Sn (tCons te tr) G (.inl P :: ks) := fun M0 σ B M H Q q =>
  h M0 σ B M H _ fun v B1 e1 d1 p1 => hr M0 σ B1 M (H.ext e1 d1) _ fun vs B2 M2 e2 d2 p2 => q _ B2 M2 (e1.trans e2) d2 (.im (P.mono e2 p1) p2)
theorem sn_nl (h : Svl te G ds) (hr : Sn tr G ks) : Sn (tCons te tr) G (.inr ds :: ks) := fun M0 σ B M H Q q =>
  h M0 σ B M H _ fun p us B1 e1 d1 hf ha => by
    rw [upd_own]
    exact hr M0 σ B1 _ ((H.ext e1 d1).more hf) _ fun vs B2 M2 e2 d2 p2 => q _ B2 M2 (e1.trans e2) d2 (.nl (jn_free hf).2 (DqAll_ex e2 ha) p2)
theorem setAll_len : ∀ {is : List Nat} {ks : List (Ty ⊕ List PyData)} {G : Gm}, (setAll G is ks).length = G.length
  | [], [], _ => rfl
  | [], _ :: _, _ => rfl
  | _ :: _, [], _ => rfl
  | i :: is, k :: ks, G => by rw [setAll, setAll_len, List.length_set]
theorem holds_set {M0 : Hp} : ∀ {is : List Nat} {ks : List (Ty ⊕ List PyData)} {vs : List V} {G : Gm} {σ : L2.St} {B M M' : Hp}, Holds M0 G σ B M → Dj B M' → Pend ks vs B M M' → is.length = ks.length → (∀ i ∈ is, i < G.length) → Holds M0 (setAll G is ks) (setSt σ is vs) B M'
  | [], [], _, G, σ, B, M, M', H, d, h, _, _ => by cases h; exact H
  | [], _ :: _, _, _, _, _, _, _, _, _, _, e, _ => by simp at e
  | _ :: _, [], _, _, _, _, _, _, _, _, _, e, _ => by simp at e
  | i :: is, k :: ks, _, G, σ, B, M, M', H, d, h, e, hl => by
    have hi := hl i (List.mem_cons_self ..)
    have hl' : ∀ S : Sl, ∀ j ∈ is, j < (G.set i S).length := fun S j hj => by rw [List.length_set]; exact hl j (List.mem_cons_of_mem _ hj)
    have e' : is.length = ks.length := by simpa using e
    cases h with
    | @im P _ v vs _ _ _ a h =>
      have h2 := H.setIm hi a
      exact holds_set (is := is) h2 d h e' (hl' _)
    | @nl ds _ p us vs _ _ _ hp a h =>
      have hB := dj_free d (h.ex _ _ upd_same)
      have h2 := H.setOw (R := isL ds) hi (by rw [jn_N hp]; exact hB : jn B M p = none) ⟨us, rfl, a⟩
      exact holds_set (is := is) h2 d h e' (hl' _)
theorem gNames_run {Q : L2.St → Hp → Prop} {H : Hp} : ∀ {is : List Nat} {vs : List V} {σ : L2.St}, is.length = vs.length → Q (setSt σ is vs) H → gNames is vs σ H Q
  | [], [], _, _, q => ⟨rfl, q⟩
  | [], _ :: _, _, e, _ => by simp at e
  | _ :: _, [], _, e, _ => by simp at e
  | i :: is, v :: vs, σ, e, q => ⟨v, vs, rfl, gNames_run (is := is) (by simpa using e) q⟩
theorem ss_tupN (is : List Nat) (h : Sn tr G ks) (hn : is.length = ks.length := by rfl) (hl : ∀ i ∈ is, i < G.length := by exact of_decide_eq_true rfl) (hk : ks.length ≤ 100 := by exact Nat.le_of_ble_eq_true rfl) :
    Ss E (tAsg (tTup tr) (gTup K ks.length (gNames is))) G (.nx (setAll G is ks)) := fun M0 D σ B M H q =>
  h M0 σ B M H _ fun vs B1 M1 e1 d1 p1 => by
    have hlen := p1.len
    refine ⟨by have : (sizeLine : Nat) = 16777216 := sizeLine_eq; omega, fun t ht => ?_⟩
    have dM : Dj B1 M := fun a u z => by
      have w := d1 a u z
      cases hm : M a with
      | none => rfl
      | some o => rw [p1.ex a o hm] at w; cases w
    have K1 := holds_set (H.ext e1 dM) d1 p1 hn hl
    rw [upd_new ht]
    refine ⟨t, vs, rfl, st_of (jn_B (dj_new d1 ht) upd_same), hlen, gNames_run (by omega) ?_⟩
    exact q _ _ _ (e1.trans (ex_new ht)) (K1.ext (ex_new ht) (dj_new d1 ht))
/-- xs[m], a, b = three values: the list's item first -/
theorem ss_tupSet {n i j : Nat} {ix : Int} {k : Nat} {d : PyData} {tm : TE} (h : G[n]? = some (.ow (isL ds))) (ha : Sv ta G (isD d)) (hb : Sv tb G P) (hc : Sv tc G P') (hm : ∀ {M0 : Hp} {σ : L2.St} {B M : Hp}, Holds M0 G σ B M → ∀ Q : VK, Q (.int ix) (jn B M) → tm σ (jn B M) Q) (hk : ixN ds.length ix = some k) (hi : i < G.length := by exact Nat.le_of_ble_eq_true rfl) (hj : j < G.length := by exact Nat.le_of_ble_eq_true rfl) :
    Ss E (tAsg (tTup (tCons ta (tCons tb (tCons tc tNil)))) (gTup K 3 (gCons (gSub (tVar n) tm rSetL) (gCons (gName i) (gCons (gName j) gNil))))) G (.nx (((G.set n (.ow (isL (ds.set k d)))).set i (.im P)).set j (.im P'))) := fun M0 D σ B M H q =>
  ha M0 σ B M H _ fun x B1 e1 d1 p1 => hb M0 σ B1 M (H.ext e1 d1) _ fun y B2 e2 d2 p2 => hc M0 σ B2 M ((H.ext e1 d1).ext e2 d2) _ fun z B3 e3 d3 p3 => by
    refine ⟨by show 3 ≤ sizeLine; decide, fun t ht => ?_⟩
    rw [upd_new ht]
    have e4 := e1.trans (e2.trans (e3.trans (ex_new (o := .tup [x, y, z]) ht)))
    have d4 := dj_new (o := .tup [x, y, z]) d3 ht
    have H4 := H.ext e4 d4
    refine ⟨t, _, rfl, st_of (jn_B d4 upd_same), rfl, _, _, rfl, ?_⟩
    obtain ⟨l, ob, a, c, ⟨vs, rfl, r⟩, f⟩ := H4.ow n _ h
    refine ⟨.ref l, a, hm H4 _ ⟨l, vs, ix, k, rfl, rfl, jn_M c, by rw [DqAll_len r]; exact hk, ?_⟩⟩
    refine ⟨_, _, rfl, _, _, rfl, rfl, ?_⟩
    rw [upd_own]
    have e34 := e3.trans (ex_new (o := .tup [x, y, z]) ht)
    have p1' := Dq_ex (e2.trans e34) d x p1
    exact q _ _ _ e4 (((H4.change h a c (R' := isL (ds.set k d)) ⟨_, rfl, DqAll_set p1' k r⟩).setIm (P := P) (by rw [List.length_set]; exact hi) (P.mono e34 p2)).setIm (P := P') (by rw [List.length_set, List.length_set]; exact hj) (P'.mono (ex_new ht) p3))
theorem at_var {n : Nat} {i : Int} (h : G[n]? = some (.im (isD (.int i)))) : ∀ {M0 : Hp} {σ : L2.St} {B M : Hp}, Holds M0 G σ B M → ∀ Q : VK, Q (.int i) (jn B M) → tVar n σ (jn B M) Q := fun {M0 σ B M} H Q q => by
  obtain ⟨v, a, b⟩ := H.im n _ h
  rw [dp_int b] at a
  exact ⟨_, a, q⟩
/-! what raises within a display, an argument -/
theorem sb_lst {C : Addr} (h : Sb te G E C) : Sb (tLst (tCons te tr)) G E C := fun M0 σ B M H Q q => h M0 σ B M H _ q
theorem sb_tup {C : Addr} (h : Sb te G E C) : Sb (tTup (tCons te tr)) G E C := fun M0 σ B M H Q q => h M0 σ B M H _ q
end
end Mini

namespace Mini
open PySem L2 Evl PyProof.Rows
/-! ### a tuple times a number that is below 0 -/
theorem tuple_mulN (l : Addr) (items : Array Value) (n : Nat) (dd : Option Addr) (sl : Array (Option Value)) (x : Int) (u : Tok) (hne : items.isEmpty = false) (c0 : (decide (x < -(2 ^ 63)) || decide (x ≥ 2 ^ 63)) = false) (hx : x < 0) :
    Meets (Builtin.«tuple.__mul__» ⟨[.ref l, .int x u], []⟩) (fun _ R s => s.heap.get? l = some { cls := .type "tuple", dict := dd, data := .seq items n, slots := sl } ∧
      R (.ok (.ret (Value.ref s.heap.objs.size))) { s with heap := s.heap.push { cls := Value.type "tuple", data := Data.seq #[] }, toks := s.toks }) :=
  .of_wp fun prog w A R s h => by
    obtain ⟨hp, g, d, tk, os⟩ := s
    obtain ⟨hl, h⟩ := h
    have f1 := AutoSeq1.idx_int
    have c1 : (items.isEmpty || x == 1) = false := by rw [hne, Bool.false_or]; exact beq_eq_false_iff_ne.mpr (by omega)
    have c2 : (decide (x ≤ 0) || items.isEmpty) = true := by rw [decide_eq_true (by omega)]; rfl
    wp_walk using wpAny_loadPart' hl
    repeat (first
      | (refine wpAny_ite_false (decide_eq_false (by rw [c0]; exact Bool.false_ne_true)) ?_; wp_walk using wpAny_loadPart' hl)
      | (refine wpAny_ite_false (decide_eq_false (by rw [c1]; exact Bool.false_ne_true)) ?_; wp_walk using wpAny_loadPart' hl)
      | (refine wpAny_ite_true (decide_eq_true c2) ?_; wp_walk using wpAny_loadPart' hl))
    exact ⟨_, rfl, h⟩
section
variable {X : Cx}
def rRepN (K : PySem.W.Frag) : R2 := fun x y H Q => ∃ l xs k, x = .ref l ∧ y = .int k ∧ SqT K H l xs ∧ xs ≠ [] ∧ k < 0 ∧ -(2 ^ 63) ≤ k ∧ ∀ p, H p = none → Q (.ref p) (upd H p (.tup []))
theorem op_repN : OpR X (binaryOp .Mult) (rRepN X.K) := by
  intro pins s σ H x y v u Q I rx ry h
  obtain ⟨l, xs, k, e1, e2, hT, hne, hk, hk2, q⟩ := h
  subst e1 e2
  cases rx
  obtain ⟨t, rfl⟩ := ry
  obtain ⟨its, r, ⟨⟨cls, dd, data, sl⟩, ho, hc, n, hd⟩, hs⟩ := I.tuple hT
  simp only at hc hd
  subst hc hd
  have hi : its.toArray.isEmpty = false := by
    cases its with
    | nil => exact absurd (List.length_eq_zero_iff.mp r.length) hne
    | cons a b => rfl
  have a0 : (decide (k < -(2 ^ 63)) || decide (k ≥ 2 ^ 63)) = false := by
    rw [decide_eq_false (by omega), decide_eq_false (by omega)]; rfl
  refine wpAny_binaryOp_repeat_ref (T := "tuple") (U := "int") (by decide) ⟨_, ho, rfl⟩ (fun s' => typeIs_int s' k t) noFill_tuple_mul F.fills_int_mul F.slot_int_rmul repeat_tuple F.slot_int_index.lookup ?_
  refine call_meets F.slot_int_rmul (typeIs_int s k t) F.entry_int_rmul (F.args_int_rmul_2 _ _) (int_rmul_tuple k t l its.toArray n dd sl) ⟨ho, rfl, ⟨_, ho, rfl⟩, ?_⟩
  refine call_meets F.slot_tuple_mul ⟨_, ho, rfl⟩ F.entry_tuple_mul (F.args_tuple_mul_2 _ _) (tuple_mulN l its.toArray n dd sl k t hi a0 hk) ⟨ho, ?_⟩
  refine ⟨.ref s.heap.objs.size, _, I.laid (t' := s.toks) (o := .tup []) (fun b ob q => Heap.get?_push_of_some _ q) (Nat.le_refl _) ?_, rfl, q _ (I.hok.fresh (Nat.le_refl _))⟩
  exact ⟨Nat.zero_le _, [], .nil, IsTup.new _ _⟩
def uMul3 (K : PySem.W.Frag) : R2 := fun x y H Q => uMul2 K x y H Q ∨ rRepN K x y H Q
theorem op_uMul3 : OpR X (binaryOp .Mult) (uMul3 X.K) := OpR.or op_uMul2 op_repN
end
section
variable {K : PySem.W.Frag} {G : Gm} {ta tb : TE} {ds : List PyData} {i j : Int}
theorem sv_repT3 (ha : Sv ta G (isD (.tuple ds))) (hb : Sv tb G (isD (.int i))) (hn : ds ≠ []) (h0 : -(2 ^ 63) ≤ i) (hz : (ds.length : Int) * i ≤ 1000000) : Sv (tOp (uMul3 K) ta tb) G (isD (.tuple (List.replicate i.toNat ds).flatten)) := by
  by_cases h2 : 0 ≤ i
  · by_cases h3 : 2 ≤ i
    · refine sv_op ha hb (r := uMul3 K) (rv_or1 (rv_or1 ?_))
      intro B M x y dj p1 p2 Q q
      obtain ⟨a, vs, rfl, h1, h3'⟩ := dq_tup p1
      have hne : vs ≠ [] := by intro z; subst z; cases h3'; exact hn rfl
      rw [dp_int p2]
      refine .inr (.inr ⟨a, i, vs, rfl, rfl, st_of (jn_B dj h1), hne, h3, by rw [DqAll_len h3']; exact hz, fun p hp => ?_⟩)
      rw [upd_new hp]
      exact q _ _ (ex_new hp) (dj_new dj hp) (.tup upd_same (DqAll_ex (ex_new hp) (DqAll_rep h3' _)))
    · refine sv_op ha hb (r := uMul3 K) (rv_or1 (rv_or2 ?_))
      intro B M x y dj p1 p2 Q q
      obtain ⟨a, vs, rfl, h1, h3'⟩ := dq_tup p1
      have hne : vs ≠ [] := by intro z; subst z; cases h3'; exact hn rfl
      rw [dp_int p2]
      have hi : i = 1 ∨ i = 0 := by omega
      refine ⟨a, vs, rfl, st_of (jn_B dj h1), hne, ?_⟩
      rcases hi with rfl | rfl
      · refine .inl ⟨rfl, q _ B (Ex.refl B) dj (.tup h1 ?_)⟩
        simpa using h3'
      · refine .inr ⟨rfl, fun p hp => ?_⟩
        rw [upd_new hp]
        exact q _ _ (ex_new hp) (dj_new dj hp) (.tup upd_same .nil)
  · refine sv_op ha hb (r := uMul3 K) (rv_or2 ?_)
    intro B M x y dj p1 p2 Q q
    obtain ⟨a, vs, rfl, h1, h3⟩ := dq_tup p1
    have hne : vs ≠ [] := by intro z; subst z; cases h3; exact hn rfl
    rw [dp_int p2]
    refine ⟨a, vs, i, rfl, rfl, st_of (jn_B dj h1), hne, by omega, h0, fun p hp => ?_⟩
    rw [show i.toNat = 0 by omega] at q
    rw [upd_new hp]
    exact q _ _ (ex_new hp) (dj_new dj hp) (.tup upd_same .nil)
theorem sv_mul3 (ha : Sv ta G (isD (.int i))) (hb : Sv tb G (isD (.int j))) (hc : CMul i j) : Sv (tOp (uMul3 K) ta tb) G (isD (.int (i * j))) := sv_op ha hb (rv_or1 (rv_or1 (rv_or1 (rv_I hc))))
theorem svl_rep3 (ha : Rl ta G ds) (hb : Sv tb G (isD (.int i))) (h0 : -(2 ^ 63) ≤ i) (h1 : i < 2 ^ 63) (hz : ds.length * i.toNat ≤ sizeLine) : Svl (tOp (uMul3 K) ta tb) G (List.replicate i.toNat ds).flatten := fun M0 σ B M H Q q =>
  ha M0 σ B M H _ fun a vs B1 e1 d1 hh q1 => hb M0 σ B1 M (H.ext e1 d1) _ fun y B2 e2 d2 p2 => by
    rw [dp_int p2]
    exact .inl (.inl (.inr (.inl ⟨a, i, vs, rfl, rfl, jn_mono e2 d2 _ _ hh, h0, h1, by rw [DqAll_len q1]; exact hz, fun p hp => q p _ B2 (e1.trans e2) d2 hp (DqAll_rep (DqAll_ex e2 q1) _)⟩)))
end
end Mini

namespace Mini
open PySem L2 Evl PyProof.Rows
def noneB (d : PyData) : Bool := match d with
  | .none => true
  | _ => false
theorem sv_isNb {ta : TE} {G : Gm} {d : PyData} (ha : Sv ta G (isD d)) : Sv (tOp (fun x y H Q => y = .non ∧ Q (.bl (decide (x = .non))) H) ta (tC .non)) G (isD (.bool (noneB d))) := by
  cases d <;> exact sv_isN ha
theorem sv_notNb {ta : TE} {G : Gm} {d : PyData} (ha : Sv ta G (isD d)) : Sv (tOp (fun x y H Q => y = .non ∧ Q (.bl (!decide (x = .non))) H) ta (tC .non)) G (isD (.bool (!noneB d))) := by
  cases d <;> exact sv_notN ha
end Mini

namespace Mini
open PySem L2 Evl PyProof.Rows
section
variable {K : PySem.W.Frag} {E : L2.St → XK} {G : Gm} {ds : List PyData} {n : Nat}
/-- xs.reverse(), xs one's own -/
theorem ss_reverse (h : G[n]? = some (.ow (isL ds))) : Ss E (tDrop (tBM0 K "list" rReverse (tVar n))) G (.nx (G.set n (.ow (isL ds.reverse)))) := fun M0 D σ B M H q => by
  obtain ⟨l, ob, a, c, ⟨vs, rfl, r⟩, f⟩ := H.ow n _ h
  refine ⟨.ref l, a, Or.inl ⟨rfl, vs, sq_of (jn_M c)⟩, ?_⟩
  refine ⟨l, vs, rfl, rfl, jn_M c, ?_⟩
  rw [upd_own]
  exact q σ B _ (Ex.refl B) (H.change h a c ⟨_, rfl, DqAll_rev r⟩)
end
/-- a step that is no more -/
theorem itS_stop {S : Type} {f : S → Option S} {s : S} {N : Nat} (h : f (itS f s N) = none) : ∀ j, itS f s (N + j) = itS f s N
  | 0 => rfl
  | j + 1 => by
    show (match f (itS f s (N + j)) with | some s' => s' | none => itS f s (N + j)) = _
    rw [itS_stop h j, h]
end Mini

namespace Mini
open PySem L2 Evl PyProof.Rows
/-! ### targets of loops and comprehensions: names, tuples of targets -/
theorem wipe_set {j : Nat} {x : Option V} : ∀ {vs : List Nat} {σ : L2.St}, j ∈ vs → L2.wipe (σ.set j x) vs = L2.wipe σ vs
  | [], _, h => absurd h (List.not_mem_nil)
  | v :: vs, σ, h => by
    show (L2.wipe (σ.set j x) vs).set v none = (L2.wipe σ vs).set v none
    have step : ∀ (vs : List Nat) (σ : L2.St), ¬ j ∈ vs → L2.wipe (σ.set j x) vs = (L2.wipe σ vs).set j x := fun vs => by
      induction vs with
      | nil => intro σ _; rfl
      | cons w ws ih =>
        intro σ hn
        show (L2.wipe (σ.set j x) ws).set w none = ((L2.wipe σ ws).set w none).set j x
        rw [ih σ (fun z => hn (List.mem_cons_of_mem _ z)), List.set_comm _ _ (fun z => hn (by rw [z]; exact List.mem_cons_self ..))]
    by_cases h1 : j ∈ vs
    · rw [wipe_set h1]
    · have e : j = v := by rcases List.mem_cons.mp h with e | e; exact e; exact absurd e h1
      rw [step vs σ h1, e, List.set_set]
theorem wipeG_len : ∀ (G : Gm) (vs : List Nat), (wipeG G vs).length = G.length
  | _, [] => rfl
  | G, v :: vs => by show ((wipeG G vs).set v .no).length = _; rw [List.length_set, wipeG_len G vs]
def Tg (N : Nat) (js : List Nat) (g : TG) (P : Ty) (f : Gm → Gm) : Prop := ∀ (M0 : Hp) (G : Gm) (σ : L2.St) (B M : Hp) (v : V), G.length = N → Holds M0 G σ B M → P.p v B → ∀ Q : L2.St → Hp → Prop,
  (∀ σ', (∀ vs : List Nat, (∀ j ∈ js, j ∈ vs) → L2.wipe σ' vs = L2.wipe σ vs) → Holds M0 (f G) σ' B M → Q σ' (jn B M)) → g v σ (jn B M) Q
section
variable {K : PySem.W.Frag} {E : L2.St → XK} {tu ts : TS} {te tl ta tb : TE} {tt : TT} {G : Gm} {o : Out} {ds es : List PyData} {j l N n : Nat} {P : Ty} {g g1 g2 g3 : TG} {js js1 js2 js3 : List Nat} {f f1 f2 f3 : Gm → Gm} {d1 d2 d3 : PyData} {P1 P2 P3 : Ty}
theorem tg_name (hj : j < N) : Tg N [j] (gName j) P (fun G => G.set j (.im P)) := fun M0 G σ B M v hl H p Q q => q _ (fun vs h => wipe_set (h j (List.mem_cons_self ..))) (H.setIm (by rw [hl]; exact hj) p)
theorem tg_tup2 (h1 : Tg N js1 g1 (isD d1) f1) (h2 : Tg N js2 g2 (isD d2) f2) (hf : ∀ G : Gm, (f1 G).length = G.length) : Tg N (js1 ++ js2) (gTup K 2 (gCons g1 (gCons g2 gNil))) (isD (.tuple [d1, d2])) (fun G => f2 (f1 G)) := fun M0 G σ B M v hl H p Q q => by
  obtain ⟨a, vs, rfl, hh, q1⟩ := dq_tup p
  cases q1 with
  | cons p1 q1 => cases q1 with
    | cons p2 q1 =>
      cases q1
      refine ⟨a, _, rfl, st_of (jn_B H.dj hh), rfl, _, _, rfl, ?_⟩
      refine h1 M0 G σ B M _ hl H p1 _ fun σ1 w1 H1 => ⟨_, _, rfl, ?_⟩
      refine h2 M0 (f1 G) σ1 B M _ (by rw [hf]; exact hl) H1 p2 _ fun σ2 w2 H2 => ⟨rfl, ?_⟩
      exact q σ2 (fun vs h => (w2 vs fun j hj => h j (List.mem_append.mpr (.inr hj))).trans (w1 vs fun j hj => h j (List.mem_append.mpr (.inl hj)))) H2
theorem tg_tup3 (h1 : Tg N js1 g1 (isD d1) f1) (h2 : Tg N js2 g2 (isD d2) f2) (h3 : Tg N js3 g3 (isD d3) f3) (hf : ∀ G : Gm, (f1 G).length = G.length) (hf2 : ∀ G : Gm, (f2 G).length = G.length) : Tg N (js1 ++ (js2 ++ js3)) (gTup K 3 (gCons g1 (gCons g2 (gCons g3 gNil)))) (isD (.tuple [d1, d2, d3])) (fun G => f3 (f2 (f1 G))) := fun M0 G σ B M v hl H p Q q => by
  obtain ⟨a, vs, rfl, hh, q1⟩ := dq_tup p
  cases q1 with
  | cons p1 q1 => cases q1 with
    | cons p2 q1 => cases q1 with
      | cons p3 q1 =>
        cases q1
        refine ⟨a, _, rfl, st_of (jn_B H.dj hh), rfl, _, _, rfl, ?_⟩
        refine h1 M0 G σ B M _ hl H p1 _ fun σ1 w1 H1 => ⟨_, _, rfl, ?_⟩
        refine h2 M0 (f1 G) σ1 B M _ (by rw [hf]; exact hl) H1 p2 _ fun σ2 w2 H2 => ⟨_, _, rfl, ?_⟩
        refine h3 M0 (f2 (f1 G)) σ2 B M _ (by rw [hf2, hf]; exact hl) H2 p3 _ fun σ3 w3 H3 => ⟨rfl, ?_⟩
        exact q σ3 (fun vs h => ((w3 vs fun j hj => h j (List.mem_append.mpr (.inr (List.mem_append.mpr (.inr hj))))).trans (w2 vs fun j hj => h j (List.mem_append.mpr (.inr (List.mem_append.mpr (.inl hj)))))).trans (w1 vs fun j hj => h j (List.mem_append.mpr (.inl hj)))) H3
/-- over a list that stays, any target -/
theorem ss_forLg (h : Sv tl G (isD (.list ds))) (fd : PyData → Gm → Gm) (Gi : Nat → Gm) (N : Nat) (hN : N ≤ ds.length) (h0 : Le G (Gi 0)) (hj : ∀ i, i ≤ N → (Gi i).length = n) (hg : ∀ d ∈ ds, Tg n js g (isD d) (fd d))
    (hs : ∀ i d, ds[i]? = some d → i < N → Turn E tu (fd d (Gi i)) (Gi (i + 1))) (hd : EndsAs E tu Gi (fun i => fd (ds.getD i .none) (Gi i)) N ds.length o) :
    Ss E (tFor (iList K tl) g tu) G o := fun M0 D σ B M H q =>
  h M0 σ B M H _ fun v B1 e1 dd1 p1 => by
    obtain ⟨a, vs, rfl, ha, hv⟩ := dq_lst p1
    have hlen := DqAll_len hv
    refine ⟨a, rfl, ⟨vs, sq_of (jn_B dd1 ha)⟩, ?_⟩
    have wide : ∀ i σ' H', Pvl M0 B1 Gi N i σ' H' → SqL K H' a vs := fun i σ' H' p => by
      obtain ⟨_, B', M', rfl, e, H'⟩ := p
      exact sq_of (jn_B H'.dj (e _ _ ha))
    refine for_list (xs := vs) (Pvl M0 B1 Gi N) ⟨Nat.zero_le _, B1, M, rfl, Ex.refl B1, (H.ext e1 dd1).le h0⟩ (fun i σ' H' _ p => wide i σ' H' p) (fun i x σ' H' hx p => ?_) (fun σ' H' p => ?_)
    · obtain ⟨hiN, B', M', rfl, e, H'⟩ := p
      obtain ⟨d, hd1, px⟩ := DqAll_getV hv hx
      refine hg d (List.mem_of_getElem? hd1) M0 (Gi i) σ' B' M' x (hj i hiN) H' (Dq_ex e d x px) _ fun σ2 _ H2 => ?_
      refine turn_ok (o := o) hiN H2 e (fun l => hs i d hd1 l) (fun l => ?_) (q.ext e1)
      rcases hd with ⟨b, _⟩ | ⟨_, b⟩
      · have := (List.getElem?_eq_some_iff.mp hx).1; omega
      · have z : ds.getD N .none = d := by rw [← l, List.getD_eq_getElem?_getD, hd1]; rfl
        dsimp only at b
        rw [z, ← l] at b
        exact b
    · obtain ⟨hiN, B', M', rfl, e, H'⟩ := p
      rcases hd with ⟨b, c⟩ | ⟨b, _⟩
      · rw [c] at q
        rw [hlen, ← b] at H'
        exact q σ' B' M' (e1.trans e) H'
      · omega
/-- for i, target in enumerate(a list that stays) -/
theorem ss_forEg (h : Sv tl G (isD (.list ds))) (fd : PyData → Gm → Gm) (Gi : Nat → Gm) (N : Nat) (hN : N ≤ ds.length) (h0 : Le G (Gi 0)) (hn : ∀ i, i ≤ N → (Gi i).length = n) (hj : j < n) (hg : ∀ d ∈ ds, Tg n js g (isD d) (fd d))
    (hs : ∀ i d, ds[i]? = some d → i < N → Turn E tu (fd d ((Gi i).set j (.im (isD (.int (i : Int)))))) (Gi (i + 1)))
    (hd : EndsAs E tu Gi (fun i => fd (ds.getD i .none) ((Gi i).set j (.im (isD (.int (i : Int)))))) N ds.length o) :
    Ss E (tFor (iEnum K (tCons tl tNil)) (gTup K 2 (gCons (gName j) (gCons g gNil))) tu) G o := fun M0 D σ B M H q =>
  h M0 σ B M H _ fun v B1 e1 d1 p1 => by
    obtain ⟨a, vs, rfl, ha, hv⟩ := dq_lst p1
    have hlen := DqAll_len hv
    refine ⟨a, vs, rfl, sq_of (jn_B d1 ha), ?_⟩
    refine ⟨fun i m σ H => m = vs.length - i ∧ i ≤ vs.length ∧ Pvl M0 B1 Gi N i σ H, ⟨vs.length, by simp, Nat.zero_le _, Nat.zero_le _, B1, M, rfl, Ex.refl B1, (H.ext e1 d1).le h0⟩, ?_⟩
    rintro i m σ' H1 ⟨rfl, hi, p⟩
    obtain ⟨hiN, B', M', rfl, e, H'⟩ := p
    have hS : SqL K (jn B' M') a vs := sq_of (jn_B H'.dj (e _ _ ha))
    by_cases hlt : i < vs.length
    · refine .inr ⟨⟨vs, vs[i], hS, List.getElem?_eq_getElem hlt⟩, Pvl M0 B1 Gi N (i + 1), fun σ' H' p' => ⟨vs.length - (i + 1), by omega, rfl, hlt, p'⟩, fun x H2 y => ?_⟩
      obtain ⟨t, x, rfl, ht, rfl, hx⟩ := y
      obtain ⟨d, hd1, px⟩ := DqAll_getV hv (hx vs hS)
      rw [upd_new ht]
      have dj2 := dj_new (o := .tup [.int (i : Nat), x]) H'.dj ht
      have ex2 := ex_new (o := .tup [.int (i : Nat), x]) ht
      refine ⟨t, _, rfl, st_of (jn_B dj2 upd_same), rfl, _, _, rfl, _, _, rfl, ?_⟩
      have H3 := (H'.ext ex2 dj2).setIm (by rw [hn i hiN]; exact hj : j < (Gi i).length) (P := isD (.int (i : Int))) (v := .int (i : Int)) (Dq.int _)
      refine hg d (List.mem_of_getElem? hd1) M0 _ _ _ M' x (by rw [List.length_set]; exact hn i hiN) H3 (Dq_ex (e.trans ex2) d x px) _ fun σ2 _ HH => ⟨rfl, ?_⟩
      refine turn_ok (o := o) hiN HH (e.trans ex2) (fun w => hs i d hd1 w) (fun w => ?_) (q.ext e1)
      rcases hd with ⟨b, _⟩ | ⟨_, b⟩
      · omega
      · have z : ds.getD N .none = d := by rw [← w, List.getD_eq_getElem?_getD, hd1]; rfl
        dsimp only at b
        rw [z, ← w] at b
        exact b
    · refine .inl ⟨⟨vs, hS, by omega⟩, ?_⟩
      rcases hd with ⟨b, c⟩ | ⟨b, _⟩
      · rw [c] at q
        have ei : i = N := by omega
        rw [ei] at H'
        exact q σ' B' M' (e1.trans e) H'
      · omega
/-! comprehensions over any target -/
theorem lc_turnG {M0 B M : Hp} {σ : L2.St} {vs : List Nat} {Dl : Addr} {es : Nat → List PyData} {i : Nat} {d y : PyData} {x : V} {b : Bool} {B' : Hp} {acc : List V} (H : Holds M0 G σ B M) (hM : M Dl = none) (e : Ex B B') (dj : Dj B' (upd M Dl (.lst acc))) (ha : DqAll B' acc (es i)) (hz : (es i).length < sizeLine)
    (hx : Dq B' x d) (hg : Tg G.length js g (isD d) f) (hjs : ∀ j ∈ js, j ∈ vs) (ht : St' tt (f (wipeG G vs)) b) (he : b = true → Sv te (f (wipeG G vs)) (isD y)) (hs : es (i + 1) = if b then es i ++ [y] else es i) :
    g x (L2.wipe σ vs) (jn B' (upd M Dl (.lst acc))) fun σ2 H2 => L2.wipe σ2 vs = L2.wipe σ vs ∧ tt σ2 H2 fun b H3 =>
      if b = true then te σ2 H3 fun y H4 => ∃ acc, H4 Dl = some (.lst acc) ∧ acc.length < sizeLine ∧ Pvc B M Dl es (i + 1) (upd H4 Dl (.lst (acc ++ [y]))) else Pvc B M Dl es (i + 1) H3 := by
  have hB' : B' Dl = none := dj_free dj upd_same
  have djM : Dj B' M := fun a u q => by
    have := dj a u q
    by_cases z : a = Dl
    · rw [z]; exact hM
    · rw [upd_ne z] at this; exact this
  have h1 := ((H.ext e djM).wipes vs).more (p := Dl) (o := .lst acc) (show jn B' M Dl = none by rw [jn_N hM]; exact hB')
  refine hg M0 _ _ _ _ x (wipeG_len G vs) h1 hx _ fun σ2 w2 H2 => ?_
  have ww : ∀ (vs : List Nat) (σ : L2.St), L2.wipe (L2.wipe σ vs) vs = L2.wipe σ vs := fun vs => by
    induction vs with
    | nil => intro σ; rfl
    | cons v vs ih =>
      intro σ
      show (L2.wipe ((L2.wipe σ vs).set v none) vs).set v none = (L2.wipe σ vs).set v none
      by_cases hv : v ∈ vs
      · rw [wipe_set hv, ih]
      · have st : ∀ (ws : List Nat) (σ : L2.St), ¬ v ∈ ws → L2.wipe (σ.set v none) ws = (L2.wipe σ ws).set v none := fun ws => by
          induction ws with
          | nil => intro σ _; rfl
          | cons w ws ih2 =>
            intro σ hn
            show (L2.wipe (σ.set v none) ws).set w none = ((L2.wipe σ ws).set w none).set v none
            rw [ih2 σ (fun z => hn (List.mem_cons_of_mem _ z)), List.set_comm _ _ (fun z => hn (by rw [z]; exact List.mem_cons_self ..))]
        rw [st vs _ hv, ih, List.set_set]
  refine ⟨by rw [w2 vs hjs]; exact ww vs σ, ?_⟩
  refine ht M0 _ _ _ H2 _ fun B3 e3 d3 => ?_
  cases b with
  | true =>
    rw [if_pos rfl]
    refine he rfl M0 _ _ _ (H2.ext e3 d3) _ fun v B4 e4 d4 p4 => ?_
    refine ⟨acc, jn_M upd_same, by rw [DqAll_len ha]; exact hz, ?_⟩
    rw [upd_own, upd_upd]
    refine ⟨B4, acc ++ [v], rfl, (e.trans e3).trans e4, ?_, ?_⟩
    · intro a u q
      have := d4 a u q
      by_cases z : a = Dl
      · rw [z, upd_same] at this; cases this
      · rw [upd_ne z] at this ⊢; exact this
    · rw [hs, if_pos rfl]
      exact DqAll_append (DqAll_ex (e3.trans e4) ha) (.cons p4 .nil)
  | false =>
    rw [if_neg Bool.false_ne_true]
    refine ⟨B3, acc, rfl, e.trans e3, d3, ?_⟩
    rw [hs, if_neg Bool.false_ne_true]
    exact DqAll_ex e3 ha
theorem take_filter {α β : Type} (b : α → Bool) (y : α → β) (ds : List α) (i : Nat) (d : α) (h : ds[i]? = some d) : ((ds.take (i + 1)).filter b).map y = if b d then ((ds.take i).filter b).map y ++ [y d] else ((ds.take i).filter b).map y := by
  rw [List.take_succ, h, List.filter_append]
  show (_ ++ List.filter b [d]).map y = _
  cases hb : b d with
  | true => rw [List.filter_cons_of_pos hb, List.map_append]; rfl
  | false => rw [List.filter_cons_of_neg (by rw [hb]; simp), List.filter_nil, List.append_nil]; rfl
/-- [y for target in a list if b] -/
theorem svl_lcG {vs : List Nat} (h : Rl tl G ds) (fd : PyData → Gm → Gm) (b : PyData → Bool) (y : PyData → PyData) (hz : ds.length < 10000000) (hg : ∀ d ∈ ds, Tg G.length js g (isD d) (fd d)) (hjs : ∀ j ∈ js, j ∈ vs) (ht : ∀ d ∈ ds, St' tt (fd d (wipeG G vs)) (b d)) (he : ∀ d ∈ ds, b d = true → Sv te (fd d (wipeG G vs)) (isD (y d))) :
    Svl (tLc (iList K tl) g tt te vs) G ((ds.filter b).map y) := fun M0 σ B M H Q q => h M0 σ B M H _ fun a us B1 e1 dd1 hh q1 => by
  have hlen := DqAll_len q1
  let es : Nat → List PyData := fun i => ((ds.take i).filter b).map y
  refine ⟨a, rfl, ⟨us, sq_of hh⟩, fun Dl hD => ?_⟩
  have hM := (jn_free hD).2
  have hl : ∀ i, (es i).length ≤ i := fun i => by
    show (((ds.take i).filter b).map y).length ≤ i
    rw [List.length_map]
    have := List.length_filter_le b (ds.take i)
    rw [List.length_take] at this
    omega
  refine lc_list (xs := us) (Pvc B1 M Dl es) ⟨B1, [], by rw [upd_own], Ex.refl B1, dj_own dd1 (jn_free hD).1, .nil⟩ (fun i H' _ p => ?_) (fun i x H' hx p => ?_) (fun H' p => ?_)
  · obtain ⟨B', acc, rfl, e, dj, _⟩ := p
    refine sq_of ?_
    have hne : a ≠ Dl := fun z => by rw [z, hD] at hh; cases hh
    unfold jn at hh ⊢
    rw [upd_ne hne]
    cases z : M a with
    | some u => rw [z] at hh; exact hh
    | none => rw [z] at hh; exact e _ _ hh
  · obtain ⟨B', acc, rfl, e, dj, ha⟩ := p
    obtain ⟨d, hd, px⟩ := DqAll_getV q1 hx
    have hi := (List.getElem?_eq_some_iff.mp hd).1
    have hm := List.mem_of_getElem? hd
    exact lc_turnG (H.ext e1 dd1) hM e dj ha (by have := hl i; rw [sizeLine_eq]; omega) (Dq_ex e d x px) (hg d hm) hjs (ht d hm) (he d hm) (take_filter b y ds i d hd)
  · rw [hlen] at p
    have ee : es ds.length = (ds.filter b).map y := by show ((ds.take ds.length).filter b).map y = _; rw [List.take_length]
    exact lc_end hM (Ex.refl _) (fun p vs B' e dj hf hv => by rw [ee] at hv; exact q p vs B' (e1.trans e) dj hf hv) H' p
theorem svl_lcGm {vs : List Nat} (h : Rl tl G ds) (fd : PyData → Gm → Gm) (y : PyData → PyData) (hz : ds.length < 10000000) (hg : ∀ d ∈ ds, Tg G.length js g (isD d) (fd d)) (hjs : ∀ j ∈ js, j ∈ vs) (he : ∀ d ∈ ds, Sv te (fd d (wipeG G vs)) (isD (y d))) :
    Svl (tLc (iList K tl) g tYes te vs) G (ds.map y) := by
  have z := svl_lcG (K := K) (vs := vs) h fd (fun _ => true) y hz hg hjs (fun _ _ => st_yes) (fun d hd _ => he d hd)
  rw [List.filter_eq_self.mpr (fun _ _ => rfl)] at z
  exact z
/-- xs.extend(a list), xs one's own -/
theorem ss_extend (h : G[n]? = some (.ow (isL ds))) (he : Rl te G es) (hz : ds.length + es.length ≤ sizeLine) : Ss E (tDrop (tBM K "list" rExtend (tVar n) (tCons te tNil))) G (.nx (G.set n (.ow (isL (ds ++ es))))) := fun M0 D σ B M H q => by
  obtain ⟨l, ob, a, c, ⟨vs, rfl, r⟩, f⟩ := H.ow n _ h
  refine ⟨.ref l, a, Or.inl ⟨rfl, vs, sq_of (jn_M c)⟩, ?_⟩
  refine he M0 σ B M H _ fun b us B' e dj hb hd => ?_
  refine ⟨l, b, vs, us, rfl, rfl, jn_M c, hb, by rw [DqAll_len r, DqAll_len hd]; exact hz, ?_⟩
  rw [upd_own]
  exact q σ B' _ e ((H.ext e dj).change h a c ⟨_, rfl, DqAll_append (DqAll_ex e r) hd⟩)
end
end Mini

namespace Mini
open PySem L2 Evl PyProof.Rows
section
variable {K : PySem.W.Frag} {E : L2.St → XK} {G : Gm} {te ta tb tv : TE} {C : Addr} {n : Nat} {f : Str} {ds : List PyData} {d1 d2 : PyData} {i1 i2 : Int} {k1 k2 : Nat}
/-- self.f = e, and e raises -/
theorem ss_fldBad {to : TE} (h : Sb tv G E C) : Ss E (sFld K to tv f) G (.bad C G) := fun M0 D σ B M H q => h M0 σ B M H _ fun B' e d => q σ B' M e (H.ext e d)
/-- a, b = two values or new lists, side by side -/
theorem ss_parS {ta : TA} {kk1 kk2 : Ty ⊕ List PyData} {i j : Nat} (h : Sn ta G [kk1, kk2]) (hi : i < G.length := by exact Nat.le_of_ble_eq_true rfl) (hj : j < G.length := by exact Nat.le_of_ble_eq_true rfl) : Ss E (tPar i j ta) G (.nx (setAll G [i, j] [kk1, kk2])) := fun M0 D σ B M H q =>
  h M0 σ B M H _ fun vs B1 M1 e1 d1 p1 => by
    have dM : Dj B1 M := fun a u z => by
      have w := d1 a u z
      cases hm : M a with
      | none => rfl
      | some o => rw [p1.ex a o hm] at w; cases w
    have K1 := holds_set (is := [i, j]) (H.ext e1 dM) d1 p1 rfl (fun k hk => by
      rcases List.mem_cons.mp hk with rfl | hk
      · exact hi
      · rcases List.mem_cons.mp hk with rfl | hk
        · exact hj
        · cases hk)
    have hl := p1.len
    match vs, hl with
    | [u, v], _ => exact ⟨u, v, rfl, q _ _ _ e1 K1⟩
/-- an argument raises -/
theorem sb_mkA {D : Addr} {sp : Sp} {tr : TA} (h : Sb te G E C) : Sb (tMk D sp E (tCons te tr)) G E C := fun M0 σ B M H Q q => h M0 σ B M H _ q
/-- xs[i], xs[j] = two values: xs one's own, i and j written -/
theorem ss_tupSet2 (h : G[n]? = some (.ow (isL ds))) (ha : Sv ta G (isD d1)) (hb : Sv tb G (isD d2)) {t1 t2 : TE} (h1 : Sv t1 G (isD (.int i1))) (h2 : ∀ {M0 : Hp} {σ : L2.St} {B M : Hp}, ∀ Q : VK, Q (.int i2) (jn B M) → t2 σ (jn B M) Q) (h1' : ∀ {M0 : Hp} {σ : L2.St} {B M : Hp}, ∀ Q : VK, Q (.int i1) (jn B M) → t1 σ (jn B M) Q) (hk1 : ixN ds.length i1 = some k1) (hk2 : ixN ds.length i2 = some k2) :
    Ss E (tAsg (tTup (tCons ta (tCons tb tNil))) (gTup K 2 (gCons (gSub (tVar n) t1 rSetL) (gCons (gSub (tVar n) t2 rSetL) gNil)))) G (.nx (G.set n (.ow (isL ((ds.set k1 d1).set k2 d2))))) := fun M0 D σ B M H q =>
  ha M0 σ B M H _ fun x B1 e1 dj1 p1 => hb M0 σ B1 M (H.ext e1 dj1) _ fun y B2 e2 dj2 p2 => by
    refine ⟨by show 2 ≤ sizeLine; decide, fun t ht => ?_⟩
    rw [upd_new ht]
    have e4 := e1.trans (e2.trans (ex_new (o := .tup [x, y]) ht))
    have dj4 := dj_new (o := .tup [x, y]) dj2 ht
    have H4 := H.ext e4 dj4
    have ex2 := ex_new (o := .tup [x, y]) ht
    refine ⟨t, _, rfl, st_of (jn_B dj4 upd_same), rfl, _, _, rfl, ?_⟩
    obtain ⟨l, ob, a, c, ⟨vs, rfl, r⟩, fr⟩ := H4.ow n _ h
    refine ⟨.ref l, a, h1' (M0 := M0) (σ := σ) _ ⟨l, vs, i1, k1, rfl, rfl, jn_M c, by rw [DqAll_len r]; exact hk1, ?_⟩⟩
    refine ⟨_, _, rfl, ?_⟩
    rw [upd_own]
    have p1' := Dq_ex (e2.trans ex2) d1 x p1
    have H5 := H4.change h a c (R' := isL (ds.set k1 d1)) ⟨_, rfl, DqAll_set p1' k1 r⟩
    refine ⟨.ref l, a, h2 (M0 := M0) (σ := σ) _ ⟨l, vs.set k1 x, i2, k2, rfl, rfl, jn_M upd_same, by rw [List.length_set, DqAll_len r]; exact hk2, ?_⟩⟩
    refine ⟨rfl, ?_⟩
    rw [upd_own]
    have hn : n < G.length := (List.getElem?_eq_some_iff.mp h).1
    have H6 := H5.change (n := n) (R := isL (ds.set k1 d1)) (R' := isL ((ds.set k1 d1).set k2 d2)) (List.getElem?_set_self hn) a upd_same ⟨_, rfl, DqAll_set (Dq_ex ex2 d2 y p2) k2 (DqAll_set p1' k1 r)⟩
    rw [List.set_set] at H6
    exact q _ _ _ e4 H6
theorem at_int {i : Int} : ∀ {M0 : Hp} {σ : L2.St} {B M : Hp}, ∀ Q : VK, Q (.int i) (jn B M) → tC (.int i) σ (jn B M) Q := fun Q q => q
theorem at_neg {i : Int} : ∀ {M0 : Hp} {σ : L2.St} {B M : Hp}, ∀ Q : VK, Q (.int (-i)) (jn B M) → tUn (rU fun i => .int (-i)) (tC (.int i)) σ (jn B M) Q := fun Q q => ⟨i, rfl, q⟩
end
end Mini

namespace Mini
open PySem L2 Evl PyProof.Rows

/-! ### enumerate of a text -/
def Ites (x : Str) : It := ⟨fun i _ => i < x.cps.size, fun i H v H' => ∃ T c, v = .ref T ∧ H T = none ∧ H' = upd H T (.tup [.int (i : Nat), .str ⟨#[c]⟩]) ∧ x.cps[i]? = some c, fun i _ => x.cps.size ≤ i⟩
theorem turn_enumS {P : Program} {w : World} {K : PySem.W.Frag} {elts : List Expr} {kk : Nat} {tpos : Pos} (x : Str) (t : Tok) (e it : Addr) :
    L2.Turn P w K (.Tuple elts kk tpos) (Ites x) [e, it] e (fun i h => (∃ old, IsEnum h e it ((i : Nat) : Int) old) ∧ h.IsStrIter it (strIterType x) x t i ∧ e ≠ it ∧ i ≤ x.cps.size) where
  mem := by simp
  obj := fun i h st b hb => by
    obtain ⟨⟨old, he⟩, ⟨o, ho, hc, hd⟩, _⟩ := st
    have e' : b = e ∨ b = it := by simpa using hb
    rcases e' with z | z
    · rw [z]; exact ⟨_, he, fun v q => nomatch q⟩
    · rw [z]; exact ⟨o, ho, fun v q => by rw [hd] at q; cases q⟩
  keep := fun i h h' st k => let ⟨⟨old, he⟩, ⟨o, ho, r⟩, hne⟩ := st; ⟨⟨old, k e (by simp) _ he⟩, ⟨o, k it (by simp) o ho, r⟩, hne⟩
  item := by
    intro X hP hw hK hc i pins s σ H E I hf st hg
    subst hP hw hK
    obtain ⟨⟨old, he⟩, hit, hne, hle⟩ := st
    have D : Draws X.prog X.w X.A.in1 it [it] x.cps.size (fun i v => ∃ c u, x.cps[i]? = some c ∧ v = .str ⟨#[c]⟩ u) (fun i h => h.IsStrIter it (strIterType x) x t i) := by
      unfold strIterType
      split
      · exact Draws.strAscii (A := X.A.in1) (show X.A.in1.handled = none from I.ok.hd hc) it x t
      · exact Draws.strWide (A := X.A.in1) (show X.A.in1.handled = none from I.ok.hd hc) it x t
    have hel : e < s.heap.objs.size := Heap.lt_size he
    have hil : it < s.heap.objs.size := by obtain ⟨_, q, _⟩ := hit; exact Heap.lt_size q
    refine wpAny_pyNext_enum_itemD D he hit hg hne (by simpa using hne) fun v h' tk hP ho hit' hT hsz hk => ?_
    obtain ⟨c, u, hcx, rfl⟩ := hP
    refine ⟨_, rfl, wpAny_letOwnedTupleGo_enum (s := { s with heap := h', toks := tk + 1 }) ho fun h'' he' sb => ?_⟩
    have hT2 : h''.get? s.heap.objs.size = some { cls := .type "tuple", data := .seq #[.int i tk, .str ⟨#[c]⟩ u] } := (sb.2 _ (Nat.ne_of_gt hel)).trans hT
    have new : ObjOk X.prog X.w (upd H s.heap.objs.size (.tup [.int (i : Nat), .str ⟨#[c]⟩])) h'' s.heap.objs.size (.tup [.int (i : Nat), .str ⟨#[c]⟩]) :=
      ⟨by show 2 ≤ sizeLine; decide, [.int i tk, .str ⟨#[c]⟩ u], .cons ⟨_, rfl⟩ (.cons ⟨_, rfl⟩ .nil), ⟨_, hT2, rfl, _, rfl⟩⟩
    have I1 : Inv X pins σ (upd H s.heap.objs.size (.tup [.int (i : Nat), .str ⟨#[c]⟩])) { s with heap := h'', toks := tk + 1 } :=
      I.turnedNew (ch := [e, it]) (fun b ob hb q => (sb.2 b (fun z => hb (by simp [z]))).trans (hk b ob (fun z => hb (by simp [z])) (fun z => hb (by simp [z])) q)) hf (Nat.le_refl _) new
    refine ⟨.ref s.heap.objs.size, _, I1, rfl, ⟨_, c, rfl, I.hok.fresh (Nat.le_refl _), rfl, hcx⟩, ⟨⟨.str ⟨#[c]⟩ u, ?_⟩, ?_, hne, hg⟩, fun b hb => ?_⟩
    · have e1 : ((i + 1 : Nat) : Int) = (i : Int) + 1 := by omega
      rw [e1]; exact he'
    · obtain ⟨o, ho2, r⟩ := hit'
      exact ⟨o, (sb.2 it (Ne.symm hne)).trans ho2, r⟩
    · have hb' : b < s.heap.objs.size := by
        have e' : b = e ∨ b = it := by simpa using hb
        rcases e' with z | z
        · rw [z]; exact hel
        · rw [z]; exact hil
      rw [upd_ne (Nat.ne_of_lt hb')]
      exact (hf b hb).1
  done := by
    intro X hP hw hK hc i pins s σ H E I hf st hg
    subst hP hw hK
    obtain ⟨⟨old, he⟩, hit, hne, hle⟩ := st
    have D : Draws X.prog X.w X.A.in1 it [it] x.cps.size (fun i v => ∃ c u, x.cps[i]? = some c ∧ v = .str ⟨#[c]⟩ u) (fun i h => h.IsStrIter it (strIterType x) x t i) := by
      unfold strIterType
      split
      · exact Draws.strAscii (A := X.A.in1) (show X.A.in1.handled = none from I.ok.hd hc) it x t
      · exact Draws.strWide (A := X.A.in1) (show X.A.in1.handled = none from I.ok.hd hc) it x t
    obtain ⟨f0, f1, f2, f3, f4, f5⟩ := hf it (by simp)
    obtain rfl : i = x.cps.size := Nat.le_antisymm hle hg
    exact wpAny_pyNext_enum_endD D he hit fun h' eb => ⟨rfl, I.turned (t' := s.toks) (fun b o hb q => eb b o hb q) f0 f1 f3 f4 f5⟩
  self := fun A i s Q E st h => let ⟨⟨_, he⟩, _⟩ := st; wpAny_pyIter_enum he h
def iEnumS (ta : TA) : TI := fun σ H R => ta σ H fun vs H1 => ∃ x, vs = [.str x] ∧ R (Ites x) H1
theorem pi_enumS {X : Cx} {e : Expr} {ta : TA} {p pos tpos : Pos} {elts : List Expr} {kk : Nat} (hg : Gl X "enumerate") (hm : X.mg "enumerate" = none) (ha : PA X [e] ta) (hs : starEach [e] X.env = [(false, eval e X.env)] := by rfl) :
    PI X (.Tuple elts kk tpos) (.Call (.Name "enumerate" p) [e] [] pos) (iEnumS ta) := by
  refine ⟨fun pins s σ H R I h => ?_⟩
  refine Call_ (ld_blt I hg hm boot_enumerate (PyProof.Rows.callWith_type1 (thn (ha.run pos pins s σ H _ I h) fun us s1 ⟨vs, H1, I1, r1, q1⟩ => ?_) hs rfl))
  obtain ⟨x, ex, q⟩ := q1
  subst ex
  cases r1 with
  | cons r rr =>
    cases rr
    obtain ⟨t, rfl⟩ := r
    refine call_enumerate_str fun h' he hit hsz hk => wpAny_pyIter_enum he ?_
    have I2 : Inv X pins σ H1 { s1 with heap := h' } := I1.kept (t' := s1.toks) hk
    refine ⟨s1.heap.objs.size + 1, [s1.heap.objs.size + 1, s1.heap.objs.size], _, _, H1, rfl, I2, turn_enumS x t (s1.heap.objs.size + 1) s1.heap.objs.size, ⟨⟨.none, he⟩, hit, Nat.succ_ne_self _, Nat.zero_le _⟩, fun b hb => ?_, q⟩
    have e' : b = s1.heap.objs.size + 1 ∨ b = s1.heap.objs.size := by simpa using hb
    have hle : s1.heap.objs.size ≤ b := by
      rcases e' with z | z
      · rw [z]; omega
      · rw [z]; exact Nat.le_refl _
    exact I1.fpOk hle (I1.hok.fresh hle)
end Mini

namespace Mini
open PySem L2 Evl PyProof.Rows

/-! ### texts: slices, items, joins -/
def uSlS (K : PySem.W.Frag) : V → Option Int → Option Int → Hp → VK → Prop := fun x lo hi H Q => uSl K x lo hi H Q ∨ rSlS x lo hi H Q
theorem sl_uSlS {X : Cx} : SlR X (uSlS X.K) := SlR.or sl_uSl sl_str
def rJoin (K : PySem.W.Frag) : V → List V → Hp → VK → Prop := fun x xs H Q => ∃ a p, ∃ ys : List Str, x = .str a ∧ xs = [.ref p] ∧ (SqL K H p (ys.map V.str) ∨ SqT K H p (ys.map V.str)) ∧
      (ys.map (·.length)).sum + ys.length * a.length ≤ 16777216 ∧ Q (.str (Txt.join a ys)) H
theorem DqAll_strs {H : Hp} : ∀ {ns : List Str} {vs : List V}, DqAll H vs (ns.map PyData.str) → vs = ns.map V.str
  | [], _, h => by cases h; rfl
  | n :: ns, _, h => by
    cases h with
    | cons a b => cases a; rw [DqAll_strs b]; rfl
section
variable {K : PySem.W.Frag} {E : L2.St → XK} {G : Gm} {ta tb tl te td ty tk tv : TE} {j l n : Nat} {ds : List PyData} {z w : Str} {i : Int}
theorem sv_catS (ha : Sv ta G (isD (.str z))) (hb : Sv tb G (isD (.str w))) (hz : z.length + w.length ≤ sizeLine) : Sv (tOp (uAdd K) ta tb) G (isD (.str (z ++ w))) := fun M0 σ B M H Q q =>
  ha M0 σ B M H _ fun x B1 e1 d1 p1 => hb M0 σ B1 M (H.ext e1 d1) _ fun y B2 e2 d2 p2 => by
    rw [dp_str p1, dp_str p2]
    exact .inr (.inr (.inr ⟨z, w, rfl, rfl, hz, q _ B2 (e1.trans e2) d2 (.str _)⟩))
theorem sv_lenS (ha : Sv ta G (isD (.str z))) (hz : z.length ≤ sizeLine) : Sv (tCB (fun xs H Q => ∃ x n, xs = [x] ∧ LenV K x H n ∧ Q (.int n) H) (tCons ta tNil)) G (isD (.int ((z.length : Nat) : Int))) := fun M0 σ B M H Q q =>
  ha M0 σ B M H _ fun x B1 e1 d1 p1 => ⟨x, z.length, rfl, by rw [dp_str p1]; exact ⟨hz, rfl⟩, q _ B1 e1 d1 (.int _)⟩
theorem sv_ixS {c : Nat} (ha : Sv ta G (isD (.str z))) (hb : Sv tb G (isD (.int i))) (hz : z.length ≤ sizeLine) (hi : atI z.cps.toList i = some c) : Sv (tOp (rIx K) ta tb) G (isD (.str ⟨#[c]⟩)) := fun M0 σ B M H Q q =>
  ha M0 σ B M H _ fun x B1 e1 d1 p1 => hb M0 σ B1 M (H.ext e1 d1) _ fun y B2 e2 d2 p2 => by
    rw [dp_str p1, dp_int p2]
    exact .inr (.inr ⟨z, i, c, rfl, rfl, hz, hi, q _ B2 (e1.trans e2) d2 (.str _)⟩)
theorem sv_sliceX {to th : TO} {lo hi : Option Int} (ha : Sv ta G (isD (.str z))) (hl : So to G lo) (hu : So th G hi) (hz : z.length ≤ sizeLine) : Sv (tSl (uSlS K) ta to th) G (isD (.str (cutS z lo hi))) := fun M0 σ B M H Q q =>
  ha M0 σ B M H _ fun x B1 e1 d1 p1 => hl M0 σ B1 M (H.ext e1 d1) _ fun B2 e2 d2 => hu M0 σ B2 M ((H.ext e1 d1).ext e2 d2) _ fun B3 e3 d3 => by
    rw [dp_str p1]
    exact .inr ⟨z, rfl, hz, q _ B3 ((e1.trans e2).trans e3) d3 (.str _)⟩
theorem sv_sliceTX {to th : TO} {lo hi : Option Int} (ha : Sv ta G (isD (.tuple ds))) (hl : So to G lo) (hu : So th G hi) : Sv (tSl (uSlS K) ta to th) G (isD (.tuple (cutD ds lo hi))) := fun M0 σ B M H Q q =>
  ha M0 σ B M H _ fun x B1 e1 d1 p1 => hl M0 σ B1 M (H.ext e1 d1) _ fun B2 e2 d2 => hu M0 σ B2 M ((H.ext e1 d1).ext e2 d2) _ fun B3 e3 d3 => by
    obtain ⟨a, vs, rfl, hh, q1⟩ := dq_tup ((isD (.tuple ds)).mono (e2.trans e3) p1)
    refine .inl (.inr ⟨a, vs, rfl, st_of (jn_B d3 hh), fun z => ?_, fun _ p hp => ?_⟩)
    · refine q _ B3 ((e1.trans e2).trans e3) d3 (.tup hh ?_)
      have w := DqAll_cut q1 lo hi
      unfold cutV at w
      rw [z.1, z.2, List.drop_zero, Nat.sub_zero, List.take_length] at w
      exact w
    · rw [upd_new hp]
      exact q _ _ (((e1.trans e2).trans e3).trans (ex_new hp)) (dj_new d3 hp) (.tup upd_same (DqAll_ex (ex_new hp) (DqAll_cut q1 lo hi)))
theorem sv_join {xs : List Str} (ha : Rl tl G (xs.map PyData.str)) (hz : (xs.map (·.length)).sum + xs.length * z.length ≤ 16777216) : Sv (tM1 (rJoin K) (tC (.str z)) tl) G (isD (.str (Txt.join z xs))) := fun M0 σ B M H Q q =>
  ⟨⟨z, rfl⟩, ha M0 σ B M H _ fun a vs B1 e1 d1 hh q1 => ⟨z, a, xs, rfl, rfl, .inl (by rw [← DqAll_strs q1]; exact sq_of hh), hz, q _ B1 e1 d1 (.str _)⟩⟩
/-- a comprehension over a text -/
theorem svl_lcS (h : Sv tl G (isD (.str z))) (g : Nat → PyData) (hj : j < G.length) (hz : z.cps.toList.length < 10000000) (he : ∀ c, c ∈ z.cps.toList → Sv te (Gv G j (.str ⟨#[c]⟩)) (isD (g c))) : Svl (tLc (iStr tl) (gName j) tYes te [j]) G (z.cps.toList.map g) := fun M0 σ B M H Q q => h M0 σ B M H _ fun v B1 e1 d1 p1 => by
  refine ⟨z, dp_str p1, fun Dl hD => ?_⟩
  have hM := (jn_free hD).2
  refine lc_it (walk_str (z := z)) (Pvc B1 M Dl fun i => (z.cps.toList.take i).map g) ⟨B1, [], by rw [upd_own], Ex.refl B1, dj_own d1 (jn_free hD).1, .nil⟩ (fun _ _ _ _ => trivial) (fun i x H' H'' hi p hy => ?_) (fun H' p => ?_)
  · obtain ⟨rfl, c, hc, rfl⟩ := hy
    obtain ⟨B', acc, rfl, e, dj, ha⟩ := p
    have hc' : z.cps.toList[i]? = some c := by rw [Array.getElem?_toList]; exact hc
    have hi' := (List.getElem?_eq_some_iff.mp hc').1
    refine lc_turn (es := fun i => (z.cps.toList.take i).map g) (b := true) (d := .str ⟨#[c]⟩) (y := g c) (H.ext e1 d1) hj hM e dj ha ?_ (.str _) st_yes (fun _ => he c (List.mem_of_getElem? hc')) ?_
    · show ((z.cps.toList.take i).map g).length < _
      rw [List.length_map, List.length_take, sizeLine_eq]; omega
    · rw [if_pos rfl]
      show (z.cps.toList.take (i + 1)).map g = (z.cps.toList.take i).map g ++ [g c]
      rw [List.take_succ, hc', List.map_append]; rfl
  · rw [← Array.length_toList] at p
    have := lc_end (es := fun i => (z.cps.toList.take i).map g) (i := z.cps.toList.length) hM (Ex.refl _) (fun p vs B' e dj hf hv => q p vs B' (e1.trans e) dj hf (by rw [List.take_length] at hv; exact hv)) H' p
    exact this

/-! ### dicts of data -/
def keyD : Key → PyData
  | .inl i => .int i
  | .inr s => .str s
def isDf (ks : List Key) (f : Key → PyData) : Ty := ⟨fun v B => ∃ a us, v = .ref a ∧ B a = some (.dK us) ∧ us.map (·.1) = ks ∧ ∀ p ∈ us, Dq B p.2 (f p.1),
  fun e ⟨a, us, h1, h2, h3, h4⟩ => ⟨a, us, h1, e _ _ h2, h3, fun p hp => Dq_ex e _ _ (h4 p hp)⟩⟩
theorem putK_new {us : List (Key × V)} {k : Key} {v : V} (h : k ∉ us.map (·.1)) : putK us k v = us ++ [(k, v)] := by
  unfold putK
  rw [if_neg]
  intro z
  obtain ⟨p, hp, e⟩ := List.any_eq_true.mp z
  exact h (List.mem_map.mpr ⟨p, hp, of_decide_eq_true e⟩)
theorem dp_key {B : Hp} {k : Key} {v : V} (h : (isD (keyD k)).p v B) : v = kV k := by
  cases k with
  | inl i => exact dp_int h
  | inr s => exact dp_str h
theorem sv_dgetF {ks : List Key} {f : Key → PyData} {k : Key} (hd : Sv td G (isDf ks f)) (hk : Sv ty G (isD (keyD k))) (hm : k ∈ ks) : Sv (tDGet td ty) G (isD (f k)) := fun M0 σ B M H Q q => hd M0 σ B M H _ fun v B1 e1 d1 p1 => by
  obtain ⟨a, us, rfl, h1, h2, h3⟩ := p1
  refine hk M0 σ B1 M (H.ext e1 d1) _ fun y B2 e2 d2 p2 => ?_
  rw [dp_key p2]
  have hf : (us.find? fun kv => decide (kv.1 = k)).isSome = true := by
    rw [List.find?_isSome]
    obtain ⟨p, hp, e⟩ := List.mem_map.mp (h2 ▸ hm)
    exact ⟨p, hp, decide_eq_true e⟩
  obtain ⟨p, hp⟩ := Option.isSome_iff_exists.mp hf
  have e0 := List.find?_some hp
  have ek : p.1 = k := of_decide_eq_true e0
  refine ⟨a, p.2, rfl, .inl ⟨us, k, .inl (jn_B d2 (e2 _ _ h1)), rfl, ?_⟩, ?_⟩
  · unfold valV; rw [hp]; rfl
  · exact q _ B2 (e1.trans e2) d2 (ek ▸ Dq_ex e2 _ _ (h3 p (List.mem_of_find?_eq_some hp)))
/-- what the dict is after some turns -/
def Pvd (B M : Hp) (Dl : Addr) (ks : List Key) (f : Key → PyData) (H : Hp) : Prop := ∃ B' us, H = jn B' (upd M Dl (.dK us)) ∧ Ex B B' ∧ Dj B' (upd M Dl (.dK us)) ∧ us.map (·.1) = ks ∧ ∀ p ∈ us, Dq B' p.2 (f p.1)
theorem dc_put {B M B3 : Hp} {Dl : Addr} {us : List (Key × V)} {ks : List Key} {f : Key → PyData} {k : Key} {v : V} (e : Ex B B3) (d : Dj B3 (upd M Dl (.dK us))) (h : us.map (·.1) = ks) (hn : k ∉ ks) (hf : ∀ p ∈ us, Dq B3 p.2 (f p.1)) (hv : Dq B3 v (f k)) :
    Pvd B M Dl (ks ++ [k]) f (upd (jn B3 (upd M Dl (.dK us))) Dl (.dK (putK us k v))) := by
  refine ⟨B3, us ++ [(k, v)], ?_, e, ?_, ?_, ?_⟩
  · rw [upd_own, upd_upd, putK_new (by rw [h]; exact hn)]
  · intro a u q
    have := d a u q
    by_cases z : a = Dl
    · rw [z, upd_same] at this; cases this
    · rw [upd_ne z] at this ⊢; exact this
  · rw [List.map_append, h]; rfl
  · intro p hp
    rcases List.mem_append.mp hp with z | z
    · exact hf p z
    · rw [List.mem_singleton] at z; rw [z]; exact hv
theorem dc_end {M0 B M : Hp} {Dl : Addr} {ks : List Key} {f : Key → PyData} {H : Hp} {σ : L2.St} {D : Ends} (h : Holds M0 G σ B M) (hM : M Dl = none) (hn : n < G.length) (p : Pvd B M Dl ks f H) (q : ∀ B', Ex B B' → ∀ σ' M', Holds M0 (G.set n (.im (isDf ks f))) σ' B' M' → D.nx σ' (jn B' M')) : D.nx (σ.set n (some (.ref Dl))) H := by
  obtain ⟨B', us, rfl, e, dj, h1, h2⟩ := p
  have hB' : B' Dl = none := dj_free dj upd_same
  have djM : Dj B' M := fun a u q => by
    have := dj a u q
    by_cases z : a = Dl
    · rw [z]; exact hM
    · rw [upd_ne z] at this; exact this
  rw [jn_push hM]
  have hDn : jn B' M Dl = none := by rw [jn_N hM]; exact hB'
  have eN : Ex B' (upd B' Dl (.dK us)) := ex_new hDn
  have djN : Dj (upd B' Dl (.dK us)) M := dj_push dj hM
  exact q _ (e.trans eN) _ _ (((h.ext e djM).ext eN djN).setIm hn ⟨Dl, us, rfl, upd_same, h1, fun p hp => Dq_ex eN _ _ (h2 p hp)⟩)
/-- y = {k: v for k in ints} -/
theorem ss_setDcL {ns : List Int} {f : Key → PyData} (h : Rl tl G (ns.map PyData.int)) (hnd : ns.Nodup) (hn : n < G.length) (hj : j < G.length) (hz : ns.length < 1000000) (hv : ∀ k ∈ ns, Sv tv (Gv G j (.int k)) (isD (f (.inl k)))) :
    Ss E (tAsg (tDc (iList K tl) (gName j) tYes (tVar j) tv [j]) (gName n)) G (.nx (G.set n (.im (isDf (ns.map Sum.inl) f)))) := fun M0 D σ B M H q => h M0 σ B M H _ fun a vs B1 e1 d1 hh q1 => by
  have hvs := DqAll_ints q1
  subst hvs
  refine ⟨a, rfl, ⟨_, sq_of hh⟩, fun Dl hD => ?_⟩
  have hM := (jn_free hD).2
  refine ⟨fun i m H' => i ≤ ns.length ∧ m = ns.length - i ∧ Pvd B1 M Dl ((ns.take i).map Sum.inl) f H', ⟨ns.length, Nat.zero_le _, rfl, B1, [], by rw [upd_own], Ex.refl B1, dj_own d1 (jn_free hD).1, rfl, fun p hp => by cases hp⟩, fun i m H' hW => ?_⟩
  obtain ⟨hle, rfl, B', us, rfl, e, dj, h1, h2⟩ := hW
  have hB' : B' Dl = none := dj_free dj upd_same
  have djM : Dj B' M := fun a u q => by
    have := dj a u q
    by_cases z : a = Dl
    · rw [z]; exact hM
    · rw [upd_ne z] at this; exact this
  have hS : SqL K (jn B' (upd M Dl (.dK us))) a (ns.map V.int) := by
    refine sq_of ?_
    have hne : a ≠ Dl := fun z => by rw [z, hD] at hh; cases hh
    unfold jn at hh ⊢
    rw [upd_ne hne]
    cases z : M a with
    | some u => rw [z] at hh; exact hh
    | none => rw [z] at hh; exact e _ _ hh
  by_cases z : i < ns.length
  · have hg : (ns.map V.int)[i]? = some (V.int ns[i]) := by rw [List.getElem?_map, List.getElem?_eq_getElem z]; rfl
    refine .inr ⟨⟨_, V.int ns[i], hS, hg⟩, fun H' => Pvd B1 M Dl ((ns.take (i + 1)).map Sum.inl) f H', fun H' p => ⟨ns.length - (i + 1), by omega, by omega, rfl, p⟩, fun x H' hy => ?_⟩
    obtain ⟨rfl, hx⟩ := hy
    obtain rfl : x = V.int ns[i] := by have := hx _ hS; rw [hg] at this; exact (Option.some.inj this).symm
    refine ⟨wipe_one σ j _, ?_⟩
    have H2 : Holds M0 (Gv G j (.int ns[i])) ((L2.wipe σ [j]).set j (some (V.int ns[i]))) B' (upd M Dl (.dK us)) := by
      have h1 := ((((H.ext e1 d1).ext e djM).wipes [j]).more (p := Dl) (o := .dK us) (show jn B' M Dl = none by rw [jn_N hM]; exact hB'))
      exact h1.setIm (by show j < (G.set j .no).length; rw [List.length_set]; exact hj) (.int _)
    refine tyes_ite ?_
    have hjj : ((L2.wipe σ [j]).set j (some (V.int ns[i])))[j]? = some (some (V.int ns[i])) := List.getElem?_set_self (by show j < (σ.set j none).length; rw [List.length_set, H.len]; exact hj)
    refine ⟨_, hjj, ?_⟩
    refine hv _ (List.getElem_mem z) M0 _ _ _ H2 _ fun y B4 e4 d4 p4 => ?_
    refine ⟨us, Sum.inl ns[i], rfl, jn_M upd_same, ?_, ?_⟩
    · have : (us.map (·.1)).length = ((ns.take i).map (Sum.inl : Int → Key)).length := by rw [h1]
      rw [List.length_map, List.length_map, List.length_take] at this
      rw [sizeLine_eq]
      omega
    · have et : (ns.take (i + 1)).map (Sum.inl : Int → Key) = (ns.take i).map Sum.inl ++ [Sum.inl ns[i]] := by rw [List.take_succ, List.getElem?_eq_getElem z, List.map_append]; rfl
      rw [et]
      refine dc_put (e.trans e4) d4 h1 ?_ (fun p hp => Dq_ex e4 _ _ (h2 p hp)) p4
      intro hm
      obtain ⟨y, hy, e⟩ := List.mem_map.mp hm
      have e : y = ns[i] := Sum.inl.inj e
      obtain ⟨k, hk, ek⟩ := List.mem_iff_getElem.mp hy
      rw [List.length_take] at hk
      rw [List.getElem_take] at ek
      have := nd_get hnd (i := k) (j := i) (by omega) z (ek.trans e)
      omega
  · have ei : i = ns.length := by omega
    subst ei
    refine .inl ⟨⟨_, hS, by rw [List.length_map]; exact Nat.le_refl _⟩, ?_⟩
    rw [List.take_length] at h1
    exact dc_end (H.ext e1 d1) hM hn ⟨B', us, rfl, e, dj, h1, h2⟩ fun B'' e'' σ' M' H' => q σ' B'' M' (e1.trans e'') H'
end
end Mini

namespace Mini
open PySem L2 Evl PyProof.Rows

def signK (c : Nat) : Key := Sum.inr ⟨#[c]⟩
theorem signK_inj {a b : Nat} (h : signK a = signK b) : a = b := by
  have := Sum.inr.inj h
  injection this with h
  injection h with h
  injection h
section
variable {K : PySem.W.Frag} {E : L2.St → XK} {G : Gm} {ta tb tl te td ty tk tv : TE} {j l n : Nat} {ds : List PyData} {z w : Str} {i : Int}
/-- y = {sign: number for number, sign in enumerate(text)} -/
theorem ss_setDcS {f : Key → PyData} (h : Sv tl G (isD (.str z))) (hnd : z.cps.toList.Nodup) (hn : n < G.length) (hj : j < G.length) (hl : l < G.length) (hjl : j ≠ l) (hz : z.cps.toList.length < 1000000) (hv : ∀ (i : Nat) c, z.cps.toList[i]? = some c → f (signK c) = .int (i : Int)) :
    Ss E (tAsg (tDc (iEnumS (tCons tl tNil)) (gTup K 2 (gCons (gName j) (gCons (gName l) gNil))) tYes (tVar l) (tVar j) [j, l]) (gName n)) G (.nx (G.set n (.im (isDf (z.cps.toList.map signK) f)))) := fun M0 D σ B M H q => h M0 σ B M H _ fun v B1 e1 d1 p1 => by
  refine ⟨z, by rw [dp_str p1], fun Dl hD => ?_⟩
  have hM := (jn_free hD).2
  have hsz : z.cps.size = z.cps.toList.length := (Array.length_toList).symm
  refine ⟨fun i m H' => i ≤ z.cps.toList.length ∧ m = z.cps.toList.length - i ∧ Pvd B1 M Dl ((z.cps.toList.take i).map signK) f H', ⟨z.cps.toList.length, Nat.zero_le _, rfl, B1, [], by rw [upd_own], Ex.refl B1, dj_own d1 (jn_free hD).1, rfl, fun p hp => by cases hp⟩, fun i m H' hW => ?_⟩
  obtain ⟨hle, rfl, B', us, rfl, e, dj, h1, h2⟩ := hW
  have hB' : B' Dl = none := dj_free dj upd_same
  have djM : Dj B' M := fun a u q => by
    have := dj a u q
    by_cases z : a = Dl
    · rw [z]; exact hM
    · rw [upd_ne z] at this; exact this
  by_cases hi : i < z.cps.toList.length
  · refine .inr ⟨by show i < z.cps.size; omega, fun H' => Pvd B1 M Dl ((z.cps.toList.take (i + 1)).map signK) f H', fun H' p => ⟨z.cps.toList.length - (i + 1), by omega, by omega, rfl, p⟩, fun x H' hy => ?_⟩
    obtain ⟨t, c, rfl, ht, rfl, hx⟩ := hy
    have hc : z.cps.toList[i]? = some c := by rw [Array.getElem?_toList]; exact hx
    rw [upd_new ht]
    refine ⟨t, _, rfl, st_of (jn_B (dj_new dj ht) upd_same), rfl, _, _, rfl, _, _, rfl, rfl, ?_⟩
    refine ⟨wipe_two2 σ hjl _ _, ?_⟩
    have et : Ex B' (upd B' t (.tup [V.int i, .str ⟨#[c]⟩])) := ex_new ht
    have djt : Dj (upd B' t (.tup [V.int i, .str ⟨#[c]⟩])) (upd M Dl (.dK us)) := dj_new dj ht
    refine tyes_ite ?_
    have hlen : ∀ τ : L2.St, τ.length = σ.length → ∀ u v : V, ((τ.set j (some u)).set l (some v))[j]? = some (some u) := fun τ ht u v => by
      rw [List.getElem?_set_ne (Ne.symm hjl)]
      exact List.getElem?_set_self (by rw [ht, H.len]; exact hj)
    have hw : (L2.wipe σ [j, l]).length = σ.length := by show ((σ.set l none).set j none).length = _; rw [List.length_set, List.length_set]
    have hjj := hlen _ hw (V.int i) (.str ⟨#[c]⟩)
    have hll : (((L2.wipe σ [j, l]).set j (some (V.int i))).set l (some (.str ⟨#[c]⟩)))[l]? = some (some (.str ⟨#[c]⟩)) := List.getElem?_set_self (by rw [List.length_set, hw, H.len]; exact hl)
    refine ⟨_, hll, _, hjj, us, signK c, rfl, jn_M upd_same, ?_, ?_⟩
    · have : (us.map (·.1)).length = ((z.cps.toList.take i).map signK).length := by rw [h1]
      rw [List.length_map, List.length_map, List.length_take] at this
      rw [sizeLine_eq]
      omega
    · have et2 : (z.cps.toList.take (i + 1)).map signK = (z.cps.toList.take i).map signK ++ [signK c] := by rw [List.take_succ, hc, List.map_append]; rfl
      show Pvd B1 M Dl ((z.cps.toList.take (i + 1)).map signK) f _
      rw [et2]
      refine dc_put (e.trans et) djt h1 ?_ (fun p hp => Dq_ex et _ _ (h2 p hp)) (by rw [hv i c hc]; exact .int _)
      intro hm
      obtain ⟨y, hy, e⟩ := List.mem_map.mp hm
      have e : y = c := signK_inj e
      obtain ⟨k, hk, ek⟩ := List.mem_iff_getElem.mp hy
      rw [List.length_take] at hk
      rw [List.getElem_take] at ek
      have hci : z.cps.toList[i] = c := by rw [List.getElem?_eq_getElem hi] at hc; exact Option.some.inj hc
      have := (List.getElem_inj (h₀ := by omega) (h₁ := hi) hnd).mp (ek.trans (e.trans hci.symm))
      omega
  · have ei : i = z.cps.toList.length := by omega
    subst ei
    refine .inl ⟨by show z.cps.size ≤ _; omega, ?_⟩
    rw [List.take_length] at h1
    exact dc_end (H.ext e1 d1) hM hn ⟨B', us, rfl, e, dj, h1, h2⟩ fun B'' e'' σ' M' H' => q σ' B'' M' (e1.trans e'') H'
end

/-! ### sorted(set(tuple of ints)) -/
theorem sorted_uniq : ∀ {a b : List Int}, a.Pairwise (· < ·) → b.Pairwise (· < ·) → (∀ k, k ∈ a ↔ k ∈ b) → a = b
  | [], [], _, _, _ => rfl
  | [], y :: b, _, _, h => absurd ((h y).mpr (List.mem_cons_self ..)) (List.not_mem_nil)
  | x :: a, [], _, _, h => absurd ((h x).mp (List.mem_cons_self ..)) (List.not_mem_nil)
  | x :: a, y :: b, ha, hb, h => by
    have ha' := List.pairwise_cons.mp ha
    have hb' := List.pairwise_cons.mp hb
    have e : x = y := by
      rcases List.mem_cons.mp ((h x).mp (List.mem_cons_self ..)) with z | z
      · exact z
      · rcases List.mem_cons.mp ((h y).mpr (List.mem_cons_self ..)) with w | w
        · exact w.symm
        · have := hb'.1 x z
          have := ha'.1 y w
          omega
    subst e
    have : a = b := sorted_uniq ha'.2 hb'.2 fun k => by
      constructor
      · intro hk
        have := ha'.1 k hk
        rcases List.mem_cons.mp ((h k).mp (List.mem_cons_of_mem _ hk)) with z | z
        · omega
        · exact z
      · intro hk
        have := hb'.1 k hk
        rcases List.mem_cons.mp ((h k).mpr (List.mem_cons_of_mem _ hk)) with z | z
        · omega
        · exact z
    rw [this]
def insI (x : Int) : List Int → List Int
  | [] => [x]
  | y :: r => if x < y then x :: y :: r else if x = y then y :: r else y :: insI x r
theorem insI_mem {x k : Int} : ∀ {l : List Int}, k ∈ insI x l ↔ k = x ∨ k ∈ l
  | [] => by simp [insI]
  | y :: r => by
    unfold insI
    by_cases c : x < y
    · rw [if_pos c]; simp
    · rw [if_neg c]
      by_cases d : x = y
      · rw [if_pos d, List.mem_cons, d]
        constructor
        · rintro (z | z)
          · exact .inl z
          · exact .inr (.inr z)
        · rintro (z | z | z)
          · exact .inl z
          · exact .inl z
          · exact .inr z
      · rw [if_neg d, List.mem_cons, insI_mem (l := r), List.mem_cons]
        constructor
        · rintro (z | z | z)
          · exact .inr (.inl z)
          · exact .inl z
          · exact .inr (.inr z)
        · rintro (z | z | z)
          · exact .inr (.inl z)
          · exact .inl z
          · exact .inr (.inr z)
theorem insI_sorted {x : Int} : ∀ {l : List Int}, l.Pairwise (· < ·) → (insI x l).Pairwise (· < ·)
  | [], _ => List.pairwise_singleton _ _
  | y :: r, h => by
    have h' := List.pairwise_cons.mp h
    unfold insI
    by_cases c : x < y
    · rw [if_pos c]
      refine List.pairwise_cons.mpr ⟨fun k hk => ?_, h⟩
      rcases List.mem_cons.mp hk with z | z
      · omega
      · have := h'.1 k z; omega
    · rw [if_neg c]
      by_cases d : x = y
      · rw [if_pos d]; exact h
      · rw [if_neg d]
        refine List.pairwise_cons.mpr ⟨fun k hk => ?_, insI_sorted h'.2⟩
        rcases insI_mem.mp hk with z | z
        · omega
        · exact h'.1 k z
def srt (ns : List Int) : List Int := ns.foldr insI []
theorem srt_mem {ns : List Int} {k : Int} : k ∈ srt ns ↔ k ∈ ns := by
  unfold srt
  induction ns with
  | nil => rfl
  | cons x ns ih => rw [List.foldr_cons, insI_mem, ih, List.mem_cons]
theorem srt_sorted : ∀ (ns : List Int), (srt ns).Pairwise (· < ·)
  | [] => .nil
  | x :: ns => insI_sorted (srt_sorted ns)
theorem srt_nodup (ns : List Int) : (srt ns).Nodup := (srt_sorted ns).imp fun h => by omega
theorem insI_len {x : Int} : ∀ {l : List Int}, (insI x l).length ≤ l.length + 1
  | [] => Nat.le_refl _
  | y :: r => by
    unfold insI
    split
    · exact Nat.le_refl _
    · split
      · exact Nat.le_succ _
      · have := insI_len (x := x) (l := r)
        rw [List.length_cons, List.length_cons]; omega
theorem srt_len : ∀ (ns : List Int), (srt ns).length ≤ ns.length
  | [] => Nat.le_refl _
  | x :: ns => by
    have := srt_len ns
    have := insI_len (x := x) (l := srt ns)
    show (insI x (srt ns)).length ≤ _
    rw [List.length_cons]; omega
/-- set(t), t a tuple of ints -/
def tSetT (w : World) (K : PySem.W.Frag) (ta : TE) : TE := fun σ H Q => ta σ H fun x H1 => ∃ (l : Addr) (ns : List Int), x = .ref l ∧ SqT K H1 l (ns.map V.int) ∧ ns.length ≤ 1000 ∧
  ∀ p c, H1 p = none → c ≤ ns.length → Q (.ref p) (upd H1 p (SetO w p (fun j => decide (j ∈ ns)) c))
theorem pe_setT {X : Cx} {a : Expr} {ta : TE} {p pos : Pos} (hc : X.calm = true) (hg : Gl X "set") (hm : X.mg "set" = none) (ha : PE X a ta) (hst : starEach [a] X.env = (false, eval a X.env) :: starEach [] X.env := by rfl) :
    PE X (.Call (.Name "set" p) [a] [] pos) (tSetT X.w X.K ta) := by
  refine ⟨fun pins s σ H Q I h => ?_⟩
  refine Call_ (ld_blt I hg hm boot_set (callWith_type1 (args_cons (thn (ha.run pins s σ H _ I h) fun v s1 hh => args_nil ?_) hst) hst))
  obtain ⟨x, H1, I1, r1, l, ns, rfl, hq, hl, q1⟩ := hh
  obtain rfl : v = Value.ref l := r1
  obtain ⟨its, rv, pt, hz⟩ := I1.tuple hq
  have hi : IntsAre its.toArray.toList ns := ints_of_vals rv
  have hd := I1.ok.hd hc
  refine call_set_tupI ns hd (show s1.heap.IsTuple l its.toArray from pt) hi (by unfold scanBound; omega) fun h' tk c R1 hcn k => ?_
  have hn : H1 s1.heap.objs.size = none := I1.hok.fresh (Nat.le_refl _)
  exact ⟨.ref s1.heap.objs.size, _, I1.laid (t' := tk) (h' := h') k (Nat.le_refl _) (setO_new (P := X.prog) (H := upd H1 s1.heap.objs.size (SetO X.w s1.heap.objs.size (fun j => decide (j ∈ ns)) c)) R1), rfl, q1 _ c hn hcn⟩
theorem svl_sortSet {w : World} {K : PySem.W.Frag} {G : Gm} {ta : TE} {ns : List Int} (ha : Sv ta G (isD (.tuple (ns.map .int)))) (hz : ns.length < 64) :
    Svl (tCB (rSortedSet w) (tCons (tSetT w K ta) tNil)) G ((srt ns).map PyData.int) := fun M0 σ B M H Q q => ha M0 σ B M H _ fun x B1 e1 d1 p1 => by
  obtain ⟨l, vs, rfl, hh, q1⟩ := dq_tup p1
  have hvs := DqAll_ints q1
  subst hvs
  refine ⟨l, ns, rfl, st_of (jn_B d1 hh), by omega, fun p c hp hc => ?_⟩
  refine ⟨p, _, c, rfl, by rw [upd_same], by omega, fun out p2 h1 h2 h3 hp2 => ?_⟩
  have eo : out = srt ns := sorted_uniq h1 (srt_sorted ns) fun k => by rw [h2 k, srt_mem]; exact decide_eq_true_iff
  subst eo
  rw [upd_new hp] at hp2 ⊢
  exact q p2 _ _ (e1.trans (ex_new hp)) (dj_new d1 hp) hp2 (DqAll_ofInts _)
end Mini

namespace Mini
open PySem L2 Evl PyProof.Rows

/-! ### a pair of data, some of it the module's, unpacked -/
section
variable {K : PySem.W.Frag} {E : L2.St → XK} {G : Gm} {te ta tb : TE} {i j : Nat} {d1 d2 : PyData}
theorem ss_unpP2 (h : Sv te G (isP K (.tuple [d1, d2]))) (hi : i < G.length := by exact Nat.le_of_ble_eq_true rfl) (hj : j < G.length := by exact Nat.le_of_ble_eq_true rfl) :
    Ss E (tAsg te (gTup K 2 (gCons (gName i) (gCons (gName j) gNil)))) G (.nx ((G.set i (.im (isP K d1))).set j (.im (isP K d2)))) := fun M0 D σ B M H q => by
  refine h M0 σ B M H _ fun v B' e dj p => ?_
  cases (show DqK K B' v (.tuple [d1, d2]) from p) with
  | tup hs hh =>
    cases hh with
    | cons p1 h2 => cases h2 with
      | cons p2 h2 =>
        cases h2
        refine ⟨_, _, rfl, jn_st dj hs, rfl, _, _, rfl, _, _, rfl, rfl, ?_⟩
        exact q _ B' M e (((H.ext e dj).setIm (P := isP K d1) hi p1).setIm (P := isP K d2) (by rw [List.length_set]; exact hj) p2)
end

/-! ### words as texts of signs -/
def signs : Str := "0123456789ABCDEFGHIJKLMNOPQRSTUVWXYZabcdefghijklmnopqrstuvwx"
def SLc : List Nat := [48, 49, 50, 51, 52, 53, 54, 55, 56, 57] ++ (List.range 26).map (· + 65) ++ (List.range 24).map (· + 97)
theorem SL_eq : signs.cps.toList = SLc := by decide +kernel
theorem SL_len : SLc.length = 60 := by decide +kernel
theorem SL_nd : SLc.Nodup := by decide +kernel
def sgC (i : Int) : Nat := SLc.getD i.toNat 0
def sg (w : List Int) : Str := ⟨(w.map sgC).toArray⟩
def InR (w : List Int) : Prop := ∀ v ∈ w, 0 ≤ v ∧ v < 60
theorem sg_list (w : List Int) : (sg w).cps.toList = w.map sgC := rfl
theorem sg_len (w : List Int) : (sg w).length = w.length := by
  show ((w.map sgC).toArray).size = _
  rw [List.size_toArray, List.length_map]
theorem sgC_lt (i : Int) : sgC i < 200 := by
  unfold sgC
  have h : ∀ c ∈ SLc, c < 200 := by decide +kernel
  rw [List.getD_eq_getElem?_getD]
  cases e : SLc[i.toNat]? with
  | none => show 0 < 200; decide
  | some c => exact h c (List.mem_of_getElem? e)
theorem sg_ok (w : List Int) : PyData.strOk (sg w) = true := by
  show ((w.map sgC).toArray).all (· < 0x110000) = true
  rw [List.all_toArray, List.all_map, List.all_eq_true]
  intro i _
  have := sgC_lt i
  exact decide_eq_true (by omega)
theorem sg_append (a b : List Int) : sg a ++ sg b = sg (a ++ b) := by
  apply TL.ext_tl
  rw [TL.tl_append]
  show a.map sgC ++ b.map sgC = (a ++ b).map sgC
  rw [List.map_append]
theorem sgC_at {i : Int} (h0 : 0 ≤ i) (h1 : i < 60) : SLc[i.toNat]? = some (sgC i) := by
  have h : i.toNat < SLc.length := by rw [SL_len]; omega
  unfold sgC
  rw [List.getD_eq_getElem?_getD, List.getElem?_eq_getElem h]; rfl
theorem idx_sgC {i : Int} (h0 : 0 ≤ i) (h1 : i < 60) : (SLc.idxOf (sgC i) : Int) = i := by
  have h : ∀ k : Fin 60, SLc.idxOf (SLc.getD k.val 0) = k.val := by decide +kernel
  have := h ⟨i.toNat, by omega⟩
  show ((SLc.idxOf (SLc.getD i.toNat 0) : Nat) : Int) = i
  have e : SLc.idxOf (SLc.getD i.toNat 0) = i.toNat := this
  rw [e]; omega
theorem sg_inj {a b : List Int} (ha : InR a) (hb : InR b) (h : sg a = sg b) : a = b := by
  have h : a.map sgC = b.map sgC := by
    have := congrArg TL.tl h
    exact this
  have back : ∀ {w : List Int}, InR w → (w.map sgC).map (fun c => ((SLc.idxOf c : Nat) : Int)) = w := fun {w} hw => by
    rw [List.map_map]
    conv => rhs; rw [← List.map_id w]
    exact List.map_congr_left fun v hv => idx_sgC (hw v hv).1 (hw v hv).2
  rw [← back ha, ← back hb, h]
theorem sg_eq_iff {a b : List Int} (ha : InR a) (hb : InR b) : (sg a == sg b) = decide (a = b) := by
  by_cases e : a = b
  · rw [e, decide_eq_true rfl]; exact beq_self_eq_true _
  · rw [decide_eq_false e]
    exact beq_false_of_ne fun h => e (sg_inj ha hb h)
theorem cutS_take (w : List Int) {k : Nat} : cutS (sg w) none (some (k : Int)) = sg (w.take k) := by
  unfold cutS
  rw [sg_list, sg_len]
  show (⟨((w.map sgC).drop 0 |>.take (HT.sIx w.length w.length (some (k : Int)) - 0)).toArray⟩ : Str) = ⟨((w.take k).map sgC).toArray⟩
  congr 2
  have e := cut_take (ds := w.map sgC) (i := (k : Int)) (by omega)
  unfold cutD at e
  rw [List.length_map] at e
  rw [List.map_take]
  rw [Int.toNat_natCast] at e
  exact e
theorem cutS_drop (w : List Int) {k : Nat} : cutS (sg w) (some (k : Int)) none = sg (w.drop k) := by
  unfold cutS
  rw [sg_list, sg_len]
  congr 2
  have e := cut_drop (ds := w.map sgC) (i := (k : Int)) (by omega)
  unfold cutD at e
  rw [List.length_map] at e
  rw [List.map_drop]
  rw [Int.toNat_natCast] at e
  exact e
theorem join_sg (w : List Int) : Txt.join "" (w.map fun i => (⟨#[sgC i]⟩ : Str)) = sg w := by
  rw [TL.join_eq]
  apply TL.ext_tl
  rw [TL.tl_join, List.map_map]
  show TL.joinL (TL.tl "") (w.map fun i => [sgC i]) = w.map sgC
  have e0 : TL.tl "" = [] := by decide +kernel
  rw [e0]
  induction w with
  | nil => rfl
  | cons i w ih =>
    cases w with
    | nil => rfl
    | cons k w =>
      show [sgC i] ++ ([] ++ TL.joinL [] ((k :: w).map fun i => [sgC i])) = _
      rw [ih]; rfl
/-- a word, plain or as a text of signs -/
def SqD (b : Bool) (w : List Int) : PyData := if b then .str (sg w) else .tuple (w.map .int)
def pairQ (b : Bool) (x y : List Int) : PyData := .tuple [SqD b x, SqD b y]
def stT (K : PySem.W.Frag) (b : Bool) (x y : List Int) : Ty := if b then isP K (pairQ true x y) else isD (pairQ false x y)
section
variable {K : PySem.W.Frag} {G : Gm} {ta tb : TE} {b : Bool} {v w : List Int}
theorem sv_lenQ (ha : Sv ta G (isP K (SqD b w))) (hz : w.length ≤ sizeLine) : Sv (tCB (fun xs H Q => ∃ x n, xs = [x] ∧ LenV K x H n ∧ Q (.int n) H) (tCons ta tNil)) G (isD (.int ((w.length : Nat) : Int))) := by
  cases b with
  | true => exact sv_is (sv_lenS (sv_pA (show AtomP (.str (sg w)) from sg_ok w) ha) (by rw [sg_len]; exact hz)) (by rw [sg_len])
  | false => exact sv_is (sv_lenP (ds := w.map .int) ha) (by rw [List.length_map])
theorem sv_catQ (ha : Sv ta G (isD (SqD b v))) (hb : Sv tb G (isD (SqD b w))) (hz : v.length + w.length ≤ sizeLine) : Sv (tOp (uAdd K) ta tb) G (isD (SqD b (v ++ w))) := by
  cases b with
  | true => exact sv_is (sv_catS (z := sg v) (w := sg w) ha hb (by rw [sg_len, sg_len]; exact hz)) (by rw [sg_append]; rfl)
  | false => exact sv_is (sv_catT (ds := v.map .int) (es := w.map .int) ha hb (by rw [List.length_map, List.length_map]; exact hz)) (by rw [← List.map_append]; rfl)
theorem sv_takeQ {k : Nat} (ha : Sv ta G (isD (SqD b w))) (hk : Sv tb G (isD (.int (k : Int)))) (hz : w.length ≤ sizeLine) : Sv (tSl (uSlS K) ta tNoPart (tPart tb)) G (isD (SqD b (w.take k))) := by
  cases b with
  | true => exact sv_is (sv_sliceX (z := sg w) ha so_none (so_some hk) (by rw [sg_len]; exact hz)) (by rw [cutS_take]; rfl)
  | false => exact sv_is (sv_sliceTX (ds := w.map .int) ha so_none (so_some hk)) (by rw [cut_take _ (by omega), Int.toNat_natCast, ← List.map_take]; rfl)
theorem sv_dropQ {k : Nat} (ha : Sv ta G (isD (SqD b w))) (hk : Sv tb G (isD (.int (k : Int)))) (hz : w.length ≤ sizeLine) : Sv (tSl (uSlS K) ta (tPart tb) tNoPart) G (isD (SqD b (w.drop k))) := by
  cases b with
  | true => exact sv_is (sv_sliceX (z := sg w) ha (so_some hk) so_none (by rw [sg_len]; exact hz)) (by rw [cutS_drop]; rfl)
  | false => exact sv_is (sv_sliceTX (ds := w.map .int) ha (so_some hk) so_none) (by rw [cut_drop _ (by omega), Int.toNat_natCast, ← List.map_drop]; rfl)
theorem sv_st0 {m : Nat} {x y : List Int} (h : G[m]? = some (.im (stT K b x y))) : Sv (tOp (rIx K) (tVar m) (tC (.int 0))) G (isD (SqD b x)) := by
  cases b with
  | true => exact sv_pA (show AtomP (.str (sg x)) from sg_ok x) (sv_ixP (ds := [SqD true x, SqD true y]) (i := ((0 : Nat) : Int)) (sv_var h) sv_int (atI_nat rfl))
  | false => exact sv_ixT (ds := [SqD false x, SqD false y]) (i := ((0 : Nat) : Int)) (sv_var h) sv_int (atI_nat rfl)
theorem sv_st1 {m : Nat} {x y : List Int} (h : G[m]? = some (.im (stT K b x y))) : Sv (tOp (rIx K) (tVar m) (tC (.int 1))) G (isD (SqD b y)) := by
  cases b with
  | true => exact sv_pA (show AtomP (.str (sg y)) from sg_ok y) (sv_ixP (ds := [SqD true x, SqD true y]) (i := ((1 : Nat) : Int)) (sv_var h) sv_int (atI_nat rfl))
  | false => exact sv_ixT (ds := [SqD false x, SqD false y]) (i := ((1 : Nat) : Int)) (sv_var h) sv_int (atI_nat rfl)
end
end Mini

namespace Mini
open PySem L2 Evl PyProof.Rows
/-- a call without arguments -/
theorem pe_fn0 {X : Cx} {k : Nat} {x : Str} {sp : Sp} {E : L2.St → XK} {p pos : Pos} (c : FnC X.prog X.w X.K X.mg X.base k x sp) {j : Nat} (hr : Room j X.A) (hx : ∀ σ, PassesAt (L2.CX X.prog X.w) X σ (E σ)) (hk : k ≤ j := by decide) (hg : Gl X x := by rfl)
    (hdb : (x == ("__debug__" : Str)) = false := by decide) : PE X (.Call (.Name x p) [] [] pos) (tCallS sp E tNil) := by
  obtain ⟨f, fd, ps, F, hm, kp, hb⟩ := c.ex
  refine ⟨fun pins s σ H Q I h => ?_⟩
  refine wpAny_Call_Name_kw (ld_glob I hg hm ?_ hdb)
  exact PySem.W.callWith_K0 I.kIn kp (run_fnS (us := []) F (hr.mono hk) hb (hx σ) I .nil h)
end Mini

namespace Mini
open PySem L2 Evl PyProof.Rows
/-! ### len of a dict -/
def rLenDk : List V → Hp → VK → Prop := fun xs H Q => ∃ a kvs, xs = [V.ref a] ∧ H a = some (.dK kvs) ∧ Q (.int kvs.length) H
theorem sv_lenDi {G : Gm} {ta : TE} {kvs : List (Int × Int)} (h : Sv ta G (isDi kvs)) : Sv (tCB rLenDk (tCons ta tNil)) G (isD (.int ((kvs.length : Nat) : Int))) := fun M0 σ B M H Q q => h M0 σ B M H _ fun v B1 e1 d1 p1 => by
  obtain ⟨a, rfl, h1⟩ := p1
  refine ⟨a, dkV kvs, rfl, jn_B d1 h1, ?_⟩
  have e : (dkV kvs).length = kvs.length := by unfold dkV; rw [List.length_map]
  rw [e]
  exact q _ B1 e1 d1 (.int _)
theorem sv_lenDf {G : Gm} {ta : TE} {ks : List Key} {f : Key → PyData} (h : Sv ta G (isDf ks f)) : Sv (tCB rLenDk (tCons ta tNil)) G (isD (.int ((ks.length : Nat) : Int))) := fun M0 σ B M H Q q => h M0 σ B M H _ fun v B1 e1 d1 p1 => by
  obtain ⟨a, us, rfl, h1, h2, h3⟩ := p1
  refine ⟨a, us, rfl, jn_B d1 h1, ?_⟩
  have e : us.length = ks.length := by rw [← h2, List.length_map]
  rw [e]
  exact q _ B1 e1 d1 (.int _)
end Mini

namespace Mini
open PySem L2 Evl PyProof.Rows

/-! ### ghosts: objects that a def may change, though no slot owns them -/
abbrev Gx := List (Addr × Ow)
/-- the ghosts are there, and no caller's -/
structure XOk (X : Gx) (M0 B M : Hp) : Prop where
  nd : (X.map (·.1)).Nodup
  m0 : ∀ x ∈ X, M0 x.1 = none
  ob : ∀ x ∈ X, ∃ o, M x.1 = some o ∧ x.2.r x.1 o B
/-- .. and no slot owns them -/
structure GOk (X : Gx) (M0 : Hp) (G : Gm) (σ : L2.St) (B M : Hp) : Prop extends XOk X M0 B M where
  ns : ∀ x ∈ X, ∀ (i : Nat) (R : Ow), G[i]? = some (Sl.ow R) → σ[i]? ≠ some (some (V.ref x.1))
inductive Og where
  | nx (G : Gm) (X : Gx)
  | rt (P : Ty) (X : Gx)
  | bad (C : Addr) (X : Gx)
def anyO : Ow := ⟨fun _ _ _ => True, fun _ _ => trivial⟩
def Og.ok (o : Og) (E : XK) (D : Ends) (M0 B : Hp) : Prop := match o with
  | .nx G X => ∀ σ' B' M', Ex B B' → Holds M0 G σ' B' M' → GOk X M0 G σ' B' M' → D.nx σ' (jn B' M')
  | .rt P X => ∀ v B' M', Ex B B' → Dj B' M' → Ex M0 M' → P.p v B' → XOk X M0 B' M' → D.rt v (jn B' M')
  | .bad C X => ∀ B' M', Ex B B' → Dj B' M' → Ex M0 M' → XOk X M0 B' M' → E (.ref C) none (jn B' M')
theorem Og.ok.ext {o : Og} {E : XK} {D : Ends} {M0 B B1 : Hp} (h : o.ok E D M0 B) (e : Ex B B1) : o.ok E D M0 B1 := by
  cases o with
  | nx G X => exact fun σ' B' M' e' => h σ' B' M' (e.trans e')
  | rt P X => exact fun v B' M' e' => h v B' M' (e.trans e')
  | bad C X => exact fun B' M' e' => h B' M' (e.trans e')
def Sg (E : XK) (ts : TS) (G : Gm) (X : Gx) (o : Og) : Prop := ∀ (M0 : Hp) (D : Ends) (σ : L2.St) (B M : Hp), Holds M0 G σ B M → GOk X M0 G σ B M → o.ok E D M0 B → ts D σ (jn B M)
/-- the caller's heap, with the ghosts -/
def fr (X : Gx) (M0 M : Hp) : Hp := fun a => if a ∈ X.map (·.1) then M a else M0 a
theorem fr_in {X : Gx} {M0 M : Hp} {a : Addr} (h : a ∈ X.map (·.1)) : fr X M0 M a = M a := if_pos h
theorem fr_out {X : Gx} {M0 M : Hp} {a : Addr} (h : a ∉ X.map (·.1)) : fr X M0 M a = M0 a := if_neg h
theorem fr_ex {X : Gx} {M0 M : Hp} (h : Ex M0 M) : Ex (fr X M0 M) M := fun a o e => by
  by_cases z : a ∈ X.map (·.1)
  · rwa [fr_in z] at e
  · rw [fr_out z] at e; exact h a o e
def noBw (G : Gm) : Prop := ∀ (i : Nat) R, G[i]? ≠ some (.bw R)
def noBwB : Gm → Bool
  | [] => true
  | .bw _ :: _ => false
  | _ :: G => noBwB G
theorem noBw_of : ∀ {G : Gm}, noBwB G = true → noBw G
  | [], _, i, R, h => by simp at h
  | .bw _ :: _, h, _, _, _ => by cases h
  | .no :: G, h, i, R, e => by cases i with
    | zero => simp at e
    | succ i => exact noBw_of (G := G) h i R (by simpa using e)
  | .im _ :: G, h, i, R, e => by cases i with
    | zero => simp at e
    | succ i => exact noBw_of (G := G) h i R (by simpa using e)
  | .ow _ :: G, h, i, R, e => by cases i with
    | zero => simp at e
    | succ i => exact noBw_of (G := G) h i R (by simpa using e)
section
variable {E : XK} {X X1 X2 Y : Gx} {M0 B M B' M' : Hp} {G G1 G' : Gm} {σ σ' : L2.St} {ts tu : TS} {te ta : TE} {tt : TT} {o : Og} {P : Ty} {R : Ow} {C : Addr} {b : Bool} {n : Nat}
theorem GOk.fr (g : GOk X M0 G σ B M) (H : Holds M0 G σ B M) : Holds (fr X M0 M) G σ B M where
  len := H.len
  dj := H.dj
  cal := fr_ex H.cal
  im := H.im
  ow := fun i R q => by
    obtain ⟨l, o, a, b, c, d⟩ := H.ow i R q
    refine ⟨l, o, a, b, c, ?_⟩
    have z : l ∉ X.map (·.1) := fun z => by
      obtain ⟨x, hx, e⟩ := List.mem_map.mp z
      exact g.ns x hx i R q (by rw [e]; exact a)
    rw [fr_out z]; exact d
  bw := fun i R q => by
    obtain ⟨l, o, a, b, c⟩ := H.bw i R q
    refine ⟨l, o, a, ?_, c⟩
    have z : l ∉ X.map (·.1) := fun z => by
      obtain ⟨x, hx, e⟩ := List.mem_map.mp z
      have := g.m0 x hx
      rw [e, b] at this; cases this
    rw [fr_out z]; exact b
  ne := H.ne
theorem XOk.back (g : XOk X M0 B M) (e : Ex B B') (c : Ex (Mini.fr X M0 M) M') : XOk X M0 B' M' where
  nd := g.nd
  m0 := g.m0
  ob := fun x hx => by
    obtain ⟨o, h1, h2⟩ := g.ob x hx
    exact ⟨o, c _ _ (by rw [fr_in (List.mem_map.mpr ⟨x, hx, rfl⟩)]; exact h1), x.2.mono e h2⟩
theorem XOk.cal (g : XOk X M0 B M) (c : Ex (Mini.fr X M0 M) M') : Ex M0 M' := fun a o h => by
  have z : a ∉ X.map (·.1) := fun z => by
    obtain ⟨x, hx, e⟩ := List.mem_map.mp z
    have := g.m0 x hx
    rw [e, h] at this; cases this
  exact c a o (by rw [fr_out z]; exact h)
theorem XOk.unfr (g : XOk X M0 B M) (e : Ex B B') (H : Holds (Mini.fr X M0 M) G' σ' B' M') (nb : noBw G') : Holds M0 G' σ' B' M' ∧ GOk X M0 G' σ' B' M' := by
  have hx : ∀ (i : Nat) R, G'[i]? = some (.ow R) → ∃ l o, σ'[i]? = some (some (.ref l)) ∧ M' l = some o ∧ R.r l o B' ∧ M0 l = none ∧ l ∉ X.map (·.1) := fun i R q => by
    obtain ⟨l, o, a, b, c, d⟩ := H.ow i R q
    have z : l ∉ X.map (·.1) := fun z => by
      rw [fr_in z] at d
      obtain ⟨x, hx, e⟩ := List.mem_map.mp z
      obtain ⟨o, h, _⟩ := g.ob x hx
      rw [e, d] at h; cases h
    rw [fr_out z] at d
    exact ⟨l, o, a, b, c, d, z⟩
  refine ⟨⟨H.len, H.dj, g.cal H.cal, H.im, fun i R q => ?_, fun i R q => absurd q (nb i R), H.ne⟩, { toXOk := g.back e H.cal, ns := fun x hx' i R q s => ?_ }⟩
  · obtain ⟨l, o, a, b, c, d, _⟩ := hx i R q
    exact ⟨l, o, a, b, c, d⟩
  · obtain ⟨l, o, a, b, c, d, z⟩ := hx i R q
    rw [a] at s
    cases s
    exact z (List.mem_map.mpr ⟨x, hx', rfl⟩)
/-- what does not touch the ghosts -/
theorem sg_nx (h : Ss (fun _ => E) ts G (.nx G')) (nb : noBwB G' = true) : Sg E ts G X (.nx G' X) := fun M0 D σ B M H g q =>
  h _ D σ B M (g.fr H) fun σ' B' M' e H' => by
    obtain ⟨h1, h2⟩ := g.toXOk.unfr e H' (noBw_of nb)
    exact q σ' B' M' e h1 h2
theorem sg_rt (h : Ss (fun _ => E) ts G (.rt P)) : Sg E ts G X (.rt P X) := fun M0 D σ B M H g q =>
  h _ D σ B M (g.fr H) fun v B' M' e d c p => q v B' M' e d (g.toXOk.cal c) p (g.toXOk.back e c)
theorem sg_bad (h : Ss (fun _ => E) ts G (.bad C G')) : Sg E ts G X (.bad C X) := fun M0 D σ B M H g q =>
  h _ D σ B M (g.fr H) fun σ' B' M' e H' => q B' M' e H'.dj (g.toXOk.cal H'.cal) (g.toXOk.back e H'.cal)
theorem sg_seq (h : Sg E ts G X (.nx G1 X1)) (k : Sg E tu G1 X1 o) : Sg E (tSeq ts tu) G X o := fun M0 D σ B M H g q => h M0 { D with nx := tu D } σ B M H g fun σ' B' M' e H' g' => k M0 D σ' B' M' H' g' (q.ext e)
theorem sg_seqRt (h : Sg E ts G X (.rt P Y)) : Sg E (tSeq ts tu) G X (.rt P Y) := fun M0 D σ B M H g q => h M0 { D with nx := tu D } σ B M H g q
theorem sg_seqBad (h : Sg E ts G X (.bad C Y)) : Sg E (tSeq ts tu) G X (.bad C Y) := fun M0 D σ B M H g q => h M0 { D with nx := tu D } σ B M H g q
/-- a test -/
def Stg (tt : TT) (G : Gm) (X : Gx) (b : Bool) : Prop := ∀ (M0 : Hp) (σ : L2.St) (B M : Hp), Holds M0 G σ B M → GOk X M0 G σ B M → ∀ Q : Bool → Hp → Prop, (∀ B', Ex B B' → Dj B' M → Q b (jn B' M)) → tt σ (jn B M) Q
/-- an expression -/
def Svg (te : TE) (G : Gm) (X : Gx) (P : Ty) : Prop := ∀ (M0 : Hp) (σ : L2.St) (B M : Hp), Holds M0 G σ B M → GOk X M0 G σ B M → ∀ Q : VK, (∀ v B', Ex B B' → Dj B' M → P.p v B' → Q v (jn B' M)) → te σ (jn B M) Q
theorem svg (h : Sv te G P) : Svg te G X P := fun M0 σ B M H _ Q q => h M0 σ B M H Q q
theorem stg (h : St' tt G b) : Stg tt G X b := fun M0 σ B M H _ Q q => h M0 σ B M H Q q
theorem GOk.ext (g : GOk X M0 G σ B M) (e : Ex B B') : GOk X M0 G σ B' M where
  nd := g.nd
  m0 := g.m0
  ob := fun x hx => by obtain ⟨o, a, b⟩ := g.ob x hx; exact ⟨o, a, x.2.mono e b⟩
  ns := g.ns
theorem sg_if {P1 : Bool} (h : Stg tt G X P1) (h1 : P1 = true → Sg E ts G X o) (h2 : P1 = false → Sg E tu G X o) : Sg E (tIfS tt ts tu) G X o := fun M0 D σ B M H g q => h M0 σ B M H g _ fun B' e d => by
  cases P1 with
  | true => exact h1 rfl M0 D σ B' M (H.ext e d) (g.ext e) (q.ext e)
  | false => exact h2 rfl M0 D σ B' M (H.ext e d) (g.ext e) (q.ext e)
theorem sg_next : Sg E tNext G X (.nx G X) := fun M0 D σ B M H g q => q σ B M (Ex.refl B) H g
theorem sg_ret (h : Svg te G X P) : Sg E (tRet te) G X (.rt P X) := fun M0 D σ B M H g q => h M0 σ B M H g _ fun v B' e d p => q v B' M e d H.cal p (g.ext e).toXOk
theorem GOk.set (g : GOk X M0 G σ B M) (n : Nat) (P : Ty) (v : V) : GOk X M0 (G.set n (.im P)) (σ.set n (some v)) B M where
  nd := g.nd
  m0 := g.m0
  ob := g.ob
  ns := fun x hx i R q => by
    by_cases z : i = n
    · subst z
      rw [List.getElem?_set] at q
      split at q
      · split at q <;> simp at q
      · rename_i c; exact absurd rfl c
    · rw [List.getElem?_set_ne (Ne.symm z)] at q ⊢
      exact g.ns x hx i R q
theorem sg_set (h : Svg te G X P) (hn : n < G.length := by exact Nat.le_of_ble_eq_true rfl) : Sg E (tAsg te (gName n)) G X (.nx (G.set n (.im P)) X) := fun M0 D σ B M H g q => h M0 σ B M H g _ fun v B' e d p =>
  q _ B' M e ((H.ext e d).setIm hn p) ((g.ext e).set n P v)
theorem sg_le {G2 : Gm} (h : Sg E ts G X (.nx G1 X1)) (l : Le G1 G2) (hns : ∀ (i : Nat) R, G2[i]? = some (.ow R) → G1[i]? = some (.ow R)) : Sg E ts G X (.nx G2 X1) := fun M0 D σ B M H g q => h M0 D σ B M H g fun σ' B' M' e H' g' =>
  q σ' B' M' e (H'.le l) { toXOk := g'.toXOk, ns := fun x hx i R z => g'.ns x hx i R (hns i R z) }
/-- a slot that shows a ghost, seen as one's caller's -/
theorem GOk.view (g : GOk X M0 G σ B M) (H : Holds M0 G σ B M) {p : Addr} (hn : G[n]? = some (.im (isV (.ref p)))) (hx : (p, R) ∈ X) : Holds (Mini.fr X M0 M) (G.set n (.bw R)) σ B M := by
  have F := g.fr H
  have hlt := (List.getElem?_eq_some_iff.mp hn).1
  refine ⟨by rw [List.length_set]; exact F.len, F.dj, F.cal, fun i P q => ?_, fun i R' q => ?_, fun i R' q => ?_, fun i j R1 R2 l q1 q2 s1 s2 => ?_⟩
  · by_cases z : i = n
    · subst z; rw [List.getElem?_set_self hlt] at q; cases q
    · rw [List.getElem?_set_ne (Ne.symm z)] at q; exact F.im i P q
  · by_cases z : i = n
    · subst z; rw [List.getElem?_set_self hlt] at q; cases q
    · rw [List.getElem?_set_ne (Ne.symm z)] at q; exact F.ow i R' q
  · by_cases z : i = n
    · subst z
      rw [List.getElem?_set_self hlt] at q
      cases q
      obtain ⟨v, h1, h2⟩ := H.im i _ hn
      obtain rfl : v = .ref p := h2
      obtain ⟨o, h3, h4⟩ := g.ob _ hx
      exact ⟨p, o, h1, by rw [fr_in (List.mem_map.mpr ⟨_, hx, rfl⟩)]; exact h3, h4⟩
    · rw [List.getElem?_set_ne (Ne.symm z)] at q; exact F.bw i R' q
  · have c : ∀ (i : Nat) R', (G.set n (.bw R))[i]? = some (.ow R') → G[i]? = some (.ow R') := fun i R' q => by
      by_cases z : i = n
      · subst z; rw [List.getElem?_set_self hlt] at q; cases q
      · rw [List.getElem?_set_ne (Ne.symm z)] at q; exact q
    exact F.ne i j R1 R2 l (c i R1 q1) (c j R2 q2) s1 s2
theorem svg_view {p : Addr} (h : Sv te (G.set n (.bw R)) P) (hn : G[n]? = some (.im (isV (.ref p)))) (hx : (p, R) ∈ X) : Svg te G X P := fun M0 σ B M H g Q q => h _ σ B M (g.view H hn hx) Q q
theorem stg_view {p : Addr} (h : St' tt (G.set n (.bw R)) b) (hn : G[n]? = some (.im (isV (.ref p)))) (hx : (p, R) ∈ X) : Stg tt G X b := fun M0 σ B M H g Q q => h _ σ B M (g.view H hn hx) Q q
/-- the ghosts in another order -/
theorem sg_perm (h : Sg E ts G Y o) (p : X.Perm Y) : Sg E ts G X o := fun M0 D σ B M H g q => h M0 D σ B M H
  { nd := (p.map _).nodup_iff.mp g.nd, m0 := fun x hx => g.m0 x (p.mem_iff.mpr hx), ob := fun x hx => g.ob x (p.mem_iff.mpr hx), ns := fun x hx => g.ns x (p.mem_iff.mpr hx) } q
theorem sg_permO (h : Sg E ts G X (.nx G1 X1)) (p : X1.Perm X2) : Sg E ts G X (.nx G1 X2) := fun M0 D σ B M H g q => h M0 D σ B M H g fun σ' B' M' e H' g' => q σ' B' M' e H'
  { nd := (p.map _).nodup_iff.mp g'.nd, m0 := fun x hx => g'.m0 x (p.mem_iff.mpr hx), ob := fun x hx => g'.ob x (p.mem_iff.mpr hx), ns := fun x hx => g'.ns x (p.mem_iff.mpr hx) }
end
end Mini

namespace Mini
open PySem L2 Evl PyProof.Rows

/-! ### what a def promises that changes ghosts -/
inductive Rm where
  | ok (P : Ty) (X : Gx)
  | bad (C : Addr)
structure Fm where
  α : Type
  n : Nat
  ars : α → List Ty
  len : ∀ x, (ars x).length = n
  gh : α → Gx
  res : α → Rm
/-- the ghosts stand in M, as told -/
structure XIn (X : Gx) (B M : Hp) : Prop where
  nd : (X.map (·.1)).Nodup
  ob : ∀ x ∈ X, ∃ o, M x.1 = some o ∧ x.2.r x.1 o B
def Rm.wp (r : Rm) (ad : List Addr) (B M : Hp) (Q : VK) (E : XK) : Prop := match r with
  | .ok P X => X.map (·.1) = ad ∧ ∀ v B' M', Ex B B' → Dj B' M' → (∀ a, a ∉ ad → M' a = M a) → (∀ x ∈ X, ∃ o, M' x.1 = some o ∧ x.2.r x.1 o B') → P.p v B' → Q v (jn B' M')
  | .bad C => ∀ B' M', Ex B B' → Dj B' M' → (∀ a, a ∉ ad → M' a = M a) → (∀ a ∈ ad, ∃ o, M' a = some o) → E (.ref C) none (jn B' M')
def spM (S : Fm) : Sp := fun vs H Q E => ∃ (x : S.α) (B M : Hp), H = jn B M ∧ Dj B M ∧ ArsOk ((S.ars x).map Ar.im) vs B M ∧ XIn (S.gh x) B M ∧ (S.res x).wp ((S.gh x).map (·.1)) B M Q E
theorem spM_len {S : Fm} {vs H Q E} (h : spM S vs H Q E) : vs.length = S.n := by
  obtain ⟨x, B, M, _, _, a, _⟩ := h
  rw [a.len, List.length_map, S.len]
theorem startG_im : ∀ (as : List Ty) (n i : Nat) (S : Sl), (startG n (as.map Ar.im))[i]? = some S → S = .no ∨ ∃ P, S = .im P := fun as n i S h => by
  have e : ∀ as : List Ty, entG (as.map Ar.im) = as.map Sl.im := fun as => by
    induction as with
    | nil => rfl
    | cons a as ih => show Sl.im a :: entG (as.map Ar.im) = _; rw [ih]; rfl
  unfold startG at h
  rw [e] at h
  have hm := List.mem_of_getElem? h
  rcases List.mem_append.mp hm with z | z
  · obtain ⟨P, _, rfl⟩ := List.mem_map.mp z
    exact .inr ⟨P, rfl⟩
  · exact .inl (List.eq_of_mem_replicate z)
/-- how the result of a def with ghosts is told -/
inductive Anm (E : XK) (ts : TS) (G : Gm) (X : Gx) : Rm → Prop where
  | ok {P X'} : X'.map (·.1) = X.map (·.1) → Sg E ts G X (.rt P X') → Anm E ts G X (.ok P X')
  | non {G' X'} : X'.map (·.1) = X.map (·.1) → Sg E ts G X (.nx G' X') → Anm E ts G X (.ok (isD .none) X')
  | bad {C X'} : X'.map (·.1) = X.map (·.1) → Sg E ts G X (.bad C X') → Anm E ts G X (.bad C)
/-- the callee's heap, told to its caller: what the caller owns stays its own -/
def keepM (M M' : Hp) : Hp := fun a => match M a with
  | some _ => M' a
  | none => none
def keepB (M H : Hp) : Hp := fun a => match M a with
  | some _ => none
  | none => H a
theorem keep_jn {B M M' : Hp} (h : ∀ a o, M a = some o → ∃ u, M' a = some u) : jn (keepB M (jn B M')) (keepM M M') = jn B M' := by
  funext a
  unfold jn keepB keepM
  dsimp only
  cases e : M a with
  | some o =>
    obtain ⟨u, hu⟩ := h a o e
    rw [hu]
  | none => rfl
theorem keep_dj {M M' H : Hp} : Dj (keepB M H) (keepM M M') := fun a o h => by
  unfold keepB at h
  unfold keepM
  cases e : M a with
  | some u => rw [e] at h; cases h
  | none => rfl
theorem keep_ex {B M M' : Hp} (d : Dj B M') (h : ∀ a o, M a = some o → ∃ u, M' a = some u) : Ex B (keepB M (jn B M')) := fun a o e => by
  unfold keepB
  cases q : M a with
  | some u =>
    obtain ⟨u', hu⟩ := h a u q
    have := d a o e
    rw [hu] at this; cases this
  | none => exact jn_B d e
section
variable {E : XK} {X X1 X2 Y : Gx} {M0 B M B' M' : Hp} {G G1 G' : Gm} {σ σ' : L2.St} {ts tu : TS} {te ta : TE} {tas : TA} {tt : TT} {o : Og} {P : Ty} {R : Ow} {C : Addr} {b : Bool} {n : Nat}
theorem anm_run {N : List Str} {as : List Ty} {vs : List V} {r : Rm} {Q : VK} (dj : Dj B M) (h : ArsOk (as.map Ar.im) vs B M) (hN : as.length ≤ N.length) (x : XIn X B M) (w : r.wp (X.map (·.1)) B M Q E) (a : Anm E ts (startG N.length (as.map Ar.im)) X r) :
    ts { nx := fun _ H' => Q .non H', rt := Q } (L2.start N vs) (jn B M) := by
  have H0 := holds_start dj h (by rw [List.length_map]; exact hN)
  let M0 : Hp := fun a => if a ∈ X.map (·.1) then none else M a
  have m0 : ∀ a, a ∈ X.map (·.1) → M0 a = none := fun a h => if_pos h
  have m1 : ∀ a, a ∉ X.map (·.1) → M0 a = M a := fun a h => if_neg h
  have H : Holds M0 (startG N.length (as.map Ar.im)) (L2.start N vs) B M := by
    refine ⟨H0.len, H0.dj, fun a o e => ?_, H0.im, fun i R q => ?_, fun i R q => ?_, H0.ne⟩
    · by_cases z : a ∈ X.map (·.1)
      · rw [m0 a z] at e; cases e
      · rw [m1 a z] at e; exact e
    · rcases startG_im as N.length i _ q with z | ⟨P, z⟩ <;> cases z
    · rcases startG_im as N.length i _ q with z | ⟨P, z⟩ <;> cases z
  have g : GOk X M0 (startG N.length (as.map Ar.im)) (L2.start N vs) B M := { nd := x.nd, m0 := fun y hy => m0 _ (List.mem_map.mpr ⟨y, hy, rfl⟩), ob := x.ob, ns := fun y hy i R q => by rcases startG_im as N.length i _ q with z | ⟨P, z⟩ <;> cases z }
  have back : ∀ {B' M' : Hp} {X' : Gx}, Dj B' M' → Ex M0 M' → X'.map (·.1) = X.map (·.1) → (∀ y ∈ X', ∃ o, M' y.1 = some o ∧ y.2.r y.1 o B') → (∀ a o, M a = some o → ∃ u, M' a = some u) ∧ ∀ a, a ∉ X.map (·.1) → keepM M M' a = M a := fun {B' M' X'} d c e1 hx => by
    have k1 : ∀ a o, M a = some o → ∃ u, M' a = some u := fun a o ha => by
      by_cases z : a ∈ X.map (·.1)
      · rw [← e1] at z
        obtain ⟨y, hy, e⟩ := List.mem_map.mp z
        obtain ⟨u, hu, _⟩ := hx y hy
        exact ⟨u, by rw [← e]; exact hu⟩
      · exact ⟨o, c a o (by rw [m1 a z]; exact ha)⟩
    refine ⟨k1, fun a z => ?_⟩
    unfold keepM
    cases e : M a with
    | none => rfl
    | some o => exact c a o (by rw [m1 a z]; exact e)
  have kx : ∀ {B' M' : Hp} {X' : Gx}, Dj B' M' → (∀ a o, M a = some o → ∃ u, M' a = some u) → X'.map (·.1) = X.map (·.1) → (∀ y ∈ X', ∃ o, M' y.1 = some o ∧ y.2.r y.1 o B') → ∀ y ∈ X', ∃ o, keepM M M' y.1 = some o ∧ y.2.r y.1 o (keepB M (jn B' M')) := fun {B' M' X'} d k1 e1 hx y hy => by
    obtain ⟨o, h1, h2⟩ := hx y hy
    refine ⟨o, ?_, y.2.mono (keep_ex d k1) h2⟩
    have z : y.1 ∈ X.map (·.1) := by rw [← e1]; exact List.mem_map.mpr ⟨y, hy, rfl⟩
    obtain ⟨y', hy', e⟩ := List.mem_map.mp z
    obtain ⟨u, hu, _⟩ := x.ob y' hy'
    unfold keepM
    rw [← e, hu]
    show M' y'.1 = some o
    rw [e]; exact h1
  cases a with
  | ok e1 s =>
    refine s M0 _ _ B M H g fun v B' M' e d c p y => ?_
    obtain ⟨k1, k2⟩ := back d c e1 y.ob
    have := w.2 v (keepB M (jn B' M')) (keepM M M') (e.trans (keep_ex d k1)) keep_dj k2 (kx d k1 e1 y.ob) (Ty.mono _ (keep_ex d k1) p)
    rw [keep_jn k1] at this
    exact this
  | non e1 s =>
    refine s M0 _ _ B M H g fun σ' B' M' e H' y => ?_
    obtain ⟨k1, k2⟩ := back H'.dj H'.cal e1 y.ob
    have := w.2 .non (keepB M (jn B' M')) (keepM M M') (e.trans (keep_ex H'.dj k1)) keep_dj k2 (kx H'.dj k1 e1 y.ob) Dq.non
    rw [keep_jn k1] at this
    exact this
  | bad e1 s =>
    refine s M0 _ _ B M H g fun B' M' e d c y => ?_
    obtain ⟨k1, k2⟩ := back d c e1 y.ob
    have := w (keepB M (jn B' M')) (keepM M M') (e.trans (keep_ex d k1)) keep_dj k2 fun a ha => by
      rw [← e1] at ha
      obtain ⟨y', hy', e⟩ := List.mem_map.mp ha
      obtain ⟨u, hu, _⟩ := kx d k1 e1 y.ob y' hy'
      exact ⟨u, by rw [← e]; exact hu⟩
    rw [keep_jn k1] at this
    exact this
theorem fn_okM {P : Program} {w : World} {K : PySem.W.Frag} {mg : Str → Option Value} {base : Heap} {x qual : Str} {st : Stmt} {f : Addr} {fd : FuncData} {N ps : List Str} {k : Nat} {S : Fm} (F : Fun K x qual st f fd) (sc : FnScope N ps (defScope st)) (hn : S.n = ps.length)
    (hb : ∀ (cdv : Value) (A : Around) (outer : List Env) (s : Shared) (H : Hp) (E : XK), Room k (A.deeper (envOfC qual (defScope st) s.heap.objs.size f cdv)) →
      ∃ t, PSs (cxD P w K mg base N qual st f cdv A outer s H E) (defBody st) t ∧ ∀ x : S.α, Anm E t (startG N.length ((S.ars x).map Ar.im)) (S.gh x) (S.res x)) : FnOk P w K mg base (L2.CX P w) (k + 1) f fd ps (spM S) := by
  refine F.okX sc (fun vs H Q E h => by rw [spM_len h, hn]) (fun cdv A outer s H vs Q E hr h => ?_)
  obtain ⟨t, h1, h2⟩ := hb cdv A outer s H E hr
  refine ⟨t, h1, ?_⟩
  obtain ⟨x, B, M, rfl, dj, ha, hx, hw⟩ := h
  refine anm_run dj ha ?_ hx hw (h2 x)
  have := congrArg List.length sc.pre
  rw [List.length_take] at this
  rw [S.len, hn]
  omega
/-! ### a call that changes ghosts -/
/-- the heap behind such a call -/
theorem GOk.after {ad : List Addr} (H : Holds M0 G σ B M) (g : GOk (X1 ++ X2) M0 G σ B M) (had : X1.map (·.1) = Y.map (·.1)) (hY : Y.map (·.1) = ad) (e : Ex B B') (d : Dj B' M') (k : ∀ a, a ∉ ad → M' a = M a) (hx : ∀ y ∈ Y, ∃ o, M' y.1 = some o ∧ y.2.r y.1 o B') :
    Holds M0 G σ B' M' ∧ GOk (Y ++ X2) M0 G σ B' M' := by
  have em : (Y ++ X2).map (·.1) = (X1 ++ X2).map (·.1) := by rw [List.map_append, List.map_append, had]
  have mem : ∀ y ∈ Y ++ X2, ∃ x ∈ X1 ++ X2, x.1 = y.1 := fun y hy => by
    have : y.1 ∈ (X1 ++ X2).map (·.1) := by rw [← em]; exact List.mem_map.mpr ⟨y, hy, rfl⟩
    obtain ⟨x, hx, e⟩ := List.mem_map.mp this
    exact ⟨x, hx, e⟩
  have out0 : ∀ a o, M0 a = some o → a ∉ ad := fun a o h z => by
    rw [← hY, ← had] at z
    obtain ⟨x, hx, e⟩ := List.mem_map.mp z
    have := g.m0 x (List.mem_append_left _ hx)
    rw [e, h] at this; cases this
  have outs : ∀ (i : Nat) R l, G[i]? = some (.ow R) → σ[i]? = some (some (.ref l)) → l ∉ ad := fun i R l q s z => by
    rw [← hY, ← had] at z
    obtain ⟨x, hx, e⟩ := List.mem_map.mp z
    exact g.ns x (List.mem_append_left _ hx) i R q (by rw [e]; exact s)
  refine ⟨⟨H.len, d, fun a o h => ?_, fun i P q => ?_, fun i R q => ?_, fun i R q => ?_, H.ne⟩, { nd := by rw [em]; exact g.nd, m0 := fun y hy => ?_, ob := fun y hy => ?_, ns := fun y hy i R q => ?_ }⟩
  · rw [k a (out0 a o h)]; exact H.cal a o h
  · obtain ⟨v, a, b⟩ := H.im i P q
    exact ⟨v, a, P.mono e b⟩
  · obtain ⟨l, o, a, b, c, f⟩ := H.ow i R q
    exact ⟨l, o, a, by rw [k l (outs i R l q a)]; exact b, R.mono e c, f⟩
  · obtain ⟨l, o, a, b, c⟩ := H.bw i R q
    exact ⟨l, o, a, b, R.mono e c⟩
  · obtain ⟨x, hx, e⟩ := mem y hy
    rw [← e]; exact g.m0 x hx
  · rcases List.mem_append.mp hy with z | z
    · exact hx y z
    · obtain ⟨o, h1, h2⟩ := g.ob y (List.mem_append_right _ z)
      refine ⟨o, ?_, y.2.mono e h2⟩
      rw [k]
      · exact h1
      · intro q
        rw [← hY, ← had] at q
        have nd := g.nd
        rw [List.map_append] at nd
        exact (List.nodup_append.mp nd).2.2 _ q _ (List.mem_map.mpr ⟨y, z, rfl⟩) rfl
  · obtain ⟨x, hx, e⟩ := mem y hy
    rw [← e]; exact g.ns x hx i R q
theorem sg_setM {S : Fm} {as : List Ty} (ha : Sa tas G (as.map Ar.im)) (x : S.α) (hx : S.ars x = as) (hg : S.gh x = X1) (hr : S.res x = .ok P Y) (hy : Y.map (·.1) = X1.map (·.1)) (hn : n < G.length := by exact Nat.le_of_ble_eq_true rfl) :
    Sg E (tAsg (tCallS (spM S) (fun _ => E) tas) (gName n)) G (X1 ++ X2) (.nx (G.set n (.im P)) (Y ++ X2)) := fun M0 D σ B M H g q => ha M0 σ B M H _ fun vs B1 e1 d1 p1 => by
  have g1 := g.ext e1
  refine ⟨x, B1, M, rfl, d1, by rw [hx]; exact p1, ⟨by rw [hg]; have := g.nd; rw [List.map_append] at this; exact (List.nodup_append.mp this).1, fun y hy => by rw [hg] at hy; exact g1.ob y (List.mem_append_left _ hy)⟩, ?_⟩
  rw [hr, hg]
  refine ⟨hy, fun v B' M' e d k hx' p => ?_⟩
  obtain ⟨h1, h2⟩ := GOk.after (H.ext e1 d1) g1 hy.symm hy e d k hx'
  exact q _ B' M' (e1.trans e) (h1.setIm hn p) (h2.set n P v)
theorem sg_dropM {S : Fm} {as : List Ty} (ha : Sa tas G (as.map Ar.im)) (x : S.α) (hx : S.ars x = as) (hg : S.gh x = X1) (hr : S.res x = .ok P Y) (hy : Y.map (·.1) = X1.map (·.1)) :
    Sg E (tDrop (tCallS (spM S) (fun _ => E) tas)) G (X1 ++ X2) (.nx G (Y ++ X2)) := fun M0 D σ B M H g q => ha M0 σ B M H _ fun vs B1 e1 d1 p1 => by
  have g1 := g.ext e1
  refine ⟨x, B1, M, rfl, d1, by rw [hx]; exact p1, ⟨by rw [hg]; have := g.nd; rw [List.map_append] at this; exact (List.nodup_append.mp this).1, fun y hy => by rw [hg] at hy; exact g1.ob y (List.mem_append_left _ hy)⟩, ?_⟩
  rw [hr, hg]
  refine ⟨hy, fun v B' M' e d k hx' p => ?_⟩
  obtain ⟨h1, h2⟩ := GOk.after (H.ext e1 d1) g1 hy.symm hy e d k hx'
  exact q _ B' M' (e1.trans e) h1 h2
theorem sg_setMbad {S : Fm} {as : List Ty} (ha : Sa tas G (as.map Ar.im)) (x : S.α) (hx : S.ars x = as) (hg : S.gh x = X1) (hr : S.res x = .bad C) :
    Sg E (tAsg (tCallS (spM S) (fun _ => E) tas) (gName n)) G (X1 ++ X2) (.bad C (X1.map (fun y => (y.1, anyO)) ++ X2)) := fun M0 D σ B M H g q => ha M0 σ B M H _ fun vs B1 e1 d1 p1 => by
  have g1 := g.ext e1
  refine ⟨x, B1, M, rfl, d1, by rw [hx]; exact p1, ⟨by rw [hg]; have := g.nd; rw [List.map_append] at this; exact (List.nodup_append.mp this).1, fun y hy => by rw [hg] at hy; exact g1.ob y (List.mem_append_left _ hy)⟩, ?_⟩
  rw [hr, hg]
  intro B' M' e d k hx'
  have hm : (X1.map (fun y => (y.1, anyO))).map (·.1) = X1.map (·.1) := by rw [List.map_map]; rfl
  obtain ⟨h1, h2⟩ := GOk.after (Y := X1.map (fun y => (y.1, anyO))) (H.ext e1 d1) g1 hm.symm hm e d k fun y hy => by
    obtain ⟨z, hz, rfl⟩ := List.mem_map.mp hy
    obtain ⟨o, ho⟩ := hx' z.1 (List.mem_map.mpr ⟨z, hz, rfl⟩)
    exact ⟨o, ho, trivial⟩
  exact q B' M' (e1.trans e) d h1.cal h2.toXOk
/-! ### ghost lists -/
/-- y = [], a list that others may change -/
theorem sg_newL {ds : List PyData} (h : Svl te G ds) (hn : n < G.length) (k : ∀ p, Sg E tu (G.set n (.im (isV (.ref p)))) ((p, isL ds) :: X) o) : Sg E (tSeq (tAsg te (gName n)) tu) G X o := fun M0 D σ B M H g q =>
  h M0 σ B M H _ fun p vs B' e d hf hv => by
    have hB := (jn_free hf).1
    have hM := (jn_free hf).2
    have hx : p ∉ X.map (·.1) := fun z => by
      obtain ⟨x, hx, e⟩ := List.mem_map.mp z
      obtain ⟨o, h1, _⟩ := g.ob x hx
      rw [e, hM] at h1; cases h1
    rw [upd_own]
    have H1 := ((H.ext e d).more (p := p) (o := .lst vs) hf).setIm (n := n) (v := .ref p) (P := isV (.ref p)) hn rfl
    have d1 : Dj B' (upd M p (.lst vs)) := dj_own d hB
    refine k p M0 D _ B' _ H1 ?_ (q.ext e)
    have g1 := (g.ext e).set n (isV (.ref p)) (.ref p)
    have hM0 : M0 p = none := by
      cases z : M0 p with
      | none => rfl
      | some u => have := H.cal p u z; rw [hM] at this; cases this
    refine { nd := by rw [List.map_cons]; exact List.nodup_cons.mpr ⟨hx, g.nd⟩, m0 := fun x hx' => ?_, ob := fun x hx' => ?_, ns := fun x hx' i R z => ?_ }
    · rcases List.mem_cons.mp hx' with rfl | z
      · exact hM0
      · exact g.m0 x z
    · rcases List.mem_cons.mp hx' with rfl | z
      · exact ⟨_, upd_same, vs, rfl, hv⟩
      · obtain ⟨o, h1, h2⟩ := g1.ob x z
        have ne : x.1 ≠ p := fun z' => hx (z' ▸ List.mem_map.mpr ⟨x, z, rfl⟩)
        exact ⟨o, by rw [upd_ne ne]; exact h1, h2⟩
    · rcases List.mem_cons.mp hx' with rfl | z'
      · intro s
        obtain ⟨l, o, a, b, c, f⟩ := ((H.ext e d).setIm (n := n) (v := .ref p) (P := isV (.ref p)) hn rfl).ow i R z
        rw [a] at s
        cases s
        rw [hM] at b; cases b
      · exact g1.ns x z' i R z
/-- xs.append(y), xs a ghost that a slot shows -/
theorem sg_app {K : PySem.W.Frag} {ds : List PyData} {d : PyData} {tl : TE} {p : Addr} (hl : Sv tl G (isV (.ref p))) (he : Sv te G (isD d)) (hz : ds.length < sizeLine) :
    Sg E (tDrop (tBM K "list" rAppend tl (tCons te tNil))) G ((p, isL ds) :: X) (.nx G ((p, isL (ds ++ [d])) :: X)) := fun M0 D σ B M H g q => hl M0 σ B M H _ fun u B1 e1 d1 p1 => by
  obtain rfl : u = .ref p := p1
  obtain ⟨o, h1, vs, rfl, h2⟩ := (g.ext e1).ob _ (List.mem_cons_self ..)
  refine ⟨Or.inl ⟨rfl, vs, sq_of (jn_M h1)⟩, ?_⟩
  refine he M0 σ B1 M (H.ext e1 d1) _ fun y B2 e2 d2 p2 => ?_
  have h3 := DqAll_ex e2 h2
  refine ⟨p, vs, y, rfl, rfl, jn_M h1, by rw [DqAll_len h2]; exact hz, ?_⟩
  rw [upd_own]
  have g2 := (g.ext e1).ext e2
  have H2 := (H.ext e1 d1).ext e2 d2
  obtain ⟨r1, r2⟩ := GOk.after (X1 := [(p, isL ds)]) (X2 := X) (Y := [(p, isL (ds ++ [d]))]) (ad := [p]) (B' := B2) (M' := upd M p (.lst (vs ++ [y]))) H2 g2 rfl rfl (Ex.refl _) (fun a u z => by
      by_cases w : a = p
      · have := d2 a u z
        rw [w] at this
        rw [show M p = some (.lst vs) from h1] at this
        cases this
      · rw [upd_ne w]; exact d2 a u z) (fun a w => upd_ne (fun z => w (by rw [z]; exact List.mem_singleton.mpr rfl))) (fun y' hy' => by
      rw [List.mem_singleton] at hy'
      subst hy'
      exact ⟨_, upd_same, vs ++ [y], rfl, DqAll_append h3 (.cons p2 .nil)⟩)
  exact q σ B2 _ (e1.trans e2) r1 r2
end
end Mini

namespace Mini
open PySem L2 Evl PyProof.Rows

/-! ### loops over ghosts -/
def Pvg (M0 B : Hp) (Gi : Nat → Gm) (Xi : Nat → Gx) (N : Nat) (i : Nat) (σ : L2.St) (H : Hp) : Prop := i ≤ N ∧ ∃ B' M', H = jn B' M' ∧ Ex B B' ∧ Holds M0 (Gi i) σ B' M' ∧ GOk (Xi i) M0 (Gi i) σ B' M'
/-- an outcome that leaves the loop -/
def Og.leaves : Og → Prop
  | .nx _ _ => False
  | _ => True
section
variable {K : PySem.W.Frag} {E : XK} {X : Gx} {M0 B M B1 M1 : Hp} {G : Gm} {σ : L2.St} {tu : TS} {tl : TE} {tt : TT} {o : Og} {D : Ends} {ds : List PyData} {j : Nat}
theorem turn_okG {Gi : Nat → Gm} {Xi : Nat → Gx} {N i : Nat} (hi : i ≤ N) (H : Holds M0 G σ B1 M1) (g : GOk X M0 G σ B1 M1) (e : Ex B B1) (hs : i < N → Sg E tu G X (.nx (Gi (i + 1)) (Xi (i + 1)))) (hd : i = N → o.leaves ∧ Sg E tu G X o) (q : o.ok E D M0 B) :
    tu { D with nx := Pvg M0 B Gi Xi N (i + 1), ct := Pvg M0 B Gi Xi N (i + 1), bk := D.nx } σ (jn B1 M1) := by
  by_cases hN : i < N
  · exact hs hN M0 _ σ B1 M1 H g fun σ' B' M' e' H' g' => ⟨hN, B', M', rfl, e.trans e', H', g'⟩
  · obtain ⟨l, h⟩ := hd (by omega)
    refine h M0 _ σ B1 M1 H g ?_
    cases o with
    | nx => cases l
    | rt P X' => exact fun v B' M' e' => q v B' M' (e.trans e')
    | bad C X' => exact fun B' M' e' => q B' M' (e.trans e')
theorem sg_while (Gi : Nat → Gm) (Xi : Nat → Gx) (N : Nat) (h0 : G = Gi 0) (x0 : X = Xi 0) (ht : ∀ i, i < N → Stg tt (Gi i) (Xi i) true) (hs : ∀ i, i < N → Sg E tu (Gi i) (Xi i) (.nx (Gi (i + 1)) (Xi (i + 1))))
    (hd : (Stg tt (Gi N) (Xi N) false ∧ o = .nx (Gi N) (Xi N)) ∨ (Stg tt (Gi N) (Xi N) true ∧ o.leaves ∧ Sg E tu (Gi N) (Xi N) o)) : Sg E (tWhile tt tu) G X o := fun M0 D σ B M H g q => by
  subst h0
  subst x0
  refine ⟨fun m σ' H' => ∃ i, i + m = N ∧ Pvg M0 B Gi Xi N i σ' H', ⟨N, 0, Nat.zero_add _, Nat.zero_le _, B, M, rfl, Ex.refl B, H, g⟩, fun m σ' H' w => ?_⟩
  obtain ⟨i, him, hiN, B1, M1, rfl, e, H1, g1⟩ := w
  by_cases hN : i < N
  · refine ht i hN M0 σ' B1 M1 H1 g1 _ fun B2 e2 d2 => ?_
    refine ⟨fun σ2 H2 => Pvg M0 B Gi Xi N (i + 1) σ2 H2, fun σ2 H2 p => ⟨m - 1, by omega, i + 1, by omega, p⟩, ?_⟩
    exact turn_okG (o := o) hiN (H1.ext e2 d2) (g1.ext e2) (e.trans e2) (fun l => hs i l) (fun l => by omega) q
  · have hiE : i = N := by omega
    subst hiE
    rcases hd with ⟨a, b⟩ | ⟨a, l, b⟩
    · refine a M0 σ' B1 M1 H1 g1 _ fun B2 e2 d2 => ?_
      rw [b] at q
      exact q σ' B2 M1 (e.trans e2) (H1.ext e2 d2) (g1.ext e2)
    · refine a M0 σ' B1 M1 H1 g1 _ fun B2 e2 d2 => ?_
      refine ⟨fun σ2 H2 => Pvg M0 B Gi Xi i (i + 1) σ2 H2, fun σ2 H2 p => by have := p.1; omega, ?_⟩
      exact turn_okG (o := o) hiN (H1.ext e2 d2) (g1.ext e2) (e.trans e2) (fun l => by omega) (fun _ => ⟨l, b⟩) q
/-- over a list that stays -/
theorem sg_forL (h : Sv tl G (isD (.list ds))) (Gi : Nat → Gm) (Xi : Nat → Gx) (N : Nat) (hN : N ≤ ds.length) (h0 : G = Gi 0) (x0 : X = Xi 0) (hj : ∀ i, i ≤ N → j < (Gi i).length)
    (hs : ∀ i d, ds[i]? = some d → i < N → Sg E tu ((Gi i).set j (.im (isD d))) (Xi i) (.nx (Gi (i + 1)) (Xi (i + 1)))) (hd : (N = ds.length ∧ o = .nx (Gi N) (Xi N)) ∨ (N < ds.length ∧ o.leaves ∧ Sg E tu ((Gi N).set j (.im (isD (ds.getD N .none)))) (Xi N) o)) :
    Sg E (tFor (iList K tl) (gName j) tu) G X o := fun M0 D σ B M H g q => by
  subst h0
  subst x0
  exact h M0 σ B M H _ fun v B1 e1 d1 p1 => by
    obtain ⟨a, vs, rfl, ha, hv⟩ := dq_lst p1
    have hlen := DqAll_len hv
    refine ⟨a, rfl, ⟨vs, sq_of (jn_B d1 ha)⟩, ?_⟩
    refine for_list (xs := vs) (Pvg M0 B1 Gi Xi N) ⟨Nat.zero_le _, B1, M, rfl, Ex.refl B1, H.ext e1 d1, g.ext e1⟩ (fun i σ' H' _ p => ?_) (fun i x σ' H' hx p => ?_) (fun σ' H' p => ?_)
    · obtain ⟨_, B', M', rfl, e, H', _⟩ := p
      exact sq_of (jn_B H'.dj (e _ _ ha))
    · obtain ⟨hiN, B', M', rfl, e, H', g'⟩ := p
      obtain ⟨d, hd1, px⟩ := DqAll_getV hv hx
      refine turn_okG (o := o) hiN (H'.setIm (hj i hiN) (P := isD d) (Dq_ex e d x px)) (g'.set j (isD d) x) e (fun l => hs i d hd1 l) (fun l => ?_) (q.ext e1)
      rcases hd with ⟨b, _⟩ | ⟨_, l', b⟩
      · have := (List.getElem?_eq_some_iff.mp hx).1; omega
      · have z : ds.getD N .none = d := by rw [← l, List.getD_eq_getElem?_getD, hd1]; rfl
        rw [z, ← l] at b
        exact ⟨l', b⟩
    · obtain ⟨hiN, B', M', rfl, e, H', g'⟩ := p
      rcases hd with ⟨b, c⟩ | ⟨b, _⟩
      · rw [c] at q
        rw [hlen, ← b] at H' g'
        exact q σ' B' M' (e1.trans e) H' g'
      · omega
end
end Mini

namespace Mini
open PySem L2 Evl PyProof.Rows
def noOwB : Gm → Bool
  | [] => true
  | .ow _ :: _ => false
  | _ :: G => noOwB G
theorem noOw_of : ∀ {G : Gm}, noOwB G = true → ∀ (i : Nat) R, G[i]? ≠ some (.ow R)
  | [], _, i, R => by simp
  | .ow _ :: _, h, _, _ => by cases h
  | .no :: G, h, i, R => by cases i with
    | zero => simp
    | succ i => exact fun e => noOw_of (G := G) h i R (by simpa using e)
  | .im _ :: G, h, i, R => by cases i with
    | zero => simp
    | succ i => exact fun e => noOw_of (G := G) h i R (by simpa using e)
  | .bw _ :: G, h, i, R => by cases i with
    | zero => simp
    | succ i => exact fun e => noOw_of (G := G) h i R (by simpa using e)
section
variable {K : PySem.W.Frag} {E : XK} {X X1 : Gx} {G G1 G2 : Gm} {ts tu : TS} {te tl : TE} {tt : TT} {o : Og} {R0 : Addr × Ow} {d : PyData} {ds : List PyData}
theorem sg_leN (h : Sg E ts G X (.nx G1 X1)) (l : Le G1 G2) (no : noOwB G2 = true := by rfl) : Sg E ts G X (.nx G2 X1) := sg_le h l fun i R e => absurd e (noOw_of no i R)
theorem sg_if0 (h : Stg tt G X false) (k : Sg E tu G X o) : Sg E (tIfS tt ts tu) G X o := sg_if h (fun z => by cases z) fun _ => k
theorem sg_if1 (h : Stg tt G X true) (k : Sg E ts G X o) : Sg E (tIfS tt ts tu) G X o := sg_if h (fun _ => k) fun z => by cases z
theorem sg_app2 {p : Addr} (hl : Sv tl G (isV (.ref p))) (he : Sv te G (isD d)) (hz : ds.length < sizeLine) :
    Sg E (tDrop (tBM K "list" rAppend tl (tCons te tNil))) G (R0 :: (p, isL ds) :: X) (.nx G (R0 :: (p, isL (ds ++ [d])) :: X)) :=
  sg_perm (sg_permO (sg_app (X := R0 :: X) hl he hz) (.swap ..)) (.swap ..)
end
end Mini

namespace Mini
open PySem PySem.Spec L2 Evl PyProof.Rows

/-! ### dicts with keys that are tuples of ints and texts, the module's own among them -/
abbrev KX := List (List Key × Addr × V)
abbrev XT : KX → List (List Key × Addr × Value) → Prop := Paired fun p q => p.1 = q.1 ∧ p.2.1 = q.2.1 ∧ RelV p.2.2 q.2.2
def getX (kvs : KX) (k : List Key) : Option V := (kvs.find? fun p => decide (p.1 = k)).map (·.2.2)
def putX (kvs : KX) (k : List Key) (b : Addr) (v : V) : KX := if (getX kvs k).isSome then kvs.map (fun p => if p.1 = k then (p.1, p.2.1, v) else p) else kvs ++ [(k, b, v)]
structure DX0 (P : Program) (w : World) (a : Addr) (kvs : KX) (h : Heap) : Prop where
  sys : (a == sysModules) = false
  few : kvs.length ≤ sizeLine
  ex : ∃ xs, XT kvs xs ∧ (∃ o es ep, h.get? a = some o ∧ o.ExactDict ∧ o.data = .dict es ep ∧ es.toList = xs.map (entryOfKey (tupleKind (mixKind P w)))) ∧ (xs.map (·.1)).Nodup
def DXO (P : Program) (w : World) (a : Addr) (kvs : KX) : HO := .ext (DX0 P w a kvs)
theorem dxo_new {P : Program} {w : World} {H : Hp} {h : Heap} {a : Addr} {kvs : KX} (R : DX0 P w a kvs h) : ObjOk P w H h a (DXO P w a kvs) := by
  obtain ⟨h1, h2, xs, h3, ⟨o, es, ep, h4, h5⟩, h6⟩ := id R
  refine ⟨R, ⟨o, h4⟩, fun g1 g2 p k => ?_⟩
  obtain ⟨p1, p2, ys, p3, ⟨o', es', ep', p4, p5⟩, p6⟩ := id (show DX0 P w a kvs g1 from p)
  exact ⟨p1, p2, ys, p3, ⟨o', es', ep', k _ p4, p5⟩, p6⟩
theorem XT.val {kvs : KX} {xs : List (List Key × Addr × Value)} (r : XT kvs xs) (k : List Key) : RelO (getX kvs k) ((atKey xs k).map (·.2)) := by
  induction r with
  | nil => exact True.intro
  | @cons p q ps qs h t ih =>
    obtain ⟨h1, _, h2⟩ := h
    by_cases e : p.1 = k
    · have e' : q.1 = k := h1.symm.trans e
      have b : atKey (q :: qs) k = some q.2 := by simp [atKey, List.find?_cons, e']
      have c : getX (p :: ps) k = some p.2.2 := by simp [getX, List.find?_cons, e]
      rw [c, b]; exact h2
    · have e' : ¬ q.1 = k := fun z => e (h1.trans z)
      have b : atKey (q :: qs) k = atKey qs k := by simp [atKey, List.find?_cons, e']
      have c : getX (p :: ps) k = getX ps k := by simp [getX, List.find?_cons, e]
      rw [c, b]; exact ih
theorem XT.put {kvs : KX} {xs : List (List Key × Addr × Value)} (r : XT kvs xs) (k : List Key) {b : Addr} {y : V} {u : Value} (ry : RelV y u) : XT (putX kvs k b y) (storedH xs k b u) := by
  have e : (getX kvs k).isSome = (atKey xs k).isSome := by rw [(r.val k).isSome_eq, Option.isSome_map]
  unfold putX storedH
  rw [e]
  by_cases q : (atKey xs k).isSome = true
  · rw [if_pos q, if_pos q]
    clear q e
    induction r with
    | nil => exact .nil
    | @cons p q ps qs h t ih =>
      rw [List.map_cons, List.map_cons]
      refine .cons ?_ ih
      obtain ⟨h1, h2, h3⟩ := h
      unfold putAt
      by_cases e : p.1 = k
      · rw [if_pos e, if_pos (h1.symm.trans e)]; exact ⟨h1, h2, ry⟩
      · rw [if_neg e, if_neg (fun z => e (h1.trans z))]; exact ⟨h1, h2, h3⟩
  · rw [if_neg q, if_neg q]; exact Paired.snoc r ⟨rfl, rfl, ry⟩
theorem putX_len (kvs : KX) (k : List Key) (b : Addr) (v : V) : (putX kvs k b v).length ≤ kvs.length + 1 := by
  unfold putX
  split
  · rw [List.length_map]; omega
  · rw [List.length_append]; exact Nat.le_refl _
/-- the keys stand where they are said to -/
def KeysX (K : PySem.W.Frag) (H : Hp) (kvs : KX) : Prop := ∀ p ∈ kvs, SqT K H p.2.1 (p.1.map kV)
theorem XT.mem {kvs : KX} {xs : List (List Key × Addr × Value)} (r : XT kvs xs) : ∀ q ∈ xs, ∃ p ∈ kvs, p.1 = q.1 ∧ p.2.1 = q.2.1 := by
  induction r with
  | nil => intro q h; cases h
  | @cons p q ps qs h t ih =>
    intro q' h'
    rcases List.mem_cons.mp h' with rfl | z
    · exact ⟨p, List.mem_cons_self .., h.1, h.2.1⟩
    · obtain ⟨p', hp, e⟩ := ih q' z
      exact ⟨p', List.mem_cons_of_mem _ hp, e⟩
section
variable {X : Cx} {pins : List (Addr × Obj)} {σ : L2.St} {H : Hp} {s : Shared} {a b : Addr} {kvs : KX} {k : List Key} {v : V} {u r : Value} {A : Around} {E : Value → Shared → Prop}
theorem inv_key (I : Inv X pins σ H s) (h : SqT X.K H b (k.map kV)) : (tupleKind (mixKind X.prog X.w)).is s.heap k b := by
  obtain ⟨its, r, ⟨o, ho, hc, n, hd⟩, _⟩ := I.tuple h
  exact ⟨o, its.toArray, n, ho, hc, hd, by simpa using items_are r⟩
theorem dx_at (I : Inv X pins σ H s) (e : H a = some (DXO X.prog X.w a kvs)) (hk : KeysX X.K H kvs) : (a == sysModules) = false ∧ kvs.length ≤ sizeLine ∧ ∃ xs, XT kvs xs ∧ s.heap.DictOfH (tupleKind (mixKind X.prog X.w)) a xs := by
  obtain ⟨h1, h2, xs, h3, ⟨o, es, ep, h4, h5, h6, h7⟩, h8⟩ := id (show DX0 X.prog X.w a kvs s.heap from (I.hok a _ e).1)
  refine ⟨h1, h2, xs, h3, o, es, ep, h4, h5, h6, h7, fun q hq => ?_, h8⟩
  obtain ⟨p, hp, e1, e2⟩ := h3.mem q hq
  rw [← e1, ← e2]
  exact inv_key I (hk p hp)
theorem dx_in {Q : Value → Shared → Prop} (hu : A.units + 1 < cLine) (I : Inv X pins σ H s) (e : H a = some (DXO X.prog X.w a kvs)) (hk : KeysX X.K H kvs) (hb : SqT X.K H b (k.map kV)) (h : ∀ s', Inv X pins σ H s' → Q (.bool (getX kvs k).isSome) s') :
    wpAny (model X.prog X.w) A (compareOp .In (.ref b) (.ref a)) Q E s := by
  obtain ⟨hd, _, xs, rel, dd⟩ := dx_at I e hk
  refine wpAny_in_heap (tupleKind_room_in1 hu) (inv_key I hb) hd dd ?_
  have q := (rel.val k).isSome_eq
  rw [Option.isSome_map] at q
  rw [← q]
  exact h _ (I.tok _)
theorem dx_notIn {Q : Value → Shared → Prop} (hu : A.units + 1 < cLine) (I : Inv X pins σ H s) (e : H a = some (DXO X.prog X.w a kvs)) (hk : KeysX X.K H kvs) (hb : SqT X.K H b (k.map kV)) (h : ∀ s', Inv X pins σ H s' → Q (.bool (!(getX kvs k).isSome)) s') :
    wpAny (model X.prog X.w) A (compareOp .NotIn (.ref b) (.ref a)) Q E s := by
  obtain ⟨hd, _, xs, rel, dd⟩ := dx_at I e hk
  refine wpAny_notIn_heap (tupleKind_room_in1 hu) (inv_key I hb) hd dd ?_
  have q := (rel.val k).isSome_eq
  rw [Option.isSome_map] at q
  rw [← q]
  exact h _ (I.tok _)
theorem dx_get {Q : Value → Shared → Prop} (hu : A.units + 1 < cLine) (I : Inv X pins σ H s) (e : H a = some (DXO X.prog X.w a kvs)) (hk : KeysX X.K H kvs) (hb : SqT X.K H b (k.map kV)) (l : getX kvs k = some v)
    (h : ∀ w' s', Inv X pins σ H s' → RelV v w' → Q w' s') : wpAny (model X.prog X.w) A (getItem (.ref a) (.ref b)) Q E s := by
  obtain ⟨_, _, xs, rel, dd⟩ := dx_at I e hk
  obtain ⟨w', hw, rw'⟩ := RelO.some_of (v := v) (o := (atKey xs k).map (·.2)) (by rw [← l]; exact rel.val k)
  obtain ⟨p, hp, hp2⟩ := Option.map_eq_some_iff.mp hw
  refine wpAny_getItem_heap (tupleKind_room_in1 hu) (inv_key I hb) dd hp ?_
  rw [hp2]
  exact h w' _ (I.tok _) rw'
theorem dx_set {Q : Unit → Shared → Prop} (hu : A.units + 1 < cLine) (I : Inv X pins σ H s) (e : H a = some (DXO X.prog X.w a kvs)) (hk : KeysX X.K H kvs) (hb : SqT X.K H b (k.map kV)) (hl : kvs.length < sizeLine) (rv : RelV v r)
    (h : ∀ s', Inv X pins σ (upd H a (DXO X.prog X.w a (putX kvs k b v))) s' → Q () s') : wpAny (model X.prog X.w) A (setItem (.ref a) (.ref b) r) Q E s := by
  obtain ⟨hd, z, xs, rel, dd⟩ := dx_at I e hk
  have hz : xs.length ≤ sizeLine := by rw [← Paired.length rel]; exact z
  have hl' : (putX kvs k b v).length ≤ sizeLine := by have := putX_len kvs k b v; omega
  refine wpAny_setItem_heap (hsz := hz) (tupleKind_room_in1 hu) (inv_key I hb) dd fun h' dd' hs => h _ ?_
  obtain ⟨q, es, ep, hq, h2, h3, h4, _, h5⟩ := dd'
  exact d_write I (by rw [e]; exact True.intro) hs ⟨q, hq⟩ (dxo_new ⟨hd, hl', _, rel.put k rv, ⟨q, es, ep, hq, h2, h3, h4⟩, h5⟩)
end
/-- d[y] -/
def tXGet (P : Program) (w : World) (K : PySem.W.Frag) (td ty : TE) : TE := fun σ H Q => td σ H fun x H1 => ty σ H1 fun y H2 => ∃ a b kvs k v, x = .ref a ∧ y = .ref b ∧ H2 a = some (DXO P w a kvs) ∧ KeysX K H2 kvs ∧ SqT K H2 b (k.map kV) ∧ getX kvs k = some v ∧ Q v H2
def tXIn (P : Program) (w : World) (K : PySem.W.Frag) (ty td : TE) : TE := fun σ H Q => ty σ H fun y H1 => td σ H1 fun x H2 => ∃ a b kvs k, x = .ref a ∧ y = .ref b ∧ H2 a = some (DXO P w a kvs) ∧ KeysX K H2 kvs ∧ SqT K H2 b (k.map kV) ∧ Q (.bl (getX kvs k).isSome) H2
def tXNot (P : Program) (w : World) (K : PySem.W.Frag) (ty td : TE) : TE := fun σ H Q => ty σ H fun y H1 => td σ H1 fun x H2 => ∃ a b kvs k, x = .ref a ∧ y = .ref b ∧ H2 a = some (DXO P w a kvs) ∧ KeysX K H2 kvs ∧ SqT K H2 b (k.map kV) ∧ Q (.bl (!(getX kvs k).isSome)) H2
def sXPut (P : Program) (w : World) (K : PySem.W.Frag) (td ty tv : TE) : TS := fun D σ H => tv σ H fun v H1 => td σ H1 fun x H2 => ty σ H2 fun y H3 => ∃ a b kvs k, x = .ref a ∧ y = .ref b ∧ H3 a = some (DXO P w a kvs) ∧ KeysX K H3 kvs ∧ SqT K H3 b (k.map kV) ∧ kvs.length < sizeLine ∧
  D.nx σ (upd H3 a (DXO P w a (putX kvs k b v)))
def tXNew (P : Program) (w : World) : TE := fun _ H Q => ∀ p, H p = none → Q (.ref p) (upd H p (DXO P w p []))
section
variable {X : Cx} {o i e value : Expr} {pos pos' tpos : Pos} {td ty tv : TE}
theorem pe_xget {P : Program} {w : World} {K : PySem.W.Frag} (hu : X.A.units + 1 < cLine) (ho : PE X o td) (hi : PE X i ty) (hs : NoSl i) (hP : X.prog = P := by rfl) (hw : X.w = w := by rfl) (hK : X.K = K := by rfl) : PE X (.Subscript o i pos) (tXGet P w K td ty) := by
  subst hP hw hK
  refine ⟨fun pins s σ H Q I h => ?_⟩
  refine subD_of PySem.F.slot_dict_getitem.lookup hs (thn (ho.run pins s σ H _ I h) fun u s1 ⟨x, H1, I1, rx, q1⟩ => thn (hi.run pins s1 σ H1 _ I1 q1) fun iv s2 ⟨y, H2, I2, ry, a, b, kvs, k, v, ex, ey, g, gk, gb, gv, q2⟩ => ?_)
  subst ex ey
  obtain rfl : u = Value.ref a := rx
  obtain rfl : iv = Value.ref b := ry
  obtain ⟨_, _, xs, _, dd⟩ := dx_at I2 g gk
  exact ⟨dd.typeIs, dx_get hu I2 g gk gb gv fun w' s3 I3 rw' => ⟨v, H2, I3, rw', q2⟩⟩
theorem pe_xin {P : Program} {w : World} {K : PySem.W.Frag} (hu : X.A.units + 1 < cLine) (hi : PE X i ty) (ho : PE X o td) (hP : X.prog = P := by rfl) (hw : X.w = w := by rfl) (hK : X.K = K := by rfl) (h1 : behindInMarks .In o = false := by rfl) : PE X (.Compare i [.In] [o] pos) (tXIn P w K ty td) := by
  subst hP hw hK
  refine pe_cmp (h1 := h1) ⟨fun pins s σ H Q I h => ?_⟩
  refine thn (hi.run pins s σ H _ I h) fun iv s1 ⟨y, H1, I1, ry, q1⟩ => thn (ho.run pins s1 σ H1 _ I1 q1) fun u s2 ⟨x, H2, I2, rx, a, b, kvs, k, ex, ey, g, gk, gb, q2⟩ => ?_
  subst ex ey
  obtain rfl : u = Value.ref a := rx
  obtain rfl : iv = Value.ref b := ry
  exact dx_in hu I2 g gk gb fun s3 I3 => ⟨.bl (getX kvs k).isSome, H2, I3, rfl, q2⟩
theorem pe_xnot {P : Program} {w : World} {K : PySem.W.Frag} (hu : X.A.units + 1 < cLine) (hi : PE X i ty) (ho : PE X o td) (hP : X.prog = P := by rfl) (hw : X.w = w := by rfl) (hK : X.K = K := by rfl) (h1 : behindInMarks .NotIn o = false := by rfl) : PE X (.Compare i [.NotIn] [o] pos) (tXNot P w K ty td) := by
  subst hP hw hK
  refine pe_cmp (h1 := h1) ⟨fun pins s σ H Q I h => ?_⟩
  refine thn (hi.run pins s σ H _ I h) fun iv s1 ⟨y, H1, I1, ry, q1⟩ => thn (ho.run pins s1 σ H1 _ I1 q1) fun u s2 ⟨x, H2, I2, rx, a, b, kvs, k, ex, ey, g, gk, gb, q2⟩ => ?_
  subst ex ey
  obtain rfl : u = Value.ref a := rx
  obtain rfl : iv = Value.ref b := ry
  exact dx_notIn hu I2 g gk gb fun s3 I3 => ⟨.bl (!(getX kvs k).isSome), H2, I3, rfl, q2⟩
theorem pt_xin {P : Program} {w : World} {K : PySem.W.Frag} (hu : X.A.units + 1 < cLine) (hi : PE X i ty) (ho : PE X o td) (hP : X.prog = P := by rfl) (hw : X.w = w := by rfl) (hK : X.K = K := by rfl) (h1 : behindInMarks .In o = false := by rfl) : PT X (.Compare i [.In] [o] pos) (tB (tXIn P w K ty td)) := by
  subst hP hw hK
  refine pt_cmp (h1 := h1) ⟨fun pins s σ H Q I h => ?_⟩
  refine thn (hi.run pins s σ H _ I h) fun iv s1 ⟨y, H1, I1, ry, q1⟩ => thn (ho.run pins s1 σ H1 _ I1 q1) fun u s2 ⟨x, H2, I2, rx, a, b, kvs, k, ex, ey, g, gk, gb, q2⟩ => ?_
  subst ex ey
  obtain rfl : u = Value.ref a := rx
  obtain rfl : iv = Value.ref b := ry
  exact dx_in hu I2 g gk gb fun s3 I3 => ⟨.bl (getX kvs k).isSome, H2, I3, rfl, q2⟩
theorem pt_xnot {P : Program} {w : World} {K : PySem.W.Frag} (hu : X.A.units + 1 < cLine) (hi : PE X i ty) (ho : PE X o td) (hP : X.prog = P := by rfl) (hw : X.w = w := by rfl) (hK : X.K = K := by rfl) (h1 : behindInMarks .NotIn o = false := by rfl) : PT X (.Compare i [.NotIn] [o] pos) (tB (tXNot P w K ty td)) := by
  subst hP hw hK
  refine pt_cmp (h1 := h1) ⟨fun pins s σ H Q I h => ?_⟩
  refine thn (hi.run pins s σ H _ I h) fun iv s1 ⟨y, H1, I1, ry, q1⟩ => thn (ho.run pins s1 σ H1 _ I1 q1) fun u s2 ⟨x, H2, I2, rx, a, b, kvs, k, ex, ey, g, gk, gb, q2⟩ => ?_
  subst ex ey
  obtain rfl : u = Value.ref a := rx
  obtain rfl : iv = Value.ref b := ry
  exact dx_notIn hu I2 g gk gb fun s3 I3 => ⟨.bl (!(getX kvs k).isSome), H2, I3, rfl, q2⟩
theorem ps_xput {P : Program} {w : World} {K : PySem.W.Frag} (hu : X.A.units + 1 < cLine) (ho : PE X o td) (hi : PE X i ty) (hv : PE X value tv) (hs : swapsWith value (some (.Subscript o i pos')) pos.line X.env = pure false) (hP : X.prog = P := by rfl) (hw : X.w = w := by rfl) (hK : X.K = K := by rfl) :
    PS X (.Assign [.Subscript o i pos'] value pos) (sXPut P w K td ty tv) := by
  subst hP hw hK
  refine ⟨fun pins s σ H D I h => ?_⟩
  refine wpAny_Assign_Subscript (thn (hv.run pins s σ H _ I h) fun r s1 ⟨v, H1, I1, rv, q1⟩ => thn (ho.run pins s1 σ H1 _ I1 q1) fun u s2 ⟨x, H2, I2, rx, q2⟩ => thn (hi.run pins s2 σ H2 _ I2 q2) fun iv s3 ⟨y, H3, I3, ry, a, b, kvs, k, ex, ey, g, gk, gb, gl, q3⟩ => ?_) hs
  subst ex ey
  obtain rfl : u = Value.ref a := rx
  obtain rfl : iv = Value.ref b := ry
  exact dx_set hu I3 g gk gb gl rv fun s4 I4 => ⟨σ, _, I4, q3⟩
theorem pe_xnew {P : Program} {w : World} (hP : X.prog = P := by rfl) (hw : X.w = w := by rfl) : PE X (.Dict [] [] pos) (tXNew P w) := by
  subst hP hw
  exact ⟨fun pins s σ H Q I h =>
    wpAny_Dict_empty ⟨.ref s.heap.objs.size, _, I.laid (a := s.heap.objs.size) (o := DXO X.prog X.w s.heap.objs.size []) (t' := s.toks) (fun _ _ q => Heap.get?_push_of_some _ q) (Nat.le_refl _)
      (dxo_new ⟨beq_eq_false_iff_ne.mpr (Ne.symm (Nat.ne_of_lt I.big)), Nat.zero_le _, [], .nil, ⟨_, #[], 0, Heap.get?_push_size _ rfl, ⟨rfl, rfl, rfl⟩, rfl, rfl⟩, List.nodup_nil⟩), rfl, h _ (I.hok.fresh (Nat.le_refl _))⟩⟩
end
end Mini

namespace Mini
open PySem PySem.Spec L2 Evl PyProof.Rows

/-! ### lists and tuples of things of any type -/
inductive AllT : List Ty → List V → Hp → Prop where
  | nil {B} : AllT [] [] B
  | cons {P Ps v vs B} : P.p v B → AllT Ps vs B → AllT (P :: Ps) (v :: vs) B
theorem AllT.ext {Ps : List Ty} {vs : List V} {B B' : Hp} (e : Ex B B') (h : AllT Ps vs B) : AllT Ps vs B' := by
  induction h with
  | nil => exact .nil
  | @cons P Ps v vs B p _ ih => exact .cons (P.mono e p) (ih e)
theorem AllT.len {Ps : List Ty} {vs : List V} {B : Hp} (h : AllT Ps vs B) : vs.length = Ps.length := by
  induction h with
  | nil => rfl
  | cons _ _ ih => simp [ih]
theorem AllT.getV {Ps : List Ty} {vs : List V} {B : Hp} (h : AllT Ps vs B) : ∀ {i : Nat} {v : V}, vs[i]? = some v → ∃ P, Ps[i]? = some P ∧ P.p v B := by
  induction h with
  | nil => intro i v e; simp at e
  | @cons P Ps v vs B p _ ih =>
    intro i u e
    cases i with
    | zero => simp at e; subst e; exact ⟨P, rfl, p⟩
    | succ i => simpa using ih (by simpa using e)
def isTs (Ps : List Ty) : Ty := ⟨fun v B => ∃ a vs, v = .ref a ∧ B a = some (.tup vs) ∧ AllT Ps vs B, fun e ⟨a, vs, h1, h2, h3⟩ => ⟨a, vs, h1, e _ _ h2, h3.ext e⟩⟩
def isLs (Ps : List Ty) : Ty := ⟨fun v B => ∃ a vs, v = .ref a ∧ B a = some (.lst vs) ∧ AllT Ps vs B, fun e ⟨a, vs, h1, h2, h3⟩ => ⟨a, vs, h1, e _ _ h2, h3.ext e⟩⟩
theorem allT_D {B : Hp} : ∀ {ds : List PyData} {vs : List V}, DqAll B vs ds → AllT (ds.map isD) vs B
  | [], _, h => by cases h; exact .nil
  | d :: ds, _, h => by cases h with | cons a b => exact .cons a (allT_D b)
def TyLe (P P' : Ty) : Prop := ∀ v B, P.p v B → P'.p v B
theorem AllT.le {B : Hp} : ∀ {Ps Ps' : List Ty} {vs : List V}, AllT Ps vs B → Paired TyLe Ps Ps' → AllT Ps' vs B
  | [], _, _, h, g => by cases h; cases g; exact .nil
  | P :: Ps, _, _, h, g => by cases h with | cons a b => cases g with | cons c d => exact .cons (c _ _ a) (AllT.le b d)
theorem tyLe_tup {ds : List PyData} {Ps : List Ty} (h : Paired TyLe (ds.map isD) Ps) : TyLe (isD (.tuple ds)) (isTs Ps) := fun v B p => by
  cases (show Dq B v (.tuple ds) from p) with
  | tup hs ha => exact ⟨_, _, rfl, hs, (allT_D ha).le h⟩
theorem tyLe_lst {ds : List PyData} {Ps : List Ty} (h : Paired TyLe (ds.map isD) Ps) : TyLe (isD (.list ds)) (isLs Ps) := fun v B p => by
  cases (show Dq B v (.list ds) from p) with
  | lst hs ha => exact ⟨_, _, rfl, hs, (allT_D ha).le h⟩
theorem tyLe_D {d : PyData} : TyLe (isD d) (isD d) := fun _ _ h => h
theorem tyLe_P {K : PySem.W.Frag} {d : PyData} : TyLe (isD d) (isP K d) := fun v B p => Dq_K d v p
section
variable {K : PySem.W.Frag} {E : L2.St → XK} {G : Gm} {te ta tb tl td ty : TE} {tas : TA} {P P1 P2 P3 : Ty} {Ps : List Ty} {d e : PyData} {n N : Nat} {js1 js2 js3 : List Nat} {g1 g2 g3 : TG} {f1 f2 f3 : Gm → Gm}
theorem sv_le {P' : Ty} (h : Sv te G P) (l : TyLe P P') : Sv te G P' := fun M0 σ B M H Q q => h M0 σ B M H Q fun v B' e dj p => q v B' e dj (l v B' p)
theorem argsP : ∀ {Ps : List Ty} {vs : List V} {B M : Hp}, ArsOk (Ps.map Ar.im) vs B M → AllT Ps vs B
  | [], _, _, _, h => by cases h; exact .nil
  | P :: Ps, _, _, _, h => by cases h with | cons a b => exact .cons a (argsP b)
theorem sv_tupTs (h : Sa tas G (Ps.map .im)) (hz : Ps.length ≤ sizeLine) : Sv (tTup tas) G (isTs Ps) := fun M0 σ B M H Q q => h M0 σ B M H _ fun vs B1 e1 d1 p1 => by
  have a := argsP p1
  refine ⟨by rw [a.len]; exact hz, fun p hp => ?_⟩
  rw [upd_new hp]
  exact q _ _ (e1.trans (ex_new hp)) (dj_new d1 hp) ⟨p, vs, rfl, upd_same, a.ext (ex_new hp)⟩
theorem sv_lstLs (h : Sa tas G (Ps.map .im)) (hz : Ps.length ≤ sizeLine) : Sv (tLst tas) G (isLs Ps) := fun M0 σ B M H Q q => h M0 σ B M H _ fun vs B1 e1 d1 p1 => by
  have a := argsP p1
  refine ⟨by rw [a.len]; exact hz, fun p hp => ?_⟩
  rw [upd_new hp]
  exact q _ _ (e1.trans (ex_new hp)) (dj_new d1 hp) ⟨p, vs, rfl, upd_same, a.ext (ex_new hp)⟩
theorem tg_tups3 (h1 : Tg N js1 g1 P1 f1) (h2 : Tg N js2 g2 P2 f2) (h3 : Tg N js3 g3 P3 f3) (hf : ∀ G : Gm, (f1 G).length = G.length) (hf2 : ∀ G : Gm, (f2 G).length = G.length) : Tg N (js1 ++ (js2 ++ js3)) (gTup K 3 (gCons g1 (gCons g2 (gCons g3 gNil)))) (isTs [P1, P2, P3]) (fun G => f3 (f2 (f1 G))) := fun M0 G σ B M v hl H p Q q => by
  obtain ⟨a, vs, rfl, hh, q1⟩ := p
  cases q1 with
  | cons p1 q1 => cases q1 with
    | cons p2 q1 => cases q1 with
      | cons p3 q1 =>
        cases q1
        refine ⟨a, _, rfl, st_of (jn_B H.dj hh), rfl, _, _, rfl, ?_⟩
        refine h1 M0 G σ B M _ hl H p1 _ fun σ1 w1 H1 => ⟨_, _, rfl, ?_⟩
        refine h2 M0 (f1 G) σ1 B M _ (by rw [hf]; exact hl) H1 p2 _ fun σ2 w2 H2 => ⟨_, _, rfl, ?_⟩
        refine h3 M0 (f2 (f1 G)) σ2 B M _ (by rw [hf2, hf]; exact hl) H2 p3 _ fun σ3 w3 H3 => ⟨rfl, ?_⟩
        exact q σ3 (fun vs h => ((w3 vs fun j hj => h j (List.mem_append.mpr (.inr (List.mem_append.mpr (.inr hj))))).trans (w2 vs fun j hj => h j (List.mem_append.mpr (.inr (List.mem_append.mpr (.inl hj)))))).trans (w1 vs fun j hj => h j (List.mem_append.mpr (.inl hj)))) H3
end
/-! ### equality with the module's data -/
theorem DqK_dp {K : PySem.W.Frag} {B M : Hp} (dj : Dj B M) : ∀ (d : PyData) (v : V), DqK K B v d → Dp K (jn B M) v d
  | .none, _, h => by cases h; exact .non
  | .bool b, _, h => by cases h; exact .bl b
  | .int i, _, h => by cases h; exact .int i
  | .str x, _, h => by cases h; exact .str x
  | .list ds, _, h => by
    cases h with
    | lst hs ha => exact .lst (sq_of (jn_B dj hs)) (go dj ds _ ha)
  | .tuple ds, _, h => by
    cases h with
    | tup hs ha => exact .tup (jn_st dj hs) (go dj ds _ ha)
  | .dict _, _, h => by cases h
where
  go {K : PySem.W.Frag} {B M : Hp} (dj : Dj B M) : ∀ (ds : List PyData) (vs : List V), DqKA K B vs ds → DpAll K (jn B M) vs ds
  | [], _, h => by cases h; exact .nil
  | d :: ds, _, h => by
    cases h with
    | cons a b => exact .cons (DqK_dp dj d _ a) (go dj ds _ b)
section
variable {K : PySem.W.Frag} {G : Gm} {ta tb : TE} {d e : PyData}
theorem sv_eqP (ha : Sv ta G (isP K d)) (hb : Sv tb G (isP K e)) (h1 : SeqAt.shaped d = true) (h2 : SeqAt.shaped e = true) : Sv (tOp (rEqD K) ta tb) G (isD (.bool (PyData.eqv d e))) := fun M0 σ B M H Q q =>
  ha M0 σ B M H _ fun x B1 e1 d1 p1 => hb M0 σ B1 M (H.ext e1 d1) _ fun y B2 e2 d2 p2 =>
    ⟨d, e, DqK_dp d2 d x (DqK_ex e2 d x p1), DqK_dp d2 e y p2, h1, h2, q _ B2 (e1.trans e2) d2 (.bl _)⟩
theorem sv_neP (ha : Sv ta G (isP K d)) (hb : Sv tb G (isP K e)) (h1 : SeqAt.shaped d = true) (h2 : SeqAt.shaped e = true) : Sv (tOp (rNeD K) ta tb) G (isD (.bool (!PyData.eqv d e))) := fun M0 σ B M H Q q =>
  ha M0 σ B M H _ fun x B1 e1 d1 p1 => hb M0 σ B1 M (H.ext e1 d1) _ fun y B2 e2 d2 p2 =>
    ⟨d, e, DqK_dp d2 d x (DqK_ex e2 d x p1), DqK_dp d2 e y p2, h1, h2, q _ B2 (e1.trans e2) d2 (.bl _)⟩
end
/-! ### a dict with tuple keys that one owns or is shown -/
def keyT (k : List Key) : PyData := .tuple (k.map keyD)
theorem keyT_dq {K : PySem.W.Frag} {B : Hp} {v : V} {k : List Key} (h : DqK K B v (keyT k)) : ∃ b, v = .ref b ∧ (B b = some (.tup (k.map kV)) ∨ KT K b (k.map kV)) := by
  cases h with
  | @tup a xs _ hs ha =>
    have e : ∀ {ks : List Key} {xs : List V}, DqKA K B xs (ks.map keyD) → xs = ks.map kV := fun {ks} => by
      induction ks with
      | nil => intro xs h; cases h; rfl
      | cons k ks ih =>
        intro xs h
        cases h with
        | cons a b =>
          rw [ih b]
          cases k with
          | inl i => cases a; rfl
          | inr s => cases a; rfl
    obtain rfl := e ha
    exact ⟨a, rfl, hs⟩
def dXo (P : Program) (w : World) (K : PySem.W.Frag) (n : Nat) (ks : List (List Key)) (f : List Key → PyData) : Ow :=
  ⟨fun a o B => ∃ kvs, o = DXO P w a kvs ∧ kvs.length ≤ n ∧ (∀ p ∈ kvs, (B p.2.1 = some (.tup (p.1.map kV)) ∨ KT K p.2.1 (p.1.map kV)) ∧ Dq B p.2.2 (f p.1)) ∧ ∀ k, (getX kvs k).isSome = true ↔ k ∈ ks,
   fun e ⟨kvs, h1, h2, h3, h4⟩ => ⟨kvs, h1, h2, fun p hp => ⟨(h3 p hp).1.imp (e _ _) id, Dq_ex e _ _ (h3 p hp).2⟩, h4⟩⟩
theorem getX_mem {kvs : KX} {k : List Key} {v : V} (h : getX kvs k = some v) : ∃ p ∈ kvs, p.1 = k ∧ p.2.2 = v := by
  unfold getX at h
  obtain ⟨p, hp, e⟩ := Option.map_eq_some_iff.mp h
  have z := List.find?_some hp
  exact ⟨p, List.mem_of_find?_eq_some hp, of_decide_eq_true z, e⟩
theorem getX_iff {kvs : KX} {k : List Key} : (getX kvs k).isSome = true ↔ k ∈ kvs.map (·.1) := by
  unfold getX
  rw [Option.isSome_map, List.find?_isSome]
  constructor
  · rintro ⟨p, hp, e⟩; exact List.mem_map.mpr ⟨p, hp, of_decide_eq_true e⟩
  · intro h; obtain ⟨p, hp, e⟩ := List.mem_map.mp h; exact ⟨p, hp, decide_eq_true e⟩
theorem putX_iff {kvs : KX} {k j : List Key} {b : Addr} {v : V} : (getX (putX kvs k b v) j).isSome = true ↔ j = k ∨ (getX kvs j).isSome = true := by
  rw [getX_iff, getX_iff]
  unfold putX
  split
  · rename_i h
    rw [getX_iff] at h
    rw [List.map_map]
    have e : (kvs.map ((fun p : List Key × Addr × V => p.1) ∘ fun p => if p.1 = k then (p.1, p.2.1, v) else p)) = kvs.map (·.1) := List.map_congr_left fun p _ => by
      show (if p.1 = k then (p.1, p.2.1, v) else p).1 = p.1
      split <;> rfl
    rw [e]
    constructor
    · exact .inr
    · rintro (rfl | z)
      · exact h
      · exact z
  · rw [List.map_append, List.mem_append]
    constructor
    · rintro (z | z)
      · exact .inr z
      · exact .inl (List.mem_singleton.mp z)
    · rintro (z | z)
      · exact .inr (List.mem_singleton.mpr z)
      · exact .inl z
theorem putX_mem {kvs : KX} {k : List Key} {b : Addr} {v : V} {p : List Key × Addr × V} (h : p ∈ putX kvs k b v) : p ∈ kvs ∨ (p.1 = k ∧ p.2.2 = v ∧ (p.2.1 = b ∨ ∃ q ∈ kvs, q.1 = k ∧ q.2.1 = p.2.1)) := by
  unfold putX at h
  split at h
  · obtain ⟨q, hq, e⟩ := List.mem_map.mp h
    split at e
    · rename_i z
      subst e
      exact .inr ⟨z, rfl, .inr ⟨q, hq, z, rfl⟩⟩
    · subst e; exact .inl hq
  · rcases List.mem_append.mp h with z | z
    · exact .inl z
    · rw [List.mem_singleton] at z
      subst z
      exact .inr ⟨rfl, rfl, .inl rfl⟩
theorem dXo_put {P : Program} {w : World} {K : PySem.W.Frag} {n : Nat} {ks : List (List Key)} {f : List Key → PyData} {a b : Addr} {B : Hp} {kvs : KX} {k : List Key} {v : V}
    (h2 : kvs.length ≤ n) (h3 : ∀ p ∈ kvs, (B p.2.1 = some (.tup (p.1.map kV)) ∨ KT K p.2.1 (p.1.map kV)) ∧ Dq B p.2.2 (f p.1)) (h4 : ∀ k, (getX kvs k).isSome = true ↔ k ∈ ks) (hb : B b = some (.tup (k.map kV)) ∨ KT K b (k.map kV)) (hv : Dq B v (f k)) :
    (dXo P w K (n + 1) (k :: ks) f).r a (DXO P w a (putX kvs k b v)) B := by
  refine ⟨_, rfl, by have := putX_len kvs k b v; omega, fun p hp => ?_, fun j => ?_⟩
  · rcases putX_mem hp with z | ⟨z1, z2, z3⟩
    · exact h3 p z
    · refine ⟨?_, by rw [z1, z2]; exact hv⟩
      rw [z1]
      rcases z3 with z | ⟨q, hq, e1, e2⟩
      · rw [z]; exact hb
      · rw [← e2, ← e1]; exact (h3 q hq).1
  · rw [putX_iff, h4 j, List.mem_cons]
def memX (ks : List (List Key)) (k : List Key) : Bool := ks.any fun j => decide (j = k)
theorem memX_iff {ks : List (List Key)} {k : List Key} : memX ks k = true ↔ k ∈ ks := by
  unfold memX
  rw [List.any_eq_true]
  constructor
  · rintro ⟨j, hj, e⟩; rw [← of_decide_eq_true e]; exact hj
  · intro h; exact ⟨k, h, decide_eq_true rfl⟩
theorem memX_of {ks : List (List Key)} {k : List Key} {b : Bool} (h : b = true ↔ k ∈ ks) : b = memX ks k := by
  cases b with
  | true => exact (memX_iff.mpr (h.mp rfl)).symm
  | false =>
    cases z : memX ks k with
    | true => exact absurd (h.mpr (memX_iff.mp z)) Bool.false_ne_true
    | false => rfl
/-- td is a dict -/
def Rx (td : TE) (G : Gm) (R : Ow) : Prop := ∀ (M0 : Hp) (σ : L2.St) (B M : Hp), Holds M0 G σ B M → ∀ Q : VK, (∀ a o, M a = some o → R.r a o B → Q (.ref a) (jn B M)) → td σ (jn B M) Q
section
variable {P : Program} {w : World} {K : PySem.W.Frag} {E : L2.St → XK} {G : Gm} {td ty tv : TE} {n m : Nat} {ks : List (List Key)} {f : List Key → PyData} {k : List Key} {R : Ow}
theorem rx_ow (h : G[n]? = some (.ow R)) : Rx (tVar n) G R := fun M0 σ B M H Q q => by
  obtain ⟨l, o, a, b, c, _⟩ := H.ow n _ h
  exact ⟨_, a, q l o b c⟩
theorem rx_bw (h : G[n]? = some (.bw R)) : Rx (tVar n) G R := fun M0 σ B M H Q q => by
  obtain ⟨l, o, a, b, c⟩ := H.bw n _ h
  exact ⟨_, a, q l o (H.cal _ _ b) c⟩
theorem keysX_of {B M : Hp} {kvs : KX} (dj : Dj B M) (h3 : ∀ p ∈ kvs, (B p.2.1 = some (.tup (p.1.map kV)) ∨ KT K p.2.1 (p.1.map kV)) ∧ Dq B p.2.2 (f p.1)) : KeysX K (jn B M) kvs := fun p hp => jn_st dj (h3 p hp).1
theorem sv_xin (hk : Sv ty G (isP K (keyT k))) (hd : Rx td G (dXo P w K m ks f)) : Sv (tXIn P w K ty td) G (isD (.bool (memX ks k))) := fun M0 σ B M H Q q =>
  hk M0 σ B M H _ fun y B1 e1 d1 p1 => hd M0 σ B1 M (H.ext e1 d1) _ fun a o ho hr => by
    obtain ⟨b, rfl, hb⟩ := keyT_dq p1
    obtain ⟨kvs, rfl, h2, h3, h4⟩ := hr
    refine ⟨a, b, kvs, k, rfl, rfl, jn_M ho, keysX_of d1 h3, jn_st d1 hb, ?_⟩
    have e : (getX kvs k).isSome = memX ks k := memX_of (h4 k)
    rw [e]
    exact q _ B1 e1 d1 (.bl _)
theorem sv_xnot (hk : Sv ty G (isP K (keyT k))) (hd : Rx td G (dXo P w K m ks f)) : Sv (tXNot P w K ty td) G (isD (.bool (!memX ks k))) := fun M0 σ B M H Q q =>
  hk M0 σ B M H _ fun y B1 e1 d1 p1 => hd M0 σ B1 M (H.ext e1 d1) _ fun a o ho hr => by
    obtain ⟨b, rfl, hb⟩ := keyT_dq p1
    obtain ⟨kvs, rfl, h2, h3, h4⟩ := hr
    refine ⟨a, b, kvs, k, rfl, rfl, jn_M ho, keysX_of d1 h3, jn_st d1 hb, ?_⟩
    have e : (getX kvs k).isSome = memX ks k := memX_of (h4 k)
    rw [e]
    exact q _ B1 e1 d1 (.bl _)
theorem sv_xget (hd : Rx td G (dXo P w K m ks f)) (hk : Sv ty G (isP K (keyT k))) (hm : k ∈ ks) : Sv (tXGet P w K td ty) G (isD (f k)) := fun M0 σ B M H Q q =>
  hd M0 σ B M H _ fun a o ho hr => hk M0 σ B M H _ fun y B1 e1 d1 p1 => by
    obtain ⟨b, rfl, hb⟩ := keyT_dq p1
    obtain ⟨kvs, rfl, h2, h3, h4⟩ := hr
    obtain ⟨v, hv⟩ := Option.isSome_iff_exists.mp ((h4 k).mpr hm)
    obtain ⟨p, hp, e2, e3⟩ := getX_mem hv
    refine ⟨a, b, kvs, k, v, rfl, rfl, jn_M ho, keysX_of (f := f) d1 (fun p hp => ⟨(h3 p hp).1.imp (e1 _ _) id, Dq_ex e1 _ _ (h3 p hp).2⟩), jn_st d1 hb, hv, ?_⟩
    refine q _ B1 e1 d1 ?_
    have := Dq_ex e1 _ _ (h3 p hp).2
    rw [e2, e3] at this
    exact this
/-- d[y] = v, d one's own -/
theorem ss_xput (h : G[n]? = some (.ow (dXo P w K m ks f))) (hv : Sv tv G (isD (f k))) (hk : Sv ty G (isP K (keyT k))) (hm : m < sizeLine) : Ss E (sXPut P w K (tVar n) ty tv) G (.nx (G.set n (.ow (dXo P w K (m + 1) (k :: ks) f)))) := fun M0 D σ B M H q =>
  hv M0 σ B M H _ fun v B1 e1 d1 p1 => by
    have H1 := H.ext e1 d1
    obtain ⟨l, o, a, c, _, _⟩ := H1.ow n _ h
    refine ⟨.ref l, a, ?_⟩
    refine hk M0 σ B1 M H1 _ fun y B2 e2 d2 p2 => ?_
    have H2 := H1.ext e2 d2
    obtain ⟨l', o', a', c', ⟨kvs, rfl, h2, h3, h4⟩, _⟩ := H2.ow n _ h
    obtain rfl : l = l' := by rw [a] at a'; cases a'; rfl
    obtain ⟨b, rfl, hb⟩ := keyT_dq p2
    refine ⟨l, b, kvs, k, rfl, rfl, jn_M c', keysX_of d2 h3, jn_st d2 hb, by omega, ?_⟩
    rw [upd_own]
    exact q σ B2 _ (e1.trans e2) (H2.change h a' c' (dXo_put h2 h3 h4 hb (Dq_ex e2 _ _ p1)))
/-- y = {} -/
theorem ss_xnew (f : List Key → PyData) (hn : n < G.length := by exact Nat.le_of_ble_eq_true rfl) : Ss E (tAsg (tXNew P w) (gName n)) G (.nx (G.set n (.ow (dXo P w K 0 [] f)))) := fun M0 D σ B M H q p hf => by
  rw [upd_own]
  exact q _ B _ (Ex.refl B) (H.setOw hn hf ⟨[], rfl, Nat.le_refl _, ⟨fun p hp => absurd hp List.not_mem_nil, fun k => ⟨fun z => absurd z (by simp [getX]), fun z => absurd z List.not_mem_nil⟩⟩⟩)
end
end Mini

namespace Mini
open PySem PySem.Spec L2 Evl PyProof.Rows

/-! ### from statements over ghosts to plain ones -/
section
variable {E : XK} {ts tu : TS} {G G' : Gm} {X X1 : Gx} {P : Ty} {C : Addr} {R : Ow} {n : Nat} {p : Addr}
theorem gok_nil {M0 B M : Hp} {σ : L2.St} : GOk [] M0 G σ B M := { nd := List.nodup_nil, m0 := fun x h => absurd h List.not_mem_nil, ob := fun x h => absurd h List.not_mem_nil, ns := fun x h => absurd h List.not_mem_nil }
theorem ss_sgRt (h : Sg E ts G [] (.rt P X)) : Ss (fun _ => E) ts G (.rt P) := fun M0 D σ B M H q => h M0 D σ B M H gok_nil fun v B' M' e d c p _ => q v B' M' e d c p
theorem rep_no {m i : Nat} {S : Sl} (h : (List.replicate m Sl.no)[i]? = some S) : S = .no := List.eq_of_mem_replicate (List.mem_of_getElem? h)
theorem ss_sgBad (h : Sg E ts G [] (.bad C X)) : Ss (fun _ => E) ts G (.bad C (List.replicate G.length .no)) := fun M0 D σ B M H q => h M0 D σ B M H gok_nil fun B' M' e d c _ =>
  q σ B' M' e ⟨by rw [List.length_replicate]; exact H.len, d, c, fun i P z => absurd (rep_no z) (fun w => by cases w), fun i R z => absurd (rep_no z) (fun w => by cases w), fun i R z => absurd (rep_no z) (fun w => by cases w), fun i j R R' l z => absurd (rep_no z) (fun w => by cases w)⟩
/-! ### a ghost seen through its slot -/
def atO (p : Addr) (R : Ow) : Ow := ⟨fun a o B => a = p ∧ R.r a o B, fun e ⟨h1, h2⟩ => ⟨h1, R.mono e h2⟩⟩
theorem GOk.viewA {M0 B M : Hp} {σ : L2.St} (g : GOk X M0 G σ B M) (H : Holds M0 G σ B M) (hn : G[n]? = some (.im (isV (.ref p)))) (hx : (p, R) ∈ X) : Holds (Mini.fr X M0 M) (G.set n (.bw (atO p R))) σ B M := by
  have F := g.view H hn hx
  have hlt := (List.getElem?_eq_some_iff.mp hn).1
  obtain ⟨v, h1, h2⟩ := H.im n _ hn
  obtain rfl : v = .ref p := h2
  have old : ∀ {i : Nat} {S : Sl}, i ≠ n → (G.set n (.bw (atO p R)))[i]? = some S → (G.set n (.bw R))[i]? = some S := fun {i S} z q => by
    rw [List.getElem?_set_ne (Ne.symm z)] at q ⊢; exact q
  have at' : ∀ {i : Nat} {S : Sl}, (G.set n (.bw (atO p R)))[i]? = some S → (i = n ∧ S = .bw (atO p R)) ∨ (i ≠ n ∧ (G.set n (.bw R))[i]? = some S) := fun {i S} q => by
    by_cases z : i = n
    · subst z; rw [List.getElem?_set_self hlt] at q; cases q; exact .inl ⟨rfl, rfl⟩
    · exact .inr ⟨z, old z q⟩
  refine ⟨by have := F.len; simpa using this, F.dj, F.cal, fun i P q => ?_, fun i R' q => ?_, fun i R' q => ?_, fun i j R1 R2 l q1 q2 s1 s2 => ?_⟩
  · rcases at' q with ⟨_, z⟩ | ⟨_, z⟩
    · cases z
    · exact F.im i P z
  · rcases at' q with ⟨_, z⟩ | ⟨_, z⟩
    · cases z
    · exact F.ow i R' z
  · rcases at' q with ⟨rfl, z⟩ | ⟨_, z⟩
    · cases z
      obtain ⟨l, o, a, b, c⟩ := F.bw i R (List.getElem?_set_self hlt)
      rw [h1] at a
      cases a
      exact ⟨p, o, h1, b, rfl, c⟩
    · exact F.bw i R' z
  · rcases at' q1 with ⟨_, z⟩ | ⟨_, z1⟩
    · cases z
    · rcases at' q2 with ⟨_, z⟩ | ⟨_, z2⟩
      · cases z
      · exact F.ne i j R1 R2 l z1 z2 s1 s2
/-- a statement that reads a ghost -/
theorem sg_nxV (hn : G[n]? = some (.im (isV (.ref p)))) (hx : (p, R) ∈ X) (h : Ss (fun _ => E) ts (G.set n (.bw (atO p R))) (.nx (G'.set n (.bw (atO p R))))) (hn' : G'[n]? = some (.im (isV (.ref p)))) (nb : noBwB G' = true) : Sg E ts G X (.nx G' X) := fun M0 D σ B M H g q =>
  h _ D σ B M (g.viewA H hn hx) fun σ' B' M' e H' => by
    have hlt := (List.getElem?_eq_some_iff.mp hn').1
    obtain ⟨l, o, a, b, rfl, c⟩ := H'.bw n _ (List.getElem?_set_self hlt)
    have F : Holds (Mini.fr X M0 M) G' σ' B' M' := by
      refine ⟨by have := H'.len; simpa using this, H'.dj, H'.cal, fun i P z => ?_, fun i R' z => ?_, fun i R' z => ?_, fun i j R1 R2 l z1 z2 => ?_⟩
      · by_cases w : i = n
        · subst w
          rw [hn'] at z
          cases z
          exact ⟨_, a, rfl⟩
        · exact H'.im i P (by rw [List.getElem?_set_ne (Ne.symm w)]; exact z)
      · by_cases w : i = n
        · subst w; rw [hn'] at z; cases z
        · exact H'.ow i R' (by rw [List.getElem?_set_ne (Ne.symm w)]; exact z)
      · exact absurd z (noBw_of nb i R')
      · have w1 : i ≠ n := fun w => by subst w; rw [hn'] at z1; cases z1
        have w2 : j ≠ n := fun w => by subst w; rw [hn'] at z2; cases z2
        exact H'.ne i j R1 R2 l (by rw [List.getElem?_set_ne (Ne.symm w1)]; exact z1) (by rw [List.getElem?_set_ne (Ne.symm w2)]; exact z2)
    obtain ⟨r1, r2⟩ := g.toXOk.unfr e F (noBw_of nb)
    exact q σ' B' M' e r1 r2
end
/-! ### ghost dicts -/
section
variable {P : Program} {w : World} {K : PySem.W.Frag} {E : XK} {ts tu : TS} {ty tv : TE} {G G' : Gm} {X : Gx} {o : Og} {n m : Nat} {p : Addr} {ks : List (List Key)} {f : List Key → PyData} {k : List Key}
theorem sg_new1 {te : TE} {R : Ow} (h : ∀ (M0 : Hp) (σ : L2.St) (B M : Hp), Holds M0 G σ B M → ∀ Q : VK, (∀ p o B', Ex B B' → Dj B' M → jn B' M p = none → R.r p o B' → Q (.ref p) (upd (jn B' M) p o)) → te σ (jn B M) Q) (hn : n < G.length)
    (k : ∀ p, Sg E tu (G.set n (.im (isV (.ref p)))) ((p, R) :: X) o) : Sg E (tSeq (tAsg te (gName n)) tu) G X o := fun M0 D σ B M H g q =>
  h M0 σ B M H _ fun p ob B' e d hf hv => by
    have hB := (jn_free hf).1
    have hM := (jn_free hf).2
    have hx : p ∉ X.map (·.1) := fun z => by
      obtain ⟨x, hx, e⟩ := List.mem_map.mp z
      obtain ⟨o, h1, _⟩ := g.ob x hx
      rw [e, hM] at h1; cases h1
    rw [upd_own]
    have H1 := ((H.ext e d).more (p := p) (o := ob) hf).setIm (n := n) (v := .ref p) (P := isV (.ref p)) hn rfl
    have d1 : Dj B' (upd M p ob) := dj_own d hB
    refine k p M0 D _ B' _ H1 ?_ (q.ext e)
    have g1 := (g.ext e).set n (isV (.ref p)) (.ref p)
    have hM0 : M0 p = none := by
      cases z : M0 p with
      | none => rfl
      | some u => have := H.cal p u z; rw [hM] at this; cases this
    refine { nd := by rw [List.map_cons]; exact List.nodup_cons.mpr ⟨hx, g.nd⟩, m0 := fun x hx' => ?_, ob := fun x hx' => ?_, ns := fun x hx' i R z => ?_ }
    · rcases List.mem_cons.mp hx' with rfl | z
      · exact hM0
      · exact g.m0 x z
    · rcases List.mem_cons.mp hx' with rfl | z
      · exact ⟨_, upd_same, hv⟩
      · obtain ⟨o, h1, h2⟩ := g1.ob x z
        have ne : x.1 ≠ p := fun z' => hx (z' ▸ List.mem_map.mpr ⟨x, z, rfl⟩)
        exact ⟨o, by rw [upd_ne ne]; exact h1, h2⟩
    · rcases List.mem_cons.mp hx' with rfl | z'
      · intro s
        obtain ⟨l, o, a, b, c, f⟩ := ((H.ext e d).setIm (n := n) (v := .ref p) (P := isV (.ref p)) hn rfl).ow i R z
        rw [a] at s
        cases s
        rw [hM] at b; cases b
      · exact g1.ns x z' i R z
theorem sg_xnew (f : List Key → PyData) (hn : n < G.length) (k : ∀ p, Sg E tu (G.set n (.im (isV (.ref p)))) ((p, dXo P w K 0 [] f) :: X) o) : Sg E (tSeq (tAsg (tXNew P w) (gName n)) tu) G X o :=
  sg_new1 (R := dXo P w K 0 [] f) (fun M0 σ B M H Q q p hf => q p _ B (Ex.refl B) H.dj hf ⟨[], rfl, Nat.le_refl _, ⟨fun p hp => absurd hp List.not_mem_nil, fun k => ⟨fun z => absurd z (by simp [getX]), fun z => absurd z List.not_mem_nil⟩⟩⟩) hn k
theorem sg_xput (hl : G[n]? = some (.im (isV (.ref p)))) (hv : Sv tv G (isD (f k))) (hk : Sv ty G (isP K (keyT k))) (hm : m < sizeLine) :
    Sg E (sXPut P w K (tVar n) ty tv) G ((p, dXo P w K m ks f) :: X) (.nx G ((p, dXo P w K (m + 1) (k :: ks) f) :: X)) := fun M0 D σ B M H g q =>
  hv M0 σ B M H _ fun v B1 e1 d1 p1 => by
    have H1 := H.ext e1 d1
    obtain ⟨u, a, b⟩ := H1.im n _ hl
    obtain rfl : u = .ref p := b
    refine ⟨.ref p, a, ?_⟩
    refine hk M0 σ B1 M H1 _ fun y B2 e2 d2 p2 => ?_
    have H2 := H1.ext e2 d2
    have g2 := (g.ext e1).ext e2
    obtain ⟨ob, h1, kvs, rfl, h2, h3, h4⟩ := g2.ob _ (List.mem_cons_self ..)
    obtain ⟨b, rfl, hb⟩ := keyT_dq p2
    refine ⟨p, b, kvs, k, rfl, rfl, jn_M h1, keysX_of d2 h3, jn_st d2 hb, by omega, ?_⟩
    rw [upd_own]
    obtain ⟨r1, r2⟩ := GOk.after (X1 := [(p, dXo P w K m ks f)]) (X2 := X) (Y := [(p, dXo P w K (m + 1) (k :: ks) f)]) (ad := [p]) (B' := B2) (M' := upd M p (DXO P w p (putX kvs k b v))) H2 g2 rfl rfl (Ex.refl _) (fun a u z => by
      by_cases w : a = p
      · have := d2 a u z
        rw [w] at this
        rw [show M p = some (DXO P _ p kvs) from h1] at this
        cases this
      · rw [upd_ne w]; exact d2 a u z) (fun a w => upd_ne (fun z => w (by rw [z]; exact List.mem_singleton.mpr rfl))) (fun y' hy' => by
      rw [List.mem_singleton] at hy'
      subst hy'
      exact ⟨_, upd_same, dXo_put h2 h3 h4 hb (Dq_ex e2 _ _ p1)⟩)
    exact q σ B2 _ (e1.trans e2) r1 r2
end
/-! ### loops -/
section
variable {K : PySem.W.Frag} {E : XK} {X : Gx} {G : Gm} {tu : TS} {te tl : TE} {o : Og} {j nn : Nat} {n : Int} {js : List Nat} {g : TG} {Ps : List Ty}
/-- over range(n) -/
theorem sg_forR (h : Sv te G (isD (.int n))) (hn : n ≤ 2 ^ 60) (Gi : Nat → Gm) (Xi : Nat → Gx) (N : Nat) (hN : N ≤ n.toNat) (h0 : G = Gi 0) (x0 : X = Xi 0) (hj : ∀ i, i ≤ N → j < (Gi i).length)
    (hs : ∀ i : Nat, i < N → Sg E tu ((Gi i).set j (.im (isD (.int (i : Int))))) (Xi i) (.nx (Gi (i + 1)) (Xi (i + 1)))) (hd : (N = n.toNat ∧ o = .nx (Gi N) (Xi N)) ∨ (N < n.toNat ∧ o.leaves ∧ Sg E tu ((Gi N).set j (.im (isD (.int (N : Int))))) (Xi N) o))
    (hlo : -(2 ^ 60) ≤ n := by first | omega | decide) : Sg E (tFor (iRng1 (tCons te tNil)) (gName j) tu) G X o := fun M0 D σ B M H g q => by
  subst h0
  subst x0
  exact h M0 σ B M H _ fun v B1 e1 d1 p1 => ⟨n, by rw [dp_int p1], by omega, by omega, by
    refine for_range (lo := 0) (n := n.toNat) (Pvg M0 B1 Gi Xi N) ⟨Nat.zero_le _, B1, M, rfl, Ex.refl _, H.ext e1 d1, g.ext e1⟩ (fun i σ' H' hi p => ?_) (fun σ' H' p => ?_)
    · obtain ⟨hiN, B', M', rfl, e, H', g'⟩ := p
      have e0 : (0 : Int) + (i : Int) = (i : Int) := Int.zero_add _
      show tu _ (σ'.set j (some (.int ((0 : Int) + (i : Int))))) _
      rw [e0]
      refine turn_okG (o := o) hiN (H'.setIm (hj i hiN) (P := isD (.int _)) (Dq.int _)) (g'.set j _ _) e (fun l => hs i l) (fun l => ?_) (q.ext e1)
      rcases hd with ⟨a, _⟩ | ⟨_, l', b⟩
      · omega
      · rw [l]; exact ⟨l', b⟩
    · obtain ⟨hiN, B', M', rfl, e, H', g'⟩ := p
      rcases hd with ⟨a, b⟩ | ⟨a, _⟩
      · rw [b] at q
        rw [← a] at H' g'
        exact q σ' B' M' (e1.trans e) H' g'
      · omega⟩
/-- over a list of things of any type, any target -/
theorem sg_forLs (h : Sv tl G (isLs Ps)) (fd : Nat → Gm → Gm) (Gi : Nat → Gm) (Xi : Nat → Gx) (N : Nat) (hN : N ≤ Ps.length) (h0 : G = Gi 0) (x0 : X = Xi 0) (hj : ∀ i, i ≤ N → (Gi i).length = nn) (hg : ∀ i P, Ps[i]? = some P → Tg nn js g P (fd i)) (nb : ∀ i, i ≤ N → noBwB (fd i (Gi i)) = true)
    (hs : ∀ i, i < N → Sg E tu (fd i (Gi i)) (Xi i) (.nx (Gi (i + 1)) (Xi (i + 1)))) (hd : (N = Ps.length ∧ o = .nx (Gi N) (Xi N)) ∨ (N < Ps.length ∧ o.leaves ∧ Sg E tu (fd N (Gi N)) (Xi N) o)) :
    Sg E (tFor (iList K tl) g tu) G X o := fun M0 D σ B M H g' q => by
  subst h0
  subst x0
  exact h M0 σ B M H _ fun v B1 e1 d1 p1 => by
    obtain ⟨a, vs, rfl, ha, hv⟩ := p1
    have hlen := hv.len
    refine ⟨a, rfl, ⟨vs, sq_of (jn_B d1 ha)⟩, ?_⟩
    refine for_list (xs := vs) (Pvg M0 B1 Gi Xi N) ⟨Nat.zero_le _, B1, M, rfl, Ex.refl B1, H.ext e1 d1, g'.ext e1⟩ (fun i σ' H' _ p => ?_) (fun i x σ' H' hx p => ?_) (fun σ' H' p => ?_)
    · obtain ⟨_, B', M', rfl, e, H', _⟩ := p
      exact sq_of (jn_B H'.dj (e _ _ ha))
    · obtain ⟨hiN, B', M', rfl, e, H', g2⟩ := p
      obtain ⟨P, hP, px⟩ := hv.getV hx
      refine hg i P hP _ (Gi i) σ' B' M' x (hj i hiN) (g2.fr H') (P.mono e px) _ fun σ2 _ H2 => ?_
      obtain ⟨r1, r2⟩ := g2.toXOk.unfr (Ex.refl _) H2 (noBw_of (nb i hiN))
      refine turn_okG (o := o) hiN r1 r2 e (fun l => hs i l) (fun l => ?_) (q.ext e1)
      rcases hd with ⟨b, _⟩ | ⟨_, l', b⟩
      · have := (List.getElem?_eq_some_iff.mp hx).1; omega
      · rw [← l] at b
        exact ⟨l', b⟩
    · obtain ⟨hiN, B', M', rfl, e, H', g2⟩ := p
      rcases hd with ⟨b, c⟩ | ⟨b, _⟩
      · rw [c] at q
        rw [hlen, ← b] at H' g2
        exact q σ' B' M' (e1.trans e) H' g2
      · omega
end
end Mini

namespace Mini
open PySem PySem.Spec L2 Evl PyProof.Rows
section
variable {K : PySem.W.Frag} {E : L2.St → XK} {G : Gm} {te tel tl : TE} {tt : TT} {g : TG} {ds : List PyData} {d : PyData} {n m j : Nat} {C : Addr} {vs : List Nat}
/-- a comprehension over what raises -/
theorem sb_lc (h : Sb tl G E C) : Sb (tLc (iList K tl) g tt te vs) G E C := fun M0 σ B M H Q q => h M0 σ B M H _ q
/-- xs.pop(i), xs one's own -/
theorem ss_popAt {i : Int} (h : G[n]? = some (.ow (isL ds))) (hi : Sv te G (isD (.int i))) (hb : 0 ≤ i ∧ i < ds.length) (hz : ds.length ≤ sizeLine) :
    Ss E (tDrop (tBM K "list" rPopAt (tVar n) (tCons te tNil))) G (.nx (G.set n (.ow (isL (ds.eraseIdx i.toNat))))) := fun M0 D σ B M H q => by
  obtain ⟨l, ob, a, c, ⟨vs, rfl, r⟩, f⟩ := H.ow n _ h
  refine ⟨.ref l, a, Or.inl ⟨rfl, vs, sq_of (jn_M c)⟩, ?_⟩
  refine hi M0 σ B M H _ fun iv B1 e1 d1 p1 => ?_
  rw [dp_int p1]
  have hlen := DqAll_len r
  have hlt : i.toNat < ds.length := by omega
  obtain ⟨y, hy, py⟩ := DqAll_get (DqAll_ex e1 r) (List.getElem?_eq_getElem hlt)
  have hzz : (sizeLine : Nat) = 16777216 := sizeLine_eq
  refine ⟨l, vs, i, i.toNat, y, rfl, rfl, jn_M c, by omega, by omega, ?_, hy, ?_⟩
  · unfold seqIndex?
    rw [hlen]
    have h1 : ¬ i < 0 := by omega
    have h2 : i < (ds.length : Int) := hb.2
    simp [h1, h2]
    try omega
  rw [upd_own]
  refine q _ B1 _ e1 ?_
  exact (H.ext e1 d1).change h a c (R' := isL (ds.eraseIdx i.toNat)) ⟨_, rfl, DqAll_eraseIdx _ (DqAll_ex e1 r)⟩
/-- y = [xs.pop(i) for k in range(N)] -/
theorem ss_setLcPop {N : Int} (rem out : Nat → List PyData) (ix : Nat → Int) (dd : Nat → PyData) (h : G[n]? = some (.ow (isL (rem 0)))) (hN : Sv te G (isD (.int N))) (hz : N < 10000000) (hlo : -(2 ^ 60) ≤ N)
    (hi : ∀ i : Nat, i < N.toNat → Sv tel (Gv (G.set n (.ow (isL (rem i)))) j (.int (i : Int))) (isD (.int (ix i)))) (hb : ∀ i : Nat, i < N.toNat → 0 ≤ ix i ∧ ix i < (rem i).length ∧ (rem i).length ≤ 1000000) (hd : ∀ i : Nat, i < N.toNat → (rem i)[(ix i).toNat]? = some (dd i))
    (hr : ∀ i : Nat, i < N.toNat → rem (i + 1) = (rem i).eraseIdx (ix i).toNat) (o0 : out 0 = []) (ho : ∀ i : Nat, i < N.toNat → out (i + 1) = out i ++ [dd i]) (hj : j < G.length) (hjn : j ≠ n) (hm : m < G.length) :
    Ss E (tAsg (tLc (iRng1 (tCons te tNil)) (gName j) tYes (tBM K "list" rPopAt (tVar n) (tCons tel tNil)) [j]) (gName m)) G (.nx ((G.set n (.ow (isL (rem N.toNat)))).set m (.ow (isL (out N.toNat))))) := fun M0 D σ B M H q =>
  hN M0 σ B M H _ fun v B1 e1 d1 p1 => by
  refine ⟨N, by rw [dp_int p1], by omega, by omega, fun Dl hD => ?_⟩
  have hzz : (sizeLine : Nat) = 16777216 := sizeLine_eq
  have H1 := H.ext e1 d1
  obtain ⟨l, ob, a, c, ⟨vs0, rfl, r0⟩, f⟩ := H1.ow n _ h
  have hMD := (jn_free hD).2
  have hl : l ≠ Dl := fun z => by rw [z, hMD] at c; cases c
  have hlen : ∀ i, i ≤ N.toNat → (out i).length = i := fun i => by
    induction i with
    | zero => intro _; rw [o0]; rfl
    | succ i ih => intro z; rw [ho i (by omega), List.length_append, ih (by omega)]; rfl
  let Pv : Nat → Hp → Prop := fun i H' => ∃ B' acc vs, H' = jn B' (upd (upd M l (.lst vs)) Dl (.lst acc)) ∧ Ex B1 B' ∧ Dj B' (upd (upd M l (.lst vs)) Dl (.lst acc)) ∧ DqAll B' acc (out i) ∧ DqAll B' vs (rem i)
  have updS : ∀ {F : Hp} {o : HO}, F l = some o → upd F l o = F := fun {F o} z => by
    funext x
    by_cases w : x = l
    · rw [w, upd_same, z]
    · rw [upd_ne w]
  have dj0 : ∀ {B' : Hp} {vs : List V} {acc : List V}, Dj B' (upd (upd M l (.lst vs)) Dl (.lst acc)) → Dj B' (upd M l (.lst vs)) := fun {B' vs acc} dj x u z => by
    have := dj x u z
    by_cases w : x = Dl
    · rw [w, upd_ne (fun z => hl z.symm)]; exact hMD
    · rw [upd_ne w] at this; exact this
  have djM : ∀ {B' : Hp} {vs : List V}, Dj B' (upd M l (.lst vs)) → Dj B' M := fun {B' vs} dj x u z => by
    have := dj x u z
    by_cases w : x = l
    · rw [w, upd_same] at this; cases this
    · rw [upd_ne w] at this; exact this
  refine lc_range (lo := 0) (n := N.toNat) Pv ?_ (fun i H' hi' p => ?_) (fun H' p => ?_)
  · refine ⟨B1, [], vs0, by rw [updS c, upd_own], Ex.refl _, ?_, by rw [o0]; exact .nil, r0⟩
    rw [updS c]
    exact dj_own d1 (jn_free hD).1
  · obtain ⟨B', acc, vs, rfl, e, dj, ha, hv⟩ := p
    have e0 : (0 : Int) + (i : Int) = (i : Int) := Int.zero_add _
    rw [e0]
    have dj1 := dj0 dj
    have hB' : B' Dl = none := dj_free dj upd_same
    have HA : Holds M0 (G.set n (.ow (isL (rem i)))) σ B' (upd M l (.lst vs)) := (H1.ext e (djM dj1)).change h a c ⟨vs, rfl, hv⟩
    have H2 : Holds M0 (Gv (G.set n (.ow (isL (rem i)))) j (.int (i : Int))) ((L2.wipe σ [j]).set j (some (V.int (i : Int)))) B' (upd (upd M l (.lst vs)) Dl (.lst acc)) := by
      have h1 := (HA.wipes [j]).more (p := Dl) (o := .lst acc) (show jn B' (upd M l (.lst vs)) Dl = none by rw [jn_N (by rw [upd_ne (fun z => hl z.symm)]; exact hMD)]; exact hB')
      exact h1.setIm (by show j < ((G.set n _).set j .no).length; rw [List.length_set, List.length_set]; exact hj) (.int _)
    refine ⟨wipe_one σ j _, ?_⟩
    unfold tYes
    dsimp only
    rw [if_pos rfl]
    have a2 : ((L2.wipe σ [j]).set j (some (V.int (i : Int))))[n]? = some (some (.ref l)) := by
      show (((σ.set j none).set j (some (V.int (i : Int)))))[n]? = _
      rw [List.getElem?_set_ne hjn, List.getElem?_set_ne hjn]; exact a
    have c2 : upd (upd M l (.lst vs)) Dl (.lst acc) l = some (.lst vs) := by rw [upd_ne hl, upd_same]
    refine ⟨.ref l, a2, Or.inl ⟨rfl, vs, sq_of (jn_M c2)⟩, ?_⟩
    refine hi i hi' M0 _ _ _ H2 _ fun iv B4 e4 d4 p4 => ?_
    rw [dp_int p4]
    have hlv := DqAll_len hv
    obtain ⟨b1, b2, b3⟩ := hb i hi'
    obtain ⟨y, hy, py⟩ := DqAll_get (DqAll_ex e4 hv) (hd i hi')
    refine ⟨l, vs, ix i, (ix i).toNat, y, rfl, rfl, jn_M c2, by omega, by omega, ?_, hy, ?_⟩
    · unfold seqIndex?
      rw [hlv]
      have h1 : ¬ ix i < 0 := by omega
      have h2 : ix i < ((rem i).length : Int) := b2
      simp [h1, h2]
      try omega
    rw [upd_own]
    refine ⟨acc, jn_M (by rw [upd_ne (fun z => hl z.symm), upd_same]), by rw [DqAll_len ha, hlen i (by omega)]; omega, ?_⟩
    have eM : upd (upd (upd (upd M l (.lst vs)) Dl (.lst acc)) l (.lst (vs.eraseIdx (ix i).toNat))) Dl (.lst (acc ++ [y])) = upd (upd M l (.lst (vs.eraseIdx (ix i).toNat))) Dl (.lst (acc ++ [y])) := by
      funext x
      by_cases w : x = Dl
      · rw [w, upd_same, upd_same]
      · rw [upd_ne w, upd_ne w]
        by_cases w2 : x = l
        · rw [w2, upd_same, upd_same]
        · rw [upd_ne w2, upd_ne w2, upd_ne w, upd_ne w2]
    rw [upd_own, eM]
    refine ⟨B4, acc ++ [y], vs.eraseIdx (ix i).toNat, rfl, e.trans e4, ?_, ?_, ?_⟩
    · intro x u z
      have := d4 x u z
      by_cases w : x = Dl
      · rw [w, upd_same] at this; cases this
      · rw [upd_ne w] at this ⊢
        by_cases w2 : x = l
        · rw [w2, upd_same] at this; cases this
        · rw [upd_ne w2] at this ⊢; exact this
    · rw [ho i hi']
      exact DqAll_append (DqAll_ex e4 ha) (.cons py .nil)
    · rw [hr i hi']
      exact DqAll_eraseIdx _ (DqAll_ex e4 hv)
  · obtain ⟨B', acc, vs, rfl, e, dj, ha, hv⟩ := p
    have dj1 := dj0 dj
    have hB' : B' Dl = none := dj_free dj upd_same
    have HA : Holds M0 (G.set n (.ow (isL (rem N.toNat)))) σ B' (upd M l (.lst vs)) := (H1.ext e (djM dj1)).change h a c ⟨vs, rfl, hv⟩
    exact q _ B' _ (e1.trans e) (HA.setOw (by rw [List.length_set]; exact hm) (show jn B' (upd M l (.lst vs)) Dl = none by rw [jn_N (by rw [upd_ne (fun z => hl z.symm)]; exact hMD)]; exact hB') ⟨acc, rfl, ha⟩)
end
end Mini

namespace Mini
open PySem PySem.Spec L2 Evl PyProof.Rows
section
variable {K : PySem.W.Frag} {E : L2.St → XK} {G : Gm} {ta tb te : TE} {tu : TS} {o : Out} {a b : Int} {i j l : Nat}
theorem svl_range2 (ha : Sv ta G (isD (.int a))) (hb : Sv tb G (isD (.int b))) (h0 : 0 ≤ a) (h1 : b ≤ 16777216) (h2 : a ≤ 16777216) (h3 : 0 ≤ b) : Svl (tLstRg (tRg2 ta tb)) G ((List.range (b - a).toNat).map fun k : Nat => PyData.int (a + (k : Int))) := fun M0 σ B M H Q q =>
  ha M0 σ B M H _ fun x B1 e1 d1 p1 => hb M0 σ B1 M (H.ext e1 d1) _ fun y B2 e2 d2 p2 => by
    rw [dp_int p1, dp_int p2]
    refine ⟨a, b, rfl, rfl, RgOk.of_le h0 h1 h2 h3, fun p hp => q p _ B2 (e1.trans e2) d2 hp ?_⟩
    have e : ((List.range (b - a).toNat).map fun k : Nat => PyData.int (a + (k : Int))) = ((List.range (b - a).toNat).map fun k : Nat => a + (k : Int)).map .int := by rw [List.map_map]; rfl
    have e' : rgV a b = ((List.range (b - a).toNat).map fun k : Nat => a + (k : Int)).map .int := by unfold rgV; rw [List.map_map]; rfl
    rw [e, e']
    exact DqAll_ofInts _
theorem pe_bmK {X : Cx} {K : PySem.W.Frag} {T name : String} {id : String} {o e : Expr} {es : List Expr} {to' : TE} {t : TA} {r : V → List V → Hp → VK → Prop} {apos cpos : Pos} (pa : PlainAttrs T) (slot : Slot T name id) (hty : typeOf (.builtin id) = pure (.type "method_descriptor")) (hm : MtR X id r) (ho : PE X o to') (ha : PA X (e :: es) t)
    (hbase : attributeBase o name X.env (eval o X.env) = eval o X.env := by rfl)
    (hfew : ((backTo cpos (starEach (e :: es) X.env)).all (fun x => !x.1) && (backToKw cpos (keywordEach [] X.env)).all (fun x => x.1.isSome)
      && decide ((e :: es).length + ([] : List Keyword).length + (if ([] : List Keyword).isEmpty then 0 else 1) < 30)) = true := by rfl)
    (hline : (apos.endLine == cpos.line) = true := by rfl) (hs : starEach (e :: es) X.env = (false, eval e X.env) :: starEach es X.env := by rfl) (hplain : (backTo cpos (starEach es X.env)).any (·.1) = false := by rfl) (hK : X.K = K := by rfl) :
    PE X (.Call (.Attribute o name apos) (e :: es) [] cpos) (tBM K T r to' t) := hK ▸ pe_bm pa slot hty hm ho ha hbase hfew hline hs hplain
/-- one of several types -/
def isEx {α : Type} (Q : α → Prop) (P : α → Ty) : Ty := ⟨fun v B => ∃ x, Q x ∧ (P x).p v B, fun e ⟨x, h1, h2⟩ => ⟨x, h1, (P x).mono e h2⟩⟩
theorem sv_ex {α : Type} {Q : α → Prop} {P : α → Ty} (x : α) (hq : Q x) (h : Sv te G (P x)) : Sv te G (isEx Q P) := fun M0 σ B M H R r => h M0 σ B M H R fun v B' e dj p => r v B' e dj ⟨x, hq, p⟩
theorem ss_unpEx3 {α : Type} {Q : α → Prop} {d1 d2 d3 : α → PyData} (h : Sv te G (isEx Q fun x => isD (.tuple [d1 x, d2 x, d3 x]))) (hi : i < G.length) (hj : j < G.length) (hl : l < G.length)
    (k : ∀ x, Q x → Ss E tu (((G.set i (.im (isD (d1 x)))).set j (.im (isD (d2 x)))).set l (.im (isD (d3 x)))) o) : Ss E (tSeq (tAsg te (gTup K 3 (gCons (gName i) (gCons (gName j) (gCons (gName l) gNil))))) tu) G o := fun M0 D σ B M H q =>
  h M0 σ B M H _ fun v B' e dj ⟨x, hq, p⟩ => by
    obtain ⟨a, vs, rfl, hh, q1⟩ := dq_tup p
    cases q1 with
    | cons p1 q1 => cases q1 with
      | cons p2 q1 => cases q1 with
        | cons p3 q1 =>
          cases q1
          refine ⟨a, _, rfl, st_of (jn_B dj hh), rfl, _, _, rfl, _, _, rfl, _, _, rfl, rfl, ?_⟩
          have H1 := ((H.ext e dj).setIm (n := i) (P := isD (d1 x)) hi p1)
          have H2 := H1.setIm (n := j) (P := isD (d2 x)) (by rw [List.length_set]; exact hj) p2
          have H3 := H2.setIm (n := l) (P := isD (d3 x)) (by rw [List.length_set, List.length_set]; exact hl) p3
          exact k x hq M0 D _ B' M H3 (q.ext e)
end
end Mini

namespace Mini
open PySem PySem.Spec L2 Evl PyProof.Rows
section
variable {K : PySem.W.Frag} {E : L2.St → XK} {G : Gm} {ta tb te tel : TE} {tt : TT} {lo hi : Int} {j : Nat} {C : Addr}
theorem svl_lcMapR2 (h : Sv ta G (isD (.int lo))) (h2 : Sv te G (isD (.int hi))) (hb : -(2 ^ 60) ≤ lo ∧ lo ≤ 2 ^ 60 ∧ -(2 ^ 60) ≤ hi ∧ hi ≤ 2 ^ 60) (g : Nat → PyData) (hj : j < G.length) (hz : (hi - lo).toNat < 10000000) (he : ∀ i : Nat, i < (hi - lo).toNat → Sv tel (Gv G j (.int (lo + (i : Int)))) (isD (g i))) :
    Svl (tLc (iRng2 (tCons ta (tCons te tNil))) (gName j) tYes tel [j]) G ((List.range (hi - lo).toNat).map g) := fun M0 σ B M H Q q => h M0 σ B M H _ fun v B0 e0 d0 p0 => h2 M0 σ B0 M (H.ext e0 d0) _ fun v2 B1 e1' d1 p1 => by
  have e1 := e0.trans e1'
  refine ⟨lo, hi, by rw [dp_int p0, dp_int p1], ⟨by omega, by omega, by omega, by omega⟩, fun Dl hD => ?_⟩
  have hM := (jn_free hD).2
  let es : Nat → List PyData := fun i => (List.range i).map g
  refine lc_range (lo := lo) (n := (hi - lo).toNat) (Pvc B1 M Dl es) ⟨B1, [], by rw [upd_own], Ex.refl B1, dj_own d1 (jn_free hD).1, .nil⟩ (fun i H' hi' p => ?_) (fun H' p => ?_)
  · obtain ⟨B', acc, rfl, e, dj, ha⟩ := p
    exact lc_turn (b := true) (y := g i) (H.ext e1 d1) hj hM e dj ha (by show ((List.range i).map g).length < sizeLine; rw [List.length_map, List.length_range, sizeLine_eq]; omega) (.int _) st_yes (fun _ => he i hi') (by show (List.range (i + 1)).map g = _; rw [List.range_succ, List.map_append]; rfl)
  · exact lc_end hM (Ex.refl _) (fun p vs B' e dj hf hv => q p vs B' (e1.trans e) dj hf hv) H' p
theorem sb_ite1 (h : St' tt G true) (h1 : Sb ta G E C) : Sb (tIf tt ta tb) G E C := fun M0 σ B M H Q q => h M0 σ B M H _ fun B' e d => h1 M0 σ B' M (H.ext e d) Q fun B2 e2 d2 => q B2 (e.trans e2) d2
theorem sb_ite0 (h : St' tt G false) (h1 : Sb tb G E C) : Sb (tIf tt ta tb) G E C := fun M0 σ B M H Q q => h M0 σ B M H _ fun B' e d => h1 M0 σ B' M (H.ext e d) Q fun B2 e2 d2 => q B2 (e.trans e2) d2
end
end Mini

namespace K58
open PySem L2 Evl Mini PyProof.Rows
def top (i : Nat) : Stmt := PySem.Challenge.pw_alikeread_k58_alike_rows_to_sixty.main.body.getD i (.Pass ⟨0, 0, 0, 0⟩)
abbrev veT : List Value := [.type "ValueError", .type "Exception", .type "BaseException", .type "object"]
structure Txt (K : PySem.W.Frag) (mg : Str → Option Value) (cAE cBB cBN cBR cTL cBk cPr aBG : Addr) : Prop where
  no_isinstance : mg "isinstance" = none
  no_int : mg "int" = none
  no_bool : mg "bool" = none
  no_tuple : mg "tuple" = none
  no_list : mg "list" = none
  no_all : mg "all" = none
  no_any : mg "any" = none
  no_len : mg "len" = none
  no_abs : mg "abs" = none
  no_range : mg "range" = none
  no_min : mg "min" = none
  no_max : mg "max" = none
  no_enumerate : mg "enumerate" = none
  no_sum : mg "sum" = none
  c_MOST_LETTERS : GC mg "MOST_LETTERS" (.int 60)
  c_MOST_WORDS : GC mg "MOST_WORDS" (.int 60)
  c_LONGEST_WORD : GC mg "LONGEST_WORD" (.int 5000)
  c_LONGEST_LISTED : GC mg "LONGEST_LISTED" (.int 60)
  c_MOST_LISTED : GC mg "MOST_LISTED" (.int 2000)
  c_SIGNS : GC mg "SIGNS" (.str "0123456789ABCDEFGHIJKLMNOPQRSTUVWXYZabcdefghijklmnopqrstuvwx")
  e_AlikeError : ErrC K mg "AlikeError" cAE veT
  e_BadBook : ErrC K mg "BadBook" cBB veT
  e_BadNumber : ErrC K mg "BadNumber" cBN veT
  e_BadRow : ErrC K mg "BadRow" cBR veT
  e_TooLong : ErrC K mg "TooLong" cTL veT
  c_BEGIN : GC mg "BEGIN" (.ref aBG)
  kt_aBG : KTD K aBG [.str "", .str ""]
  cl_cBk : Cls K cBk
  n_cBk_letters : NoAttr K cBk "letters"
  n_cBk_size : NoAttr K cBk "size"
  n_cBk__words : NoAttr K cBk "_words"
  cl_cPr : Cls K cPr
  n_cPr_first : NoAttr K cPr "first"
  n_cPr_second : NoAttr K cPr "second"
  n_cPr_letters : NoAttr K cPr "letters"
  x_cBB : ExcC K cBB
  m_cBB : PySem.W.exmOne K (.ref cBB) (.ref cAE) = some true
  x_cBN : ExcC K cBN
  m_cBN : PySem.W.exmOne K (.ref cBN) (.ref cAE) = some true
  x_cBR : ExcC K cBR
  m_cBR : PySem.W.exmOne K (.ref cBR) (.ref cAE) = some true
  x_cTL : ExcC K cTL
  m_cTL : PySem.W.exmOne K (.ref cTL) (.ref cAE) = some true
  k_cBB_cTL : PySem.W.kitOne K (.ref cBB) (.ref cTL) = some false
  k_cBN_cTL : PySem.W.kitOne K (.ref cBN) (.ref cTL) = some false
  k_cBR_cTL : PySem.W.kitOne K (.ref cBR) (.ref cTL) = some false
  k_cTL_cTL : PySem.W.kitOne K (.ref cTL) (.ref cTL) = some true
section
variable {P : Program} {w : World} {K : PySem.W.Frag} {mg : Str → Option Value} {base : Heap} {cAE cBB cBN cBR cTL cBk cPr aBG : Addr}
/-! ### _law_draws -/
def S_law_draws (K : PySem.W.Frag) : Fs := ⟨{x : List Int × Int // x.1.length ≤ 63 ∧ 0 ≤ x.2 ∧ x.2 ≤ 1000}, 2, fun x => [.im (isS K x.1.1), .im (isD (.int x.1.2))], fun _ => rfl, fun x => .ol ((drawsF x.1.1 x.1.2).map .int)⟩
abbrev st__law_draws : Stmt := top 39
theorem sc__law_draws : FnScope ["script", "many", "draws", "seed", "cell", "number", "k"] ["script", "many"] (defScope st__law_draws) := ⟨rfl, rfl, rfl, by decide +kernel, rfl, by decide +kernel, by decide +kernel⟩
theorem ok__law_draws {f : Addr} {fd : FuncData} (T : Txt K mg cAE cBB cBN cBR cTL cBk cPr aBG)  (F : Fun K "_law_draws" "_law_draws" st__law_draws f fd) : FnOk P w K mg base (L2.CX P w) 1 f fd ["script", "many"] (spF (S_law_draws K)) := by
  refine fn_ok F sc__law_draws rfl fun cdv A outer s H E hr => ?_
  have tk : Takes (cxD P w K mg base ["script", "many", "draws", "seed", "cell", "number", "k"] "_law_draws" st__law_draws f cdv A outer s H E) (fun cls d _ H => E cls d H) := takes_of rfl rfl rfl rfl
  have hx := pxM tk
  have nd := sc__law_draws.nd
  refine ⟨_, (pss_cons (ps_set (i := 2) nd rfl (Or.inl rfl) (pe_lst pa_nil))
 (pss_cons (ps_set (i := 3) nd rfl (Or.inl rfl) pe_int)
 (pss_cons (ps_for (passes_of rfl) rfl (pi_list (pe_slice sl_uSl (pv 0) po_none (po_some pe_int))) (pg_name (i := 4) nd rfl (Or.inl rfl)) (pss_cons (ps_set (i := 5) nd rfl (Or.inl rfl) (pe_callB call_abs (by rfl) T.no_abs (by decide +kernel) (pa_cons (pv 4) pa_nil)))
 (pss_cons (ps_set (i := 3) nd rfl (Or.inl rfl) (pe_op op_mod (pe_callTy call_int1 (by rfl) T.no_int (by decide +kernel) (pa_cons (pe_op op_uAdd (pe_op op_uAdd (pe_op op_uMul (pv 3) pe_int) (pv 5)) pe_int) pa_nil)) pe_int))
 (pss_one (ps_if (pt_cmpR op_ge (pv 5) (pe_op op_pow pe_int pe_int) (nomark _)) (pss_one (ps_for (passes_of rfl) rfl (pi_range1 (by rfl) T.no_range (pa_cons pe_int pa_nil)) (pg_name (i := 6) nd rfl (Or.inl rfl)) (pss_one (ps_if (pt_cmpR op_gt (pv 5) pe_int (nomark _)) (pss_cons (ps_expr (pe_bm PySem.F.plainAttrs_list PySem.F.slot_list_append PySem.F.type_list_append mt_append (pv 2) (pa_cons (pe_op op_mod (pe_callTy call_int1 (by rfl) T.no_int (by decide +kernel) (pa_cons (pv 5) pa_nil)) pe_int) pa_nil)))
 (pss_one (ps_set (i := 5) nd rfl (Or.inl rfl) (pe_op op_fdiv (pv 5) pe_int)))) pss_nil)))) (pss_one (ps_expr (pe_bm PySem.F.plainAttrs_list PySem.F.slot_list_append PySem.F.type_list_append mt_append (pv 2) (pa_cons (pe_op op_mod (pe_op op_fdiv (pe_callTy call_int1 (by rfl) T.no_int (by decide +kernel) (pa_cons (pe_op op_uAdd (pe_op op_uMul (pv 3) pe_int) pe_int) pa_nil)) pe_int) pe_int) pa_nil)))))))))
 (pss_cons (ps_for (passes_of rfl) rfl (pi_range1 (by rfl) T.no_range (pa_cons (pv 1) pa_nil)) (pg_name (i := 6) nd rfl (Or.inl rfl)) (pss_one (ps_if (pt_cmpR op_lt (pe_callB call_len (by rfl) T.no_len (by decide +kernel) (pa_cons (pv 2) pa_nil)) (pv 1) (nomark _)) (pss_cons (ps_set (i := 3) nd rfl (Or.inl rfl) (pe_op op_mod (pe_callTy call_int1 (by rfl) T.no_int (by decide +kernel) (pa_cons (pe_op op_uAdd (pe_op op_uAdd (pe_op op_uMul (pv 3) pe_int) (pv 6)) pe_int) pa_nil)) pe_int))
 (pss_one (ps_expr (pe_bm PySem.F.plainAttrs_list PySem.F.slot_list_append PySem.F.type_list_append mt_append (pv 2) (pa_cons (pe_op op_mod (pe_op op_fdiv (pe_callTy call_int1 (by rfl) T.no_int (by decide +kernel) (pa_cons (pv 3) pa_nil)) pe_int) pe_int) pa_nil))))) pss_nil)))
 (pss_one (ps_ret (pe_slice sl_uSl (pv 2) po_none (po_some (pv 1))))))))), ?_⟩
  intro x
  obtain ⟨⟨ns0, many⟩, hl0, hm0, hm1⟩ := x
  have hm0 : 0 ≤ many := hm0
  have hm1 : many ≤ 1000 := hm1
  have hl0 : ns0.length ≤ 63 := hl0
  generalize hns : cutD ns0 none (some 63) = ns
  have hl : ns.length ≤ 63 := by rw [← hns, cut_take _ (by decide), List.length_take]; omega
  have hz : (sizeLine : Nat) = 16777216 := sizeLine_eq
  refine .ol ?_
  refine ss_seq (ss_setL (svl_lst (ds := []) sa_nil (Nat.zero_le _))) ?_
  refine ss_seq (ss_set sv_int) ?_
  -- the cells
  let Gc : Nat → Gm := fun i => [.im (isS K ns0), .im (isD (.int many)), .ow (isL ((cellsS ns i).1.map .int)), .im (isD (.int (cellsS ns i).2)), .no, .no, .no]
  refine ss_seq (G1 := Gc ns.length) ?_ ?_
  · have hd : Sv (tSl (uSl K) (tVar 0) tNoPart (tPart (tC (.int 63)))) (List.set (List.set (startG 7 [.im (isS K ns0), .im (isD (.int many))]) 2 (.ow (isL []))) 3 (.im (isD (.int 7)))) (isD (.list (ns.map .int))) := by
      rw [← hns]
      exact sv_svl (svl_sliceS (sv_var rfl) so_none (so_some sv_int))
    refine ss_forL hd Gc (ns.map PyData.int).length (Nat.le_refl _) (Le.refl _) (fun i _ => Nat.le_of_ble_eq_true rfl) (fun i d hd hi => ?_) (.inl ⟨rfl, by rw [List.length_map]⟩)
    obtain ⟨c, hc, rfl⟩ : ∃ c, ns[i]? = some c ∧ d = .int c := by
      rw [List.getElem?_map] at hd
      cases h : ns[i]? with
      | none => rw [h] at hd; cases hd
      | some c => rw [h] at hd; exact ⟨c, rfl, (Option.some.inj hd).symm⟩
    have hi' : i < ns.length := by rw [List.length_map] at hi; exact hi
    have hlen := cellsS_len (ns := ns) i (by omega)
    refine .inl (ss_nxLe (G1 := ([.im (isS K ns0), .im (isD (.int many)), .ow (isL ((cellsS ns (i + 1)).1.map .int)), .im (isD (.int (cellsS ns (i + 1)).2)), .no, .no, .no] : Gm)) ?_ (Le.refl _))
    rw [cellsS_succ hc]
    generalize hsd : cellsS ns i = s0 at hlen
    have hG : Gc i = [.im (isS K ns0), .im (isD (.int many)), .ow (isL (s0.1.map .int)), .im (isD (.int s0.2)), .no, .no, .no] := by show [_, _, _, _, _, _, _] = _; rw [hsd]
    rw [hG]
    refine ss_seq (ss_set (sv_abs (sv_var rfl))) ?_
    refine ss_seq (ss_set (sv_mod (sv_int1 (sv_add (sv_add (sv_mul (sv_var rfl) sv_int (.inr ⟨by decide, by decide⟩)) (sv_var rfl)) sv_int)) sv_int (by decide))) ?_
    have ht : ∀ {G : Gm}, G[5]? = some (.im (isD (.int (absI c)))) → St' (tTest (tOp (rI0 fun i j => .bl (decide (j ≤ i))) (tVar 5) (tOp (rI CPow fun i j => .int (i ^ j.toNat)) (tC (.int 10)) (tC (.int 18))))) G (decide (10 ^ 18 ≤ absI c)) := fun h =>
      st_test (sv_cmp (g := fun i j => decide (j ≤ i)) (sv_var h) (sv_pow sv_int sv_int ⟨by decide, by decide, by decide⟩))
    by_cases hb : 10 ^ 18 ≤ absI c
    · refine ss_if1 (st_is (ht rfl) (decide_eq_true hb)) ?_
      have e : cellS s0 c = ((itN digS 60 (s0.1, absI c)).1, seedS s0.2 c) := if_pos hb
      rw [e]
      let Gd : Nat → Gm := fun k => [.im (isS K ns0), .im (isD (.int many)), .ow (isL ((itN digS k (s0.1, absI c)).1.map .int)), .im (isD (.int (seedS s0.2 c))), .no, .im (isD (.int (itN digS k (s0.1, absI c)).2)), .no]
      refine ss_nxLe (ss_forR (o := .nx (Gd 60)) sv_int (by decide) Gd 60 (Nat.le_refl _) (Le.eq (Le.eq (Le.eq (Le.eq (Le.no (Le.eq (Le.eq Le.nil))))))) (fun _ _ => Nat.le_of_ble_eq_true rfl) (fun k hk => ?_) (.inl ⟨rfl, rfl⟩)) (Le.eq (Le.eq (Le.eq (Le.eq (Le.eq (Le.no (Le.eq Le.nil)))))))
      show Turn _ _ _ [.im (isS K ns0), .im (isD (.int many)), .ow (isL ((digS (itN digS k (s0.1, absI c))).1.map .int)), .im (isD (.int (seedS s0.2 c))), .no, .im (isD (.int (digS (itN digS k (s0.1, absI c))).2)), .no]
      have hlen2 : (itN digS k (s0.1, absI c)).1.length ≤ s0.1.length + k := itN_len (n := k) (s := (s0.1, absI c))
      have hG2 : Gd k = [.im (isS K ns0), .im (isD (.int many)), .ow (isL ((itN digS k (s0.1, absI c)).1.map .int)), .im (isD (.int (seedS s0.2 c))), .no, .im (isD (.int (itN digS k (s0.1, absI c)).2)), .no] := rfl
      rw [hG2]
      generalize itN digS k (s0.1, absI c) = s1 at hlen2 ⊢
      have t2 : ∀ {G : Gm}, G[5]? = some (.im (isD (.int s1.2))) → St' (tTest (tOp (rI0 fun i j => .bl (decide (j < i))) (tVar 5) (tC (.int 0)))) G (decide (0 < s1.2)) := fun h => st_test (sv_cmp (g := fun i j => decide (j < i)) (sv_var h) sv_int)
      by_cases hp : 0 < s1.2
      · have e2 : digS s1 = (s1.1 ++ [s1.2 % 1009], s1.2 / 1009) := if_pos hp
        rw [e2]
        refine .inl (ss_nxLe (ss_if1 (st_is (t2 rfl) (decide_eq_true hp)) (ss_seq (ss_append (d := .int (s1.2 % 1009)) rfl (sv_mod (sv_int1 (sv_var rfl)) sv_int (by decide)) (by rw [List.length_map]; omega)) (ss_set (sv_div (sv_var rfl) sv_int ⟨by decide, by decide⟩)))) ?_)
        have e3 : (s1.1 ++ [s1.2 % 1009]).map PyData.int = s1.1.map PyData.int ++ [PyData.int (s1.2 % 1009)] := by simp
        show Le _ [.im (isS K ns0), .im (isD (.int many)), .ow (isL ((s1.1 ++ [s1.2 % 1009]).map .int)), .im (isD (.int (seedS s0.2 c))), .no, .im (isD (.int (s1.2 / 1009))), .no]
        rw [e3]
        exact Le.eq (Le.eq (Le.eq (Le.eq (Le.eq (Le.eq (Le.no Le.nil))))))
      · have e2 : digS s1 = s1 := if_neg hp
        rw [e2]
        exact .inl (ss_nxLe (ss_if0 (st_is (t2 rfl) (decide_eq_false hp)) ss_next) (Le.eq (Le.eq (Le.eq (Le.eq (Le.eq (Le.eq (Le.no Le.nil))))))))
    · refine ss_if0 (st_is (ht rfl) (decide_eq_false hb)) ?_
      have e : cellS s0 c = (s0.1 ++ [(seedS s0.2 c * 16807 + 5) / 3 % 65521], seedS s0.2 c) := if_neg hb
      rw [e]
      have e3 : (s0.1 ++ [(seedS s0.2 c * 16807 + 5) / 3 % 65521]).map PyData.int = s0.1.map PyData.int ++ [PyData.int ((seedS s0.2 c * 16807 + 5) / 3 % 65521)] := by simp
      show Ss _ _ _ (.nx [.im (isS K ns0), .im (isD (.int many)), .ow (isL ((s0.1 ++ [(seedS s0.2 c * 16807 + 5) / 3 % 65521]).map .int)), .im (isD (.int (seedS s0.2 c))), .no, .no, .no])
      rw [e3]
      refine ss_nxLe (ss_append (d := .int ((seedS s0.2 c * 16807 + 5) / 3 % 65521)) rfl (sv_mod (sv_div (sv_int1 (sv_add (sv_mul (sv_var rfl) sv_int (.inr ⟨by decide, by decide⟩)) sv_int)) sv_int ⟨by decide, by decide⟩) sv_int (by decide)) (by rw [List.length_map]; omega)) ?_
      exact Le.eq (Le.eq (Le.eq (Le.eq (Le.no (Le.no (Le.eq Le.nil))))))
  -- the rest
  let Gf : Nat → Gm := fun k => [.im (isS K ns0), .im (isD (.int many)), .ow (isL ((fillsS ns many k).1.map .int)), .im (isD (.int (fillsS ns many k).2)), .no, .no, .no]
  refine ss_seq (G1 := Gf many.toNat) ?_ ?_
  · refine ss_forR (sv_var rfl) (by omega) Gf many.toNat (Nat.le_refl _) (Le.refl _) (fun _ _ => Nat.le_of_ble_eq_true rfl) (fun k hk => ?_) (.inl ⟨rfl, rfl⟩)
    have hlen := fillsS_len ns many k
    show Turn _ _ _ [.im (isS K ns0), .im (isD (.int many)), .ow (isL ((fillsS ns many (k + 1)).1.map .int)), .im (isD (.int (fillsS ns many (k + 1)).2)), .no, .no, .no]
    rw [fillsS_succ]
    have hG : Gf k = [.im (isS K ns0), .im (isD (.int many)), .ow (isL ((fillsS ns many k).1.map .int)), .im (isD (.int (fillsS ns many k).2)), .no, .no, .no] := rfl
    rw [hG]
    generalize fillsS ns many k = s1 at hlen ⊢
    have t2 : ∀ {G : Gm}, G[2]? = some (.ow (isL (s1.1.map .int))) → G[1]? = some (.im (isD (.int many))) → St' (tTest (tOp (rI0 fun i j => .bl (decide (i < j))) (tCB (fun xs H Q => ∃ x n, xs = [x] ∧ LenV K x H n ∧ Q (.int n) H) (tCons (tVar 2) tNil)) (tVar 1))) G (decide ((s1.1.length : Int) < many)) := fun h h' =>
      st_is (st_test (sv_cmp (g := fun i j => decide (i < j)) (sv_lenL (rl_ow h)) (sv_var h'))) (by rw [List.length_map])
    by_cases hp : (s1.1.length : Int) < many
    · have e2 : fillS many s1 k = (s1.1 ++ [(s1.2 * 69621 + (k : Int) + 1) % 2147483647 / 7 % 65521], (s1.2 * 69621 + (k : Int) + 1) % 2147483647) := if_pos hp
      rw [e2]
      refine .inl (ss_nxLe (ss_if1 (st_is (t2 rfl rfl) (decide_eq_true hp)) (ss_seq (ss_set (sv_mod (sv_int1 (sv_add (sv_add (sv_mul (sv_var rfl) sv_int (.inr ⟨by decide, by decide⟩)) (sv_var rfl)) sv_int)) sv_int (by decide))) (ss_append (d := .int ((s1.2 * 69621 + (k : Int) + 1) % 2147483647 / 7 % 65521)) rfl (sv_mod (sv_div (sv_int1 (sv_var rfl)) sv_int ⟨by decide, by decide⟩) sv_int (by decide)) (by rw [List.length_map]; omega)))) ?_)
      have e3 : (s1.1 ++ [(s1.2 * 69621 + (k : Int) + 1) % 2147483647 / 7 % 65521]).map PyData.int = s1.1.map PyData.int ++ [PyData.int ((s1.2 * 69621 + (k : Int) + 1) % 2147483647 / 7 % 65521)] := by simp
      show Le _ [.im (isS K ns0), .im (isD (.int many)), .ow (isL ((s1.1 ++ [(s1.2 * 69621 + (k : Int) + 1) % 2147483647 / 7 % 65521]).map .int)), .im (isD (.int ((s1.2 * 69621 + (k : Int) + 1) % 2147483647))), .no, .no, .no]
      rw [e3]
      exact Le.eq (Le.eq (Le.eq (Le.eq (Le.eq (Le.eq (Le.no Le.nil))))))
    · have e2 : fillS many s1 k = s1 := if_neg hp
      rw [e2]
      exact .inl (ss_nxLe (ss_if0 (st_is (t2 rfl rfl) (decide_eq_false hp)) ss_next) (Le.eq (Le.eq (Le.eq (Le.eq (Le.eq (Le.eq (Le.no Le.nil))))))))
  · refine ss_retL (svl_is (svl_slice (rl_ow rfl) so_none (so_some (sv_var rfl))) ?_)
    show cutD _ none (some many) = (drawsF ns0 many).map PyData.int
    unfold drawsF
    rw [hns, cut_take _ hm0, cut_take _ hm0, List.map_take]

/-! ### is_count, is_below, are_below -/
def countB (d : PyData) : Bool := match d with
  | .int i => decide (0 ≤ i)
  | _ => false
def S_is_count : Fs := ⟨PyData, 1, fun x => [.im (isD x)], fun _ => rfl, fun x => .ok (isD (.bool (countB x)))⟩
abbrev st_is_count : Stmt := top 8
theorem sc_is_count : FnScope ["value"] ["value"] (defScope st_is_count) := ⟨rfl, rfl, rfl, by decide +kernel, rfl, by decide +kernel, by decide +kernel⟩
theorem ok_is_count {f : Addr} {fd : FuncData} (T : Txt K mg cAE cBB cBN cBR cTL cBk cPr aBG)  (F : Fun K "is_count" "is_count" st_is_count f fd) : FnOk P w K mg base (L2.CX P w) 1 f fd ["value"] (spF (S_is_count)) := by
  refine fn_ok F sc_is_count rfl fun cdv A outer s H E hr => ?_
  have tk : Takes (cxD P w K mg base ["value"] "is_count" st_is_count f cdv A outer s H E) (fun cls d _ H => E cls d H) := takes_of rfl rfl rfl rfl
  have hx := pxM tk
  have nd := sc_is_count.nd
  refine ⟨_, (pss_one (ps_ret (pe_and (pe_callB call_isi (by rfl) T.no_isinstance (by decide +kernel) (pa_cons (pv 0) (pa_cons (pe_bltn (by rfl) T.no_int (by decide +kernel) (v := .ty "int") rfl) pa_nil))) (pe_and (pe_not (pe_callB call_isi (by rfl) T.no_isinstance (by decide +kernel) (pa_cons (pv 0) (pa_cons (pe_bltn (by rfl) T.no_bool (by decide +kernel) (v := .ty "bool") rfl) pa_nil)))) (pe_one (pe_cmpR op_ge (pv 0) pe_int (nomark _))))))), ?_⟩
  intro x
  refine .ok (ss_ret ?_)
  refine sv_is (sv_and (c := dInt x && (!dBool x && countB x)) (sv_isInt (sv_var rfl)) fun h1 => sv_is (sv_and (sv_not (sv_isBool (sv_var rfl))) fun h2 => ?_) (by rw [h1]; rfl)) (by cases x <;> simp [dInt, dBool, countB])
  cases x with
  | int i => exact sv_cmp (g := fun i j => decide (j ≤ i)) (sv_var rfl) sv_int
  | _ => first | (simp [dInt] at h1; done) | (simp [dBool] at h2; done)
def S_is_below : Fs := ⟨PyData × Int, 2, fun x => [.im (isD x.1), .im (isD (.int x.2))], fun _ => rfl, fun x => .ok (isD (.bool (belowB x.1 x.2)))⟩
abbrev st_is_below : Stmt := top 9
theorem sc_is_below : FnScope ["value", "end"] ["value", "end"] (defScope st_is_below) := ⟨rfl, rfl, rfl, by decide +kernel, rfl, by decide +kernel, by decide +kernel⟩
theorem ok_is_below {f : Addr} {fd : FuncData} (T : Txt K mg cAE cBB cBN cBR cTL cBk cPr aBG) (F_is_count : FnC P w K mg base 1 "is_count" (spF (S_is_count))) (F : Fun K "is_below" "is_below" st_is_below f fd) : FnOk P w K mg base (L2.CX P w) 2 f fd ["value", "end"] (spF (S_is_below)) := by
  refine fn_ok F sc_is_below rfl fun cdv A outer s H E hr => ?_
  have tk : Takes (cxD P w K mg base ["value", "end"] "is_below" st_is_below f cdv A outer s H E) (fun cls d _ H => E cls d H) := takes_of rfl rfl rfl rfl
  have hx := pxM tk
  have nd := sc_is_below.nd
  refine ⟨_, (pss_one (ps_ret (pe_and (pe_fn F_is_count hr hx (pa_cons (pv 0) pa_nil)) (pe_one (pe_cmpR op_lt (pv 0) (pv 1) (nomark _)))))), ?_⟩
  intro x
  obtain ⟨d, n⟩ := x
  refine .ok (ss_ret ?_)
  refine sv_is (sv_and (c := belowB d n) (sv_call (S := S_is_count) (sa_im (sv_var rfl) sa_nil) d rfl rfl) fun h1 => ?_) (by cases d <;> simp [countB, belowB])
  cases d with
  | int i => exact sv_is (sv_cmp (g := fun i j => decide (i < j)) (sv_var rfl) (sv_var rfl)) (by simp [countB] at h1; simp [belowB, h1])
  | _ => simp [countB] at h1
def S_are_below : Fs := ⟨{x : PyData × Int // Fit x.1}, 2, fun x => [.im (isD x.1.1), .im (isD (.int x.1.2))], fun _ => rfl, fun x => .ok (isD (.bool (tupB (fun e => belowB e x.1.2) x.1.1)))⟩
abbrev st_are_below : Stmt := top 10
theorem sc_are_below : FnScope ["value", "end", "item"] ["value", "end"] (defScope st_are_below) := ⟨rfl, rfl, rfl, by decide +kernel, rfl, by decide +kernel, by decide +kernel⟩
theorem ok_are_below {f : Addr} {fd : FuncData} (T : Txt K mg cAE cBB cBN cBR cTL cBk cPr aBG)  (F : Fun K "are_below" "are_below" st_are_below f fd) : FnOk P w K mg base (L2.CX P w) 1 f fd ["value", "end"] (spF (S_are_below)) := by
  refine fn_ok F sc_are_below rfl fun cdv A outer s H E hr => ?_
  have tk : Takes (cxD P w K mg base ["value", "end", "item"] "are_below" st_are_below f cdv A outer s H E) (fun cls d _ H => E cls d H) := takes_of rfl rfl rfl rfl
  have hx := pxM tk
  have nd := sc_are_below.nd
  refine ⟨_, (pss_cons (ps_if (pt_not (pt_val (pe_callB call_isi (by rfl) T.no_isinstance (by decide +kernel) (pa_cons (pv 0) (pa_cons (pe_bltn (by rfl) T.no_tuple (by decide +kernel) (v := .ty "tuple") rfl) pa_nil))))) (pss_one (ps_ret pe_bl)) pss_nil)
 (pss_one (ps_ret (pe_callB (cr_all rfl) (by rfl) T.no_all (by decide +kernel) (pa_cons (pe_lc (own := [("item", 2)]) (g := gName 2) (tt := tYes) rfl nd (pi_tup (pv 0)) (blkOk_by (N := ["value", "end", "item"]) (sc := defScope st_are_below) (by decide +kernel)) (fun _ _ _ _ _ => pg_name (i := 2) nd rfl (Or.inl rfl)) (fun _ _ _ _ _ => pts_nil) (fun _ _ _ _ _ => (pe_and (pe_callB (r := rIsi K) call_isi (by rfl) T.no_isinstance (by decide +kernel) (pa_cons (pv 2) (pa_cons (pe_bltn (by rfl) T.no_int (by decide +kernel) (v := .ty "int") rfl) pa_nil))) (pe_and (pe_cmpR Mini.op_notBl (pv 2) pe_bl (nomark _)) (pe_and (pe_cmpR Mini.op_notBl (pv 2) pe_bl (nomark _)) (pe_one (pe_chain op_le op_lt pe_int (pv 2) (pv 1)))))))) pa_nil))))), ?_⟩
  intro x
  obtain ⟨⟨d, n⟩, hf⟩ := x
  cases d with
  | tuple ds =>
    refine .ok (ss_seq (ss_if0 (st_is (st_not (st_B (sv_isTup (sv_var rfl)))) rfl) ss_next) ?_)
    refine ss_ret (sv_is (sv_all (bs := ds.map fun e => belowB e n) (rl_svl ?_)) (by rw [all_map_id]; rfl))
    refine svl_is (svl_lcMapT (sv_var rfl) (fun e => .bool (belowB e n)) (Nat.le_of_ble_eq_true rfl) hf fun e _ => ?_) (by rw [List.map_map]; rfl)
    refine sv_is (sv_and (c := !blB e true && (!blB e false && belowB e n)) (sv_isInt (sv_var rfl)) fun h1 => sv_and (sv_notBl (sv_var rfl)) fun h2 => sv_and (sv_notBl (sv_var rfl)) fun h3 => ?_) (by cases e with | bool b => cases b <;> rfl | _ => simp [dInt, blB, belowB])
    cases e with
    | int i => exact sv_chain (g := fun i j => decide (i ≤ j)) (g' := fun i j => decide (i < j)) sv_int (sv_var rfl) fun _ => sv_var rfl
    | bool b => cases b <;> simp [blB] at h2 h3
    | _ => simp [dInt] at h1
  | _ => exact .ok (ss_seqRt (ss_if1 (st_is (st_not (st_B (sv_isTup (sv_var rfl)))) rfl) (ss_ret sv_bl)))
/-! ### _is_word -/
def S_is_word : Fs := ⟨{x : PyData × Int // Fit x.1}, 2, fun x => [.im (isD x.1.1), .im (isD (.int x.1.2))], fun _ => rfl, fun x => .ok (isD (.bool (isWordB x.1.1 x.1.2)))⟩
abbrev st__is_word : Stmt := top 16
theorem sc__is_word : FnScope ["value", "letters"] ["value", "letters"] (defScope st__is_word) := ⟨rfl, rfl, rfl, by decide +kernel, rfl, by decide +kernel, by decide +kernel⟩
theorem ok__is_word {f : Addr} {fd : FuncData} (T : Txt K mg cAE cBB cBN cBR cTL cBk cPr aBG) (F_are_below : FnC P w K mg base 1 "are_below" (spF (S_are_below))) (F : Fun K "_is_word" "_is_word" st__is_word f fd) : FnOk P w K mg base (L2.CX P w) 2 f fd ["value", "letters"] (spF (S_is_word)) := by
  refine fn_ok F sc__is_word rfl fun cdv A outer s H E hr => ?_
  have tk : Takes (cxD P w K mg base ["value", "letters"] "_is_word" st__is_word f cdv A outer s H E) (fun cls d _ H => E cls d H) := takes_of rfl rfl rfl rfl
  have hx := pxM tk
  have nd := sc__is_word.nd
  refine ⟨_, (pss_one (ps_ret (pe_and (pe_fn F_are_below hr hx (pa_cons (pv 0) (pa_cons (pv 1) pa_nil))) (pe_one (pe_chain op_le op_le pe_int (pe_callB call_len (by rfl) T.no_len (by decide +kernel) (pa_cons (pv 0) pa_nil)) (pe_gc T.c_LONGEST_WORD)))))), ?_⟩
  intro x
  obtain ⟨⟨d, n⟩, hf⟩ := x
  refine .ok (ss_ret ?_)
  refine sv_and (sv_call (S := S_are_below) (sa_im (sv_var rfl) (sa_im (sv_var rfl) sa_nil)) ⟨(d, n), hf⟩ rfl rfl) fun h1 => ?_
  cases d with
  | tuple ds => exact sv_chain (g := fun i j => decide (i ≤ j)) (g' := fun i j => decide (i ≤ j)) sv_int (sv_lenT (sv_var rfl)) fun _ => sv_int
  | _ => simp [tupB] at h1

/-! ### _are_words -/
def S_are_words : Fs := ⟨{x : (PyData ⊕ List PyData) × Int // Fits (datOf x.1)}, 2, fun x => [argOf x.1.1, .im (isD (.int x.1.2))], fun _ => rfl, fun x => .ok (isD (.bool (areWordsB (datOf x.1.1) x.1.2)))⟩
abbrev st__are_words : Stmt := top 17
theorem sc__are_words : FnScope ["value", "letters", "word"] ["value", "letters"] (defScope st__are_words) := ⟨rfl, rfl, rfl, by decide +kernel, rfl, by decide +kernel, by decide +kernel⟩
theorem ok__are_words {f : Addr} {fd : FuncData} (T : Txt K mg cAE cBB cBN cBR cTL cBk cPr aBG) (F__is_word : FnC P w K mg base 2 "_is_word" (spF (S_is_word))) (F : Fun K "_are_words" "_are_words" st__are_words f fd) : FnOk P w K mg base (L2.CX P w) 3 f fd ["value", "letters"] (spF (S_are_words)) := by
  refine fn_ok F sc__are_words rfl fun cdv A outer s H E hr => ?_
  have tk : Takes (cxD P w K mg base ["value", "letters", "word"] "_are_words" st__are_words f cdv A outer s H E) (fun cls d _ H => E cls d H) := takes_of rfl rfl rfl rfl
  have hx := pxM tk
  have nd := sc__are_words.nd
  refine ⟨_, (pss_cons (ps_if (PW.pt (pw_or (pt_not (pt_val (pe_callB call_isi (by rfl) T.no_isinstance (by decide +kernel) (pa_cons (pv 0) (pa_cons (pe_bltn (by rfl) T.no_list (by decide +kernel) (v := .ty "list") rfl) pa_nil))))) (pw_or1 (pt_cmpR op_gt (pe_callB call_len (by rfl) T.no_len (by decide +kernel) (pa_cons (pv 0) pa_nil)) (pe_gc T.c_MOST_WORDS) (nomark _))))) (pss_one (ps_ret pe_bl)) pss_nil)
 (pss_one (ps_ret (pe_callB (cr_all rfl) (by rfl) T.no_all (by decide +kernel) (pa_cons (pe_lc (own := [("word", 2)]) (g := gName 2) (tt := tYes) rfl nd (pi_list (pv 0)) (blkOk_by (N := ["value", "letters", "word"]) (sc := defScope st__are_words) (by decide +kernel)) (fun _ _ _ _ _ => pg_name (i := 2) nd rfl (Or.inl rfl)) (fun _ _ _ _ _ => pts_nil) (fun _ _ _ _ _ => (pe_fn F__is_word hr px0 (pa_cons (pv 2) (pa_cons (pv 1) pa_nil))))) pa_nil))))), ?_⟩
  intro x
  obtain ⟨⟨a, n⟩, hf⟩ := x
  have hf : Fits (datOf a) := hf
  show Mini.Ans _ _ (entG (argOf a :: [.im (isD (.int n))]) ++ [.no]) (.ok (isD (.bool (areWordsB (datOf a) n))))
  rw [ent_slOf]
  cases hd : datOf a with
  | list ds =>
    rw [hd] at hf
    have h1 : ∀ x : Sl, Rl (tVar 0) [slOf a, .im (isD (.int n)), x] ds := fun x => rl_slOf hd rfl
    by_cases hl : ds.length ≤ 60
    · refine .ok (ss_seq (G1 := [slOf a, .im (isD (.int n)), .no]) (ss_if0 (st_is (st_or (c := decide (60 < (ds.length : Int))) (st_not (st_B (sv_isLstR (h1 _)))) fun _ => st_test (sv_cmp (g := fun i j => decide (j < i)) (sv_lenL (h1 _)) sv_int)) (by simp; omega)) ss_next) ?_)
      refine ss_ret (sv_is (sv_all (bs := ds.map fun e => isWordB e n) (rl_svl ?_)) (by rw [all_map_id]; simp [areWordsB, hl]))
      refine svl_is (svl_lcMap (h1 _) (fun e => .bool (isWordB e n)) (Nat.le_of_ble_eq_true rfl) hf.1 fun e he => ?_) (by rw [List.map_map]; rfl)
      exact sv_call (S := S_is_word) (sa_im (sv_var rfl) (sa_im (sv_var rfl) sa_nil)) ⟨(e, n), hf.2 e he⟩ rfl rfl
    · exact .ok (ss_seqRt (ss_if1 (st_is (st_or (c := decide (60 < (ds.length : Int))) (st_not (st_B (sv_isLstR (h1 _)))) fun _ => st_test (sv_cmp (g := fun i j => decide (j < i)) (sv_lenL (h1 _)) sv_int)) (by simp; omega)) (ss_ret (sv_is sv_bl (by simp [areWordsB, hl])))))
  | _ =>
    have h1 : Sv (tVar 0) [slOf a, .im (isD (.int n)), .no] (isD (datOf a)) := sv_slOf (fun ds z => by rw [hd] at z; cases z) rfl
    rw [hd] at h1
    exact .ok (ss_seqRt (ss_if1 (st_is (st_or (c := true) (st_not (st_B (sv_isLst h1))) fun z => by simp [dLst] at z) rfl) (ss_ret sv_bl)))

/-! ### Book.__init__ -/
/-- the words handed in, whoever owns them: a book of them, or an error -/
def S_Book (cBB : Addr) : Ini := ⟨{x : PyData × (PyData ⊕ List PyData) // Fits (datOf x.2)}, 2, fun x => [.im (isD x.1.1), argOf x.1.2], fun _ => rfl,
  fun x => match x.1.1, datOf x.1.2 with
    | .int m, .list ds => if belowB (.int m) 61 && areWordsB (.list ds) m then .inl (bookF (.int m) ds) else .inr cBB
    | _, _ => .inr cBB⟩
abbrev st_Book_init : Stmt := inClass (top 18) 0
theorem sc_Book_init : FnScope ["self", "letters", "words"] ["self", "letters", "words"] (defScope st_Book_init) := ⟨rfl, rfl, rfl, by decide +kernel, rfl, by decide +kernel, by decide +kernel⟩
theorem ok_Book_init {f : Addr} {fd : FuncData} (T : Txt K mg cAE cBB cBN cBR cTL cBk cPr aBG) (F_is_below : FnC P w K mg base 2 "is_below" (spF (S_is_below))) (F__are_words : FnC P w K mg base 3 "_are_words" (spF (S_are_words))) (F : Fun K "__init__" "Book.__init__" st_Book_init f fd) : FnOk P w K mg base (L2.CX P w) 4 f fd ["self", "letters", "words"] (spN cBk (S_Book cBB)) := by
  refine ini_ok F sc_Book_init rfl fun cdv A outer s H E hr => ?_
  have tk : Takes (cxD P w K mg base ["self", "letters", "words"] "Book.__init__" st_Book_init f cdv A outer s H E) (fun cls d _ H => E cls d H) := takes_of rfl rfl rfl rfl
  have hx := pxM tk
  have nd := sc_Book_init.nd
  refine ⟨_, (pss_cons (ps_if (pt_not (pt_val (pe_fn F_is_below hr hx (pa_cons (pv 1) (pa_cons (pe_op op_uAdd (pe_gc T.c_MOST_LETTERS) pe_int) pa_nil))))) (pss_one (ps_rs rfl tk (pmk_err T.e_BadBook))) pss_nil)
 (pss_cons (ps_if (pt_not (pt_val (pe_fn F__are_words hr hx (pa_cons (pv 2) (pa_cons (pv 1) pa_nil))))) (pss_one (ps_rs rfl tk (pmk_err T.e_BadBook))) pss_nil)
 (pss_cons (ps_fld (pv 0) (pv 1) rfl)
 (pss_cons (ps_fld (pv 0) (pe_callB call_len (by rfl) T.no_len (by decide +kernel) (pa_cons (pv 2) pa_nil)) rfl)
 (pss_one (ps_fld (pv 0) (pe_callTy call_list_of (by rfl) T.no_list (by decide +kernel) (pa_cons (pv 2) pa_nil)) rfl)))))), ?_⟩
  intro x
  obtain ⟨⟨d, a⟩, hf⟩ := x
  have hf : Fits (datOf a) := hf
  have eG : ∀ p dx, (Sl.ow (owI cBk p dx (flds [])) :: startG 2 [.im (isD d), argOf a]) = [.ow (owI cBk p dx (flds [])), .im (isD d), slOf a] := fun p dx => by cases a <;> rfl
  have t1 : ∀ {x : Sl}, Sv (tCallS (spF S_is_below) (fun _ => E) (tCons (tVar 1) (tCons (tOp (uAdd K) (tC (.int 60)) (tC (.int 1))) tNil))) [x, .im (isD d), slOf a] (isD (.bool (belowB d 61))) := fun {x} =>
    sv_call (S := S_is_below) (sa_im (sv_var rfl) (sa_im (sv_add sv_int sv_int) sa_nil)) (d, 61) rfl rfl
  by_cases c1 : belowB d 61 = true
  · obtain ⟨m, rfl⟩ : ∃ m, d = .int m := by cases d <;> first | exact ⟨_, rfl⟩ | (simp [belowB] at c1; done)
    have t2 : ∀ {x : Sl}, Sv (tCallS (spF S_are_words) (fun _ => E) (tCons (tVar 2) (tCons (tVar 1) tNil))) [x, .im (isD (.int m)), slOf a] (isD (.bool (areWordsB (datOf a) m))) := fun {x} =>
      sv_call (S := S_are_words) (sa_slOf rfl (sa_im (sv_var rfl) sa_nil)) ⟨(a, m), hf⟩ rfl rfl
    by_cases c2 : areWordsB (datOf a) m = true
    · obtain ⟨ds, hd⟩ : ∃ ds, datOf a = .list ds := by cases h : datOf a <;> first | exact ⟨_, rfl⟩ | (rw [h] at c2; simp [areWordsB] at c2; done)
      have hr : (S_Book cBB).res ⟨(.int m, a), hf⟩ = .inl (bookF (.int m) ds) := by
        show (match (PyData.int m), datOf a with
          | .int m, .list ds => if (belowB (.int m) 61 && areWordsB (.list ds) m) = true then Sum.inl (bookF (.int m) ds) else Sum.inr cBB
          | _, _ => Sum.inr cBB) = _
        rw [hd] at c2 ⊢
        show (if (belowB (.int m) 61 && areWordsB (.list ds) m) = true then _ else _) = _
        rw [c1, c2]; rfl
      rw [hr]
      intro p dx
      apply ini_good
      · show Ss _ _ (Sl.ow (owI cBk p dx (flds [])) :: startG 2 [.im (isD (.int m)), argOf a]) _
        rw [eG]
        refine ss_seq (ss_if0 (st_is (st_not (st_B t1)) (by rw [c1]; rfl)) ss_next) ?_
        refine ss_seq (ss_if0 (st_is (st_not (st_B t2)) (by rw [c2]; rfl)) ss_next) ?_
        refine ss_seq (ss_fld (fs := []) rfl (sv_var rfl) rfl (Nat.le_of_ble_eq_true rfl) T.cl_cBk T.n_cBk_letters) ?_
        refine ss_seq (ss_fld (fs := [("letters", isD (.int m))]) rfl (sv_lenL (rl_slOf hd rfl)) rfl (Nat.le_of_ble_eq_true rfl) T.cl_cBk T.n_cBk_size) ?_
        exact ss_fld (fs := [("letters", isD (.int m)), ("size", isD (.int ds.length))]) rfl (sv_svl (svl_list (rl_slOf hd rfl))) rfl (Nat.le_of_ble_eq_true rfl) T.cl_cBk T.n_cBk__words
      · rfl
    · have hr : (S_Book cBB).res ⟨(.int m, a), hf⟩ = .inr cBB := by
        show (match (PyData.int m), datOf a with
          | .int m, .list ds => if (belowB (.int m) 61 && areWordsB (.list ds) m) = true then Sum.inl (bookF (.int m) ds) else Sum.inr cBB
          | _, _ => Sum.inr cBB) = _
        have c2' := Bool.not_eq_true _ ▸ c2
        cases h : datOf a with
        | list ds =>
          rw [h] at c2'
          show (if (belowB (.int m) 61 && areWordsB (.list ds) m) = true then _ else _) = _
          rw [c2', Bool.and_false]; rfl
        | _ => rfl
      rw [hr]
      intro p dx
      apply ini_bad (F' := flds [])
      · show Ss _ _ (Sl.ow (owI cBk p dx (flds [])) :: startG 2 [.im (isD (.int m)), argOf a]) _
        rw [eG]
        refine ss_seq (ss_if0 (st_is (st_not (st_B t1)) (by rw [c1]; rfl)) ss_next) ?_
        exact ss_seqBad (ss_if1 (st_is (st_not (st_B t2)) (by simp [c2])) ss_rs)
      · rfl
  · have hr : (S_Book cBB).res ⟨(d, a), hf⟩ = .inr cBB := by
      have c1' : belowB d 61 = false := Bool.not_eq_true _ ▸ c1
      show (match d, datOf a with
        | .int m, .list ds => if (belowB (.int m) 61 && areWordsB (.list ds) m) = true then Sum.inl (bookF (.int m) ds) else Sum.inr cBB
        | _, _ => Sum.inr cBB) = _
      cases d with
      | int m => cases h : datOf a with
        | list ds =>
          show (if (belowB (.int m) 61 && areWordsB (.list ds) m) = true then _ else _) = _
          rw [c1', Bool.false_and]; rfl
        | _ => rfl
      | _ => rfl
    rw [hr]
    intro p dx
    apply ini_bad (F' := flds [])
    · show Ss _ _ (Sl.ow (owI cBk p dx (flds [])) :: startG 2 [.im (isD d), argOf a]) _
      rw [eG]
      exact ss_seqBad (ss_if1 (st_is (st_not (st_B t1)) (by simp [c1])) ss_rs)
    · rfl

/-! ### Book.words -/
def S_words (cBk : Addr) : Fs := ⟨PyData × List PyData, 1, fun x => [.im (isI cBk (bookF x.1 x.2))], fun _ => rfl, fun x => .ol x.2⟩
abbrev st_Book_words : Stmt := inClass (top 18) 1
theorem sc_Book_words : FnScope ["self"] ["self"] (defScope st_Book_words) := ⟨rfl, rfl, rfl, by decide +kernel, rfl, by decide +kernel, by decide +kernel⟩
theorem ok_Book_words {f : Addr} {fd : FuncData} (T : Txt K mg cAE cBB cBN cBR cTL cBk cPr aBG)  (F : Fun K "words" "Book.words" st_Book_words f fd) : FnOk P w K mg base (L2.CX P w) 1 f fd ["self"] (spF (S_words cBk)) := by
  refine fn_ok F sc_Book_words rfl fun cdv A outer s H E hr => ?_
  have tk : Takes (cxD P w K mg base ["self"] "Book.words" st_Book_words f cdv A outer s H E) (fun cls d _ H => E cls d H) := takes_of rfl rfl rfl rfl
  have hx := pxM tk
  have nd := sc_Book_words.nd
  refine ⟨_, (pss_one (ps_ret (pe_callTy call_list_of (by rfl) T.no_list (by decide +kernel) (pa_cons (pe_fld (pv 0) rfl) pa_nil)))), ?_⟩
  intro x
  exact .ol (ss_retL (svl_list (rl_sv (sv_fld (sv_var rfl) rfl T.cl_cBk T.n_cBk__words))))
def goodBook (d e : PyData) : Bool := match d, e with
  | .int m, .list ds => belowB (.int m) 61 && areWordsB (.list ds) m
  | _, _ => false
theorem book_good {x : (S_Book cBB).α} (h : goodBook x.1.1 (datOf x.1.2) = true) : ∃ m ds, x.1.1 = .int m ∧ datOf x.1.2 = .list ds ∧ (S_Book cBB).res x = .inl (bookF (.int m) ds) := by
  obtain ⟨⟨d, a⟩, hf⟩ := x
  dsimp only at h ⊢
  cases d with
  | int m =>
    cases hd : datOf a with
    | list ds =>
      rw [hd] at h
      refine ⟨m, ds, rfl, rfl, ?_⟩
      show (match (PyData.int m), datOf a with
        | .int m, .list ds => if (belowB (.int m) 61 && areWordsB (.list ds) m) = true then Sum.inl (bookF (.int m) ds) else Sum.inr cBB
        | _, _ => Sum.inr cBB) = _
      rw [hd]
      exact if_pos h
    | _ => rw [hd] at h; simp [goodBook] at h
  | _ => simp [goodBook] at h
theorem good_wD {m : Int} {W : List (List Int)} (h0 : 0 ≤ m) (h1 : m < 61) (h : GoodW W m) : goodBook (.int m) (.list (wD W)) = true := by
  show (belowB (.int m) 61 && areWordsB (.list (wD W)) m) = true
  rw [(belowB_int m 61).mpr ⟨h0, h1⟩, (areWords_iff W m).mpr h]; rfl
theorem res_good {cBB : Addr} {m : Int} {ds : List PyData} (x : (S_Book cBB).α) (h1 : x.1.1 = .int m) (h2 : datOf x.1.2 = .list ds) (h : goodBook (.int m) (.list ds) = true) : (S_Book cBB).res x = .inl (bookF (.int m) ds) := by
  obtain ⟨m', ds', e1, e2, e3⟩ := book_good (cBB := cBB) (x := x) (by rw [h1, h2]; exact h)
  rw [h1] at e1
  rw [h2] at e2
  cases e1
  cases e2
  exact e3

/-! ### pairs -/
def pairF (cBk : Addr) (m1 : Int) (d1 : List PyData) (m2 : Int) (d2 : List PyData) : Fl := flds [("first", isI cBk (bookF (.int m1) d1)), ("second", isI cBk (bookF (.int m2) d2)), ("letters", isD (.int m1))]
theorem pairF_no {cBk : Addr} {m1 m2 : Int} {d1 d2 : List PyData} {f : Str} (h : ([("first", isI cBk (bookF (.int m1) d1)), ("second", isI cBk (bookF (.int m2) d2)), ("letters", isD (.int m1))] : List (Str × Ty)).lookup f = none) : ∀ vs B, (pairF cBk m1 d1 m2 d2).r vs B → vs.lookup f = none := fun vs B r => (FldsOk.look r).2 h

def S_Pair (cBk cBB : Addr) : Ini := ⟨(Int × List PyData) × (Int × List PyData), 2, fun x => [.im (isI cBk (bookF (.int x.1.1) x.1.2)), .im (isI cBk (bookF (.int x.2.1) x.2.2))], fun _ => rfl,
  fun x => if x.1.1 = x.2.1 then .inl (pairF cBk x.1.1 x.1.2 x.2.1 x.2.2) else .inr cBB⟩
abbrev st_Pair_init : Stmt := inClass (top 19) 0
theorem sc_Pair_init : FnScope ["self", "first", "second"] ["self", "first", "second"] (defScope st_Pair_init) := ⟨rfl, rfl, rfl, by decide +kernel, rfl, by decide +kernel, by decide +kernel⟩
theorem ok_Pair_init {f : Addr} {fd : FuncData} (T : Txt K mg cAE cBB cBN cBR cTL cBk cPr aBG)  (F : Fun K "__init__" "Pair.__init__" st_Pair_init f fd) : FnOk P w K mg base (L2.CX P w) 1 f fd ["self", "first", "second"] (spN cPr (S_Pair cBk cBB)) := by
  refine ini_ok F sc_Pair_init rfl fun cdv A outer s H E hr => ?_
  have tk : Takes (cxD P w K mg base ["self", "first", "second"] "Pair.__init__" st_Pair_init f cdv A outer s H E) (fun cls d _ H => E cls d H) := takes_of rfl rfl rfl rfl
  have hx := pxM tk
  have nd := sc_Pair_init.nd
  refine ⟨_, (pss_cons (ps_if (pt_cmpR (op_neD hr.units) (pe_fld (pv 1) rfl) (pe_fld (pv 2) rfl) (nomark _)) (pss_one (ps_rs rfl tk (pmk_err T.e_BadBook))) pss_nil)
 (pss_cons (ps_fld (pv 0) (pv 1) rfl)
 (pss_cons (ps_fld (pv 0) (pv 2) rfl)
 (pss_one (ps_fld (pv 0) (pe_fld (pv 1) rfl) rfl))))), ?_⟩
  intro x
  obtain ⟨⟨m1, d1⟩, ⟨m2, d2⟩⟩ := x
  have t1 : ∀ {y : Sl}, St' (tTest (tOp (rNeD K) (tFld K (tVar 1) "letters") (tFld K (tVar 2) "letters"))) [y, .im (isI cBk (bookF (.int m1) d1)), .im (isI cBk (bookF (.int m2) d2))] (!decide (m1 = m2)) := fun {y} =>
    st_test (sv_neI (sv_fld (sv_var rfl) rfl T.cl_cBk T.n_cBk_letters) (sv_fld (sv_var rfl) rfl T.cl_cBk T.n_cBk_letters))
  by_cases c : m1 = m2
  · have hr : (S_Pair cBk cBB).res ((m1, d1), (m2, d2)) = .inl (pairF cBk m1 d1 m2 d2) := if_pos c
    rw [hr]
    intro p dx
    apply ini_good
    · show Ss _ _ (Sl.ow (owI cPr p dx (flds [])) :: [.im (isI cBk (bookF (.int m1) d1)), .im (isI cBk (bookF (.int m2) d2))]) _
      refine ss_seq (ss_if0 (st_is t1 (by simp [c])) ss_next) ?_
      refine ss_seq (ss_fld (fs := []) rfl (sv_var rfl) rfl (Nat.le_of_ble_eq_true rfl) T.cl_cPr T.n_cPr_first) ?_
      refine ss_seq (ss_fld (fs := [("first", isI cBk (bookF (.int m1) d1))]) rfl (sv_var rfl) rfl (Nat.le_of_ble_eq_true rfl) T.cl_cPr T.n_cPr_second) ?_
      exact ss_fld (fs := [("first", isI cBk (bookF (.int m1) d1)), ("second", isI cBk (bookF (.int m2) d2))]) rfl (sv_fld (sv_var rfl) rfl T.cl_cBk T.n_cBk_letters) rfl (Nat.le_of_ble_eq_true rfl) T.cl_cPr T.n_cPr_letters
    · rfl
  · have hr : (S_Pair cBk cBB).res ((m1, d1), (m2, d2)) = .inr cBB := if_neg c
    rw [hr]
    intro p dx
    apply ini_bad (F' := flds [])
    · show Ss _ _ (Sl.ow (owI cPr p dx (flds [])) :: [.im (isI cBk (bookF (.int m1) d1)), .im (isI cBk (bookF (.int m2) d2))]) _
      exact ss_seqBad (ss_if1 (st_is t1 (by simp [c])) ss_rs)
    · rfl

/-! ### Book.word, Pair.is_even -/
def S_word (cBk cBN : Addr) : Fs := ⟨(PyData × List PyData) × PyData, 2, fun x => [.im (isI cBk (bookF x.1.1 x.1.2)), .im (isD x.2)], fun _ => rfl,
  fun x => if belowB x.2 x.1.2.length then .ok (isD (match x.2 with | .int i => x.1.2.getD i.toNat .none | _ => .none)) else .bad cBN⟩
abbrev st_Book_word : Stmt := inClass (top 18) 2
theorem sc_Book_word : FnScope ["self", "number"] ["self", "number"] (defScope st_Book_word) := ⟨rfl, rfl, rfl, by decide +kernel, rfl, by decide +kernel, by decide +kernel⟩
theorem ok_Book_word {f : Addr} {fd : FuncData} (T : Txt K mg cAE cBB cBN cBR cTL cBk cPr aBG) (F_is_below : FnC P w K mg base 2 "is_below" (spF (S_is_below))) (F : Fun K "word" "Book.word" st_Book_word f fd) : FnOk P w K mg base (L2.CX P w) 3 f fd ["self", "number"] (spF (S_word cBk cBN)) := by
  refine fn_ok F sc_Book_word rfl fun cdv A outer s H E hr => ?_
  have tk : Takes (cxD P w K mg base ["self", "number"] "Book.word" st_Book_word f cdv A outer s H E) (fun cls d _ H => E cls d H) := takes_of rfl rfl rfl rfl
  have hx := pxM tk
  have nd := sc_Book_word.nd
  refine ⟨_, (pss_cons (ps_if (pt_not (pt_val (pe_fn F_is_below hr hx (pa_cons (pv 1) (pa_cons (pe_fld (pv 0) rfl) pa_nil))))) (pss_one (ps_rs rfl tk (pmk_err T.e_BadNumber))) pss_nil)
 (pss_one (ps_ret (pe_ix ix_seq (pe_fld (pv 0) rfl) (pv 1) (fun _ _ => rfl))))), ?_⟩
  intro x
  obtain ⟨⟨m, ds⟩, d⟩ := x
  have t1 : Sv (tCallS (spF S_is_below) (fun _ => E) (tCons (tVar 1) (tCons (tFld K (tVar 0) "size") tNil))) [.im (isI cBk (bookF m ds)), .im (isD d)] (isD (.bool (belowB d ds.length))) :=
    sv_call (S := S_is_below) (sa_im (sv_var rfl) (sa_im (sv_fld (sv_var rfl) rfl T.cl_cBk T.n_cBk_size) sa_nil)) (d, ds.length) rfl rfl
  by_cases c1 : belowB d ds.length = true
  · obtain ⟨i, rfl⟩ : ∃ i, d = .int i := by cases d <;> first | exact ⟨_, rfl⟩ | (simp [belowB] at c1; done)
    have hi : 0 ≤ i ∧ i < ds.length := by simpa [belowB] using c1
    show Mini.Ans _ _ _ (if belowB (.int i) ds.length = true then .ok (isD (ds.getD i.toNat .none)) else .bad cBN)
    rw [if_pos c1]
    refine .ok (ss_seq (ss_if0 (st_is (st_not (st_B t1)) (by simp [c1])) ss_next) (ss_ret ?_))
    refine sv_ixL (rl_sv (sv_fld (sv_var rfl) rfl T.cl_cBk T.n_cBk__words)) (sv_var rfl) (at_getD hi.1 hi.2)
  · show Mini.Ans _ _ _ (if belowB d ds.length = true then _ else .bad cBN)
    rw [if_neg c1]
    exact .bad (ss_seqBad (ss_if1 (st_is (st_not (st_B t1)) (by simp [c1])) ss_rs))

def S_is_even (cBk cPr : Addr) : Fs := ⟨Int × List PyData × List PyData, 1, fun x => [.im (isI cPr (pairF cBk x.1 x.2.1 x.1 x.2.2))], fun _ => rfl, fun x => .ok (isD (.bool (decide ((x.2.1.length : Int) = (x.2.2.length : Int)))))⟩
abbrev st_Pair_is_even : Stmt := inClass (top 19) 2
theorem sc_Pair_is_even : FnScope ["self"] ["self"] (defScope st_Pair_is_even) := ⟨rfl, rfl, rfl, by decide +kernel, rfl, by decide +kernel, by decide +kernel⟩
theorem ok_Pair_is_even {f : Addr} {fd : FuncData} (T : Txt K mg cAE cBB cBN cBR cTL cBk cPr aBG)  (F : Fun K "is_even" "Pair.is_even" st_Pair_is_even f fd) : FnOk P w K mg base (L2.CX P w) 1 f fd ["self"] (spF (S_is_even cBk cPr)) := by
  refine fn_ok F sc_Pair_is_even rfl fun cdv A outer s H E hr => ?_
  have tk : Takes (cxD P w K mg base ["self"] "Pair.is_even" st_Pair_is_even f cdv A outer s H E) (fun cls d _ H => E cls d H) := takes_of rfl rfl rfl rfl
  have hx := pxM tk
  have nd := sc_Pair_is_even.nd
  refine ⟨_, (pss_one (ps_ret (pe_cmpR (op_eqD hr.units) (pe_fld (pe_fld (pv 0) rfl) rfl) (pe_fld (pe_fld (pv 0) rfl) rfl) (nomark _)))), ?_⟩
  intro x
  obtain ⟨m, A, B⟩ := x
  refine .ok (ss_ret (sv_eqI (sv_fld (sv_fld (sv_var rfl) rfl T.cl_cPr T.n_cPr_first) rfl T.cl_cBk T.n_cBk_size) (sv_fld (sv_fld (sv_var rfl) rfl T.cl_cPr T.n_cPr_second) rfl T.cl_cBk T.n_cBk_size)))

end
end K58

namespace K58
open PySem L2 Evl Mini PyProof.Rows
theorem sv_neQ {K : PySem.W.Frag} {G : Gm} {ta tb : TE} {b : Bool} {v w : List Int} (ha : Sv ta G (isD (SqD b v))) (hb : Sv tb G (isD (SqD b w))) (hv : b = true → InR v ∧ InR w) : Sv (tOp (rNeD K) ta tb) G (isD (.bool (!decide (v = w)))) := by
  cases b with
  | true => exact sv_is (sv_neS (x := sg v) (y := sg w) ha hb (sg_ok v) (sg_ok w)) (by rw [sg_eq_iff (hv rfl).1 (hv rfl).2])
  | false => exact sv_is (sv_ne (d := .tuple (v.map .int)) (e := .tuple (w.map .int)) ha hb (shaped_tints v) (shaped_tints w)) (by rw [eqv_tints])
section
variable {P : Program} {w : World} {K : PySem.W.Frag} {mg : Str → Option Value} {base : Heap} {cAE cBB cBN cBR cTL cBk cPr aBG : Addr}
/-! ### signs_of, word_of -/
def WI (w : List Int) : Prop := InR w ∧ w.length ≤ 10000
def intD (d : PyData) : Int := match d with
  | .int i => i
  | _ => 0
def S_signs_of : Fs := ⟨{w : List Int // WI w}, 1, fun x => [.im (isD (.tuple (x.1.map .int)))], fun _ => rfl, fun x => .ok (isD (.str (sg x.1)))⟩
abbrev st_signs_of : Stmt := top 22
theorem sc_signs_of : FnScope ["word", "letter"] ["word"] (defScope st_signs_of) := ⟨rfl, rfl, rfl, by decide +kernel, rfl, by decide +kernel, by decide +kernel⟩
theorem ok_signs_of {f : Addr} {fd : FuncData} (T : Txt K mg cAE cBB cBN cBR cTL cBk cPr aBG)  (F : Fun K "signs_of" "signs_of" st_signs_of f fd) : FnOk P w K mg base (L2.CX P w) 1 f fd ["word"] (spF (S_signs_of)) := by
  refine fn_ok F sc_signs_of rfl fun cdv A outer s H E hr => ?_
  have tk : Takes (cxD P w K mg base ["word", "letter"] "signs_of" st_signs_of f cdv A outer s H E) (fun cls d _ H => E cls d H) := takes_of rfl rfl rfl rfl
  have hx := pxM tk
  have nd := sc_signs_of.nd
  refine ⟨_, (pss_one (ps_ret (pe_join pe_str (pe_lc (own := [("letter", 1)]) (g := gName 1) (tt := tYes) rfl nd (pi_tup (pv 0)) (blkOk_by (N := ["word", "letter"]) (sc := defScope st_signs_of) (by decide +kernel)) (fun _ _ _ _ _ => pg_name (i := 1) nd rfl (Or.inl rfl)) (fun _ _ _ _ _ => pts_nil) (fun _ _ _ _ _ => (pe_ix (r := rIx K) ix_seq (pe_gc T.c_SIGNS) (pv 1) (fun _ _ => rfl))))))), ?_⟩
  intro x
  obtain ⟨w, hr, hl⟩ := x
  have hz : (sizeLine : Nat) = 16777216 := sizeLine_eq
  have e1 : (w.map PyData.int).map (fun d => PyData.str ⟨#[sgC (intD d)]⟩) = (w.map fun i => (⟨#[sgC i]⟩ : Str)).map PyData.str := by rw [List.map_map, List.map_map]; rfl
  refine .ok (ss_ret (sv_is (sv_join (z := "") (xs := w.map fun i => (⟨#[sgC i]⟩ : Str)) (rl_svl (svl_is (svl_lcMapT (K := K) (j := 1) (ds := w.map .int) (sv_var rfl) (fun d => .str ⟨#[sgC (intD d)]⟩) (Nat.le_of_ble_eq_true rfl) (by rw [List.length_map]; omega) fun d hd => ?_) e1)) ?_) (by rw [join_sg])))
  · obtain ⟨i, hi, rfl⟩ := List.mem_map.mp hd
    have h := hr i hi
    exact sv_ixS (z := signs) sv_str (sv_var rfl) (by decide +kernel) (by
      rw [SL_eq]
      have e : ((i.toNat : Nat) : Int) = i := by omega
      rw [← e]
      exact atI_nat (by rw [e]; exact sgC_at h.1 h.2))
  · rw [List.map_map, List.length_map]
    have e : ∀ w : List Int, (w.map ((fun s : Str => s.length) ∘ fun i => (⟨#[sgC i]⟩ : Str))).sum = w.length := fun w => by
      induction w with
      | nil => rfl
      | cons i w ih => rw [List.map_cons, List.sum_cons, ih, List.length_cons]; show 1 + w.length = _; omega
    have e0 : ("" : Str).length = 0 := by decide +kernel
    rw [e w, e0]
    omega
/-! ### _check_books -/
def S_check_books (cBk cPr cBB : Addr) : Fs := ⟨Int × List PyData × List PyData, 1, fun x => [.im (isI cPr (pairF cBk x.1 x.2.1 x.1 x.2.2))], fun _ => rfl, fun x => if x.2.1.length = x.2.2.length then .ok (isD .none) else .bad cBB⟩
abbrev st__check_books : Stmt := top 29
theorem sc__check_books : FnScope ["pair"] ["pair"] (defScope st__check_books) := ⟨rfl, rfl, rfl, by decide +kernel, rfl, by decide +kernel, by decide +kernel⟩
theorem ok__check_books {f : Addr} {fd : FuncData} (T : Txt K mg cAE cBB cBN cBR cTL cBk cPr aBG) (M_Pair_is_even : MtC P w K mg base 1 cPr "is_even" (spF (S_is_even cBk cPr))) (F : Fun K "_check_books" "_check_books" st__check_books f fd) : FnOk P w K mg base (L2.CX P w) 2 f fd ["pair"] (spF (S_check_books cBk cPr cBB)) := by
  refine fn_ok F sc__check_books rfl fun cdv A outer s H E hr => ?_
  have tk : Takes (cxD P w K mg base ["pair"] "_check_books" st__check_books f cdv A outer s H E) (fun cls d _ H => E cls d H) := takes_of rfl rfl rfl rfl
  have hx := pxM tk
  have nd := sc__check_books.nd
  refine ⟨_, (pss_one (ps_if (pt_not (pt_val (pe_mt0 (pv 0) M_Pair_is_even hr hx))) (pss_one (ps_rs rfl tk (pmk_err T.e_BadBook))) pss_nil)), ?_⟩
  intro x
  obtain ⟨m, A, B⟩ := x
  show Mini.Ans _ _ _ (if A.length = B.length then .ok (isD .none) else .bad cBB)
  by_cases c : A.length = B.length
  · rw [if_pos c]
    exact .non (ss_if0 (st_is (st_not (st_B (sv_mt (S := S_is_even cBk cPr) (sv_var rfl) (pairF_no rfl) sa_nil (m, A, B) rfl rfl))) (by show (!decide ((A.length : Int) = (B.length : Int))) = false; rw [c, decide_eq_true rfl]; rfl)) ss_next)
  · rw [if_neg c]
    exact .bad (ss_if1 (st_is (st_not (st_B (sv_mt (S := S_is_even cBk cPr) (sv_var rfl) (pairF_no rfl) sa_nil (m, A, B) rfl rfl))) (by show (!decide ((A.length : Int) = (B.length : Int))) = true; rw [decide_eq_false (by omega)]; rfl)) ss_rs)
def S_size (K : PySem.W.Frag) : Fs := ⟨{x : Bool × List Int × List Int // x.2.1.length ≤ sizeLine ∧ x.2.2.length ≤ sizeLine}, 1, fun x => [.im (isP K (pairQ x.1.1 x.1.2.1 x.1.2.2))], fun _ => rfl, fun x => .ok (isD (.int ((x.1.2.1.length + x.1.2.2.length : Nat) : Int)))⟩
abbrev st__size : Stmt := top 30
theorem sc__size : FnScope ["state", "first", "second"] ["state"] (defScope st__size) := ⟨rfl, rfl, rfl, by decide +kernel, rfl, by decide +kernel, by decide +kernel⟩
theorem ok__size {f : Addr} {fd : FuncData} (T : Txt K mg cAE cBB cBN cBR cTL cBk cPr aBG)  (F : Fun K "_size" "_size" st__size f fd) : FnOk P w K mg base (L2.CX P w) 1 f fd ["state"] (spF (S_size K)) := by
  refine fn_ok F sc__size rfl fun cdv A outer s H E hr => ?_
  have tk : Takes (cxD P w K mg base ["state", "first", "second"] "_size" st__size f cdv A outer s H E) (fun cls d _ H => E cls d H) := takes_of rfl rfl rfl rfl
  have hx := pxM tk
  have nd := sc__size.nd
  refine ⟨_, (pss_cons (ps_asg (pv 0) (pg_tup rfl (pgs_cons (pg_name (i := 1) nd rfl (Or.inl rfl)) (pgs_cons (pg_name (i := 2) nd rfl (Or.inl rfl)) pgs_nil))))
 (pss_one (ps_ret (pe_op op_uAdd (pe_callB call_len (by rfl) T.no_len (by decide +kernel) (pa_cons (pv 1) pa_nil)) (pe_callB call_len (by rfl) T.no_len (by decide +kernel) (pa_cons (pv 2) pa_nil)))))), ?_⟩
  intro x
  obtain ⟨⟨b, x, y⟩, hx, hy⟩ := x
  refine .ok (ss_seq (ss_unpP2 (d1 := SqD b x) (d2 := SqD b y) (sv_var rfl)) (ss_ret (sv_is (sv_add (sv_lenQ (b := b) (w := x) (sv_var rfl) hx) (sv_lenQ (b := b) (w := y) (sv_var rfl) hy)) ?_)))
  congr 1
def S_check_state (K : PySem.W.Frag) (cTL : Addr) : Fs := ⟨{x : Bool × List Int × List Int // x.2.1.length ≤ sizeLine ∧ x.2.2.length ≤ sizeLine}, 1, fun x => [.im (isP K (pairQ x.1.1 x.1.2.1 x.1.2.2))], fun _ => rfl, fun x => if x.1.2.1.length + x.1.2.2.length ≤ 5000 then .ok (isD .none) else .bad cTL⟩
abbrev st__check_state : Stmt := top 31
theorem sc__check_state : FnScope ["state"] ["state"] (defScope st__check_state) := ⟨rfl, rfl, rfl, by decide +kernel, rfl, by decide +kernel, by decide +kernel⟩
theorem ok__check_state {f : Addr} {fd : FuncData} (T : Txt K mg cAE cBB cBN cBR cTL cBk cPr aBG) (F__size : FnC P w K mg base 1 "_size" (spF (S_size K))) (F : Fun K "_check_state" "_check_state" st__check_state f fd) : FnOk P w K mg base (L2.CX P w) 2 f fd ["state"] (spF (S_check_state K cTL)) := by
  refine fn_ok F sc__check_state rfl fun cdv A outer s H E hr => ?_
  have tk : Takes (cxD P w K mg base ["state"] "_check_state" st__check_state f cdv A outer s H E) (fun cls d _ H => E cls d H) := takes_of rfl rfl rfl rfl
  have hx := pxM tk
  have nd := sc__check_state.nd
  refine ⟨_, (pss_one (ps_if (pt_cmpR op_gt (pe_fn F__size hr hx (pa_cons (pv 0) pa_nil)) (pe_gc T.c_LONGEST_WORD) (nomark _)) (pss_one (ps_rs rfl tk (pmk_err T.e_TooLong))) pss_nil)), ?_⟩
  intro x
  obtain ⟨⟨b, x, y⟩, hx, hy⟩ := x
  have t : St' (tTest (tOp (rI0 fun i j => .bl (decide (j < i))) (tCallS (spF (S_size K)) (fun _ => E) (tCons (tVar 0) tNil)) (tC (.int 5000)))) [.im (isP K (pairQ b x y))] (decide (5000 < ((x.length + y.length : Nat) : Int))) :=
    st_test (sv_cmp (g := fun i j => decide (j < i)) (sv_call (S := S_size K) (sa_im (sv_var rfl) sa_nil) ⟨(b, x, y), hx, hy⟩ rfl rfl) sv_int)
  show Mini.Ans _ _ _ (if x.length + y.length ≤ 5000 then .ok (isD .none) else .bad cTL)
  by_cases c : x.length + y.length ≤ 5000
  · rw [if_pos c]
    exact .non (ss_if0 (st_is t (decide_eq_false (by omega))) ss_next)
  · rw [if_neg c]
    exact .bad (ss_if1 (st_is t (decide_eq_true (by omega))) ss_rs)
end
/-! ### what is ahead -/
def behF (x y f g : List Int) : Option (List Int × List Int) :=
  if (x ++ f).take (min (x ++ f).length (y ++ g).length) = (y ++ g).take (min (x ++ f).length (y ++ g).length) then some ((x ++ f).drop (min (x ++ f).length (y ++ g).length), (y ++ g).drop (min (x ++ f).length (y ++ g).length)) else none
def behD (b : Bool) (o : Option (List Int × List Int)) : PyData := match o with
  | none => .none
  | some p => pairQ b p.1 p.2
theorem inR_cat {a b : List Int} (ha : InR a) (hb : InR b) : InR (a ++ b) := fun v hv => (List.mem_append.mp hv).elim (ha v) (hb v)
theorem inR_take {a : List Int} (h : InR a) (k : Nat) : InR (a.take k) := fun v hv => h v (List.mem_of_mem_take hv)
theorem inR_drop {a : List Int} (h : InR a) (k : Nat) : InR (a.drop k) := fun v hv => h v (List.mem_of_mem_drop hv)
theorem behF_in {x y f g : List Int} {p : List Int × List Int} (h : behF x y f g = some p) (hx : InR x) (hy : InR y) (hf : InR f) (hg : InR g) : InR p.1 ∧ InR p.2 := by
  unfold behF at h
  split at h
  · cases h; exact ⟨inR_drop (inR_cat hx hf) _, inR_drop (inR_cat hy hg) _⟩
  · cases h
theorem behF_len {x y f g : List Int} {p : List Int × List Int} (h : behF x y f g = some p) : p.1.length ≤ x.length + f.length ∧ p.2.length ≤ y.length + g.length := by
  unfold behF at h
  split at h
  · cases h
    simp only [List.length_drop, List.length_append]
    omega
  · cases h
section
variable {P : Program} {w : World} {K : PySem.W.Frag} {mg : Str → Option Value} {base : Heap} {cAE cBB cBN cBR cTL cBk cPr aBG : Addr}
/-! ### _behind -/
def S_behind (K : PySem.W.Frag) : Fs := ⟨{x : Bool × (List Int × List Int) × List Int × List Int // (x.2.1.1.length ≤ 100000 ∧ x.2.1.2.length ≤ 100000 ∧ x.2.2.1.length ≤ 100000 ∧ x.2.2.2.length ≤ 100000) ∧ (x.1 = true → InR x.2.1.1 ∧ InR x.2.1.2 ∧ InR x.2.2.1 ∧ InR x.2.2.2)}, 3,
  fun x => [.im (stT K x.1.1 x.1.2.1.1 x.1.2.1.2), .im (isD (SqD x.1.1 x.1.2.2.1)), .im (isD (SqD x.1.1 x.1.2.2.2))], fun _ => rfl, fun x => .ok (isD (behD x.1.1 (behF x.1.2.1.1 x.1.2.1.2 x.1.2.2.1 x.1.2.2.2)))⟩
abbrev st__behind : Stmt := top 32
theorem sc__behind : FnScope ["state", "first", "second", "one", "other", "common"] ["state", "first", "second"] (defScope st__behind) := ⟨rfl, rfl, rfl, by decide +kernel, rfl, by decide +kernel, by decide +kernel⟩
theorem ok__behind {f : Addr} {fd : FuncData} (T : Txt K mg cAE cBB cBN cBR cTL cBk cPr aBG)  (F : Fun K "_behind" "_behind" st__behind f fd) : FnOk P w K mg base (L2.CX P w) 1 f fd ["state", "first", "second"] (spF (S_behind K)) := by
  refine fn_ok F sc__behind rfl fun cdv A outer s H E hr => ?_
  have tk : Takes (cxD P w K mg base ["state", "first", "second", "one", "other", "common"] "_behind" st__behind f cdv A outer s H E) (fun cls d _ H => E cls d H) := takes_of rfl rfl rfl rfl
  have hx := pxM tk
  have nd := sc__behind.nd
  refine ⟨_, (pss_cons (ps_set (i := 3) nd rfl (Or.inl rfl) (pe_op op_uAdd (pe_ix ix_seq (pv 0) pe_int (fun _ _ => rfl)) (pv 1)))
 (pss_cons (ps_set (i := 4) nd rfl (Or.inl rfl) (pe_op op_uAdd (pe_ix ix_seq (pv 0) pe_int (fun _ _ => rfl)) (pv 2)))
 (pss_cons (ps_set (i := 5) nd rfl (Or.inl rfl) (pe_callB (call_min2 rfl) (by rfl) T.no_min (by decide +kernel) (pa_cons (pe_callB call_len (by rfl) T.no_len (by decide +kernel) (pa_cons (pv 3) pa_nil)) (pa_cons (pe_callB call_len (by rfl) T.no_len (by decide +kernel) (pa_cons (pv 4) pa_nil)) pa_nil))))
 (pss_cons (ps_if (pt_cmpR (op_neD hr.units) (pe_slice (r := uSlS K) sl_uSlS (pv 3) po_none (po_some (pv 5))) (pe_slice (r := uSlS K) sl_uSlS (pv 4) po_none (po_some (pv 5))) (nomark _)) (pss_one (ps_ret pe_non)) pss_nil)
 (pss_one (ps_ret (pe_tup (pa_cons (pe_slice (r := uSlS K) sl_uSlS (pv 3) (po_some (pv 5)) po_none) (pa_cons (pe_slice (r := uSlS K) sl_uSlS (pv 4) (po_some (pv 5)) po_none) pa_nil))))))))), ?_⟩
  intro x
  obtain ⟨⟨b, ⟨x, y⟩, f, g⟩, ⟨l1, l2, l3, l4⟩, hi⟩ := x
  have hz : (sizeLine : Nat) = 16777216 := sizeLine_eq
  have l1 : x.length ≤ 100000 := l1
  have l2 : y.length ≤ 100000 := l2
  have l3 : f.length ≤ 100000 := l3
  have l4 : g.length ≤ 100000 := l4
  have hi : b = true → InR x ∧ InR y ∧ InR f ∧ InR g := hi
  have z1 : (x ++ f).length ≤ sizeLine := by rw [List.length_append]; omega
  have z2 : (y ++ g).length ≤ sizeLine := by rw [List.length_append]; omega
  show Mini.Ans _ _ [.im (stT K b x y), .im (isD (SqD b f)), .im (isD (SqD b g)), .no, .no, .no] (.ok (isD (behD b (behF x y f g))))
  refine .ok (ss_seq (ss_set (P := isD (SqD b (x ++ f))) (sv_catQ (sv_st0 rfl) (sv_var rfl) (by omega))) (ss_seq (ss_set (P := isD (SqD b (y ++ g))) (sv_catQ (sv_st1 rfl) (sv_var rfl) (by omega))) ?_))
  have h1 : b = true → InR (x ++ f) := fun h => inR_cat (hi h).1 (hi h).2.2.1
  have h2 : b = true → InR (y ++ g) := fun h => inR_cat (hi h).2.1 (hi h).2.2.2
  unfold behF
  generalize x ++ f = u at z1 h1 ⊢
  generalize y ++ g = v at z2 h2 ⊢
  refine ss_seq (ss_set (P := isD (.int ((min u.length v.length : Nat) : Int))) (sv_is (sv_min2 (sv_lenQ (b := b) (w := u) (sv_pD (sv_var rfl)) z1) (sv_lenQ (b := b) (w := v) (sv_pD (sv_var rfl)) z2)) (by congr 1; split <;> omega))) ?_
  have z3 : min u.length v.length ≤ sizeLine := by omega
  generalize min u.length v.length = k
  have t : ∀ {a : Sl}, St' (tTest (tOp (rNeD K) (tSl (uSlS K) (tVar 3) tNoPart (tPart (tVar 5))) (tSl (uSlS K) (tVar 4) tNoPart (tPart (tVar 5))))) [.im (stT K b x y), .im (isD (SqD b f)), .im (isD (SqD b g)), .im (isD (SqD b u)), .im (isD (SqD b v)), .im (isD (.int (k : Int)))] (!decide (u.take k = v.take k)) := fun {a} =>
    st_test (sv_neQ (sv_takeQ (sv_var rfl) (sv_var rfl) z1) (sv_takeQ (sv_var rfl) (sv_var rfl) z2) fun h => ⟨inR_take (h1 h) k, inR_take (h2 h) k⟩)
  by_cases c : u.take k = v.take k
  · rw [if_pos c]
    refine ss_seq (ss_if0 (st_is (t (a := .no)) (by rw [decide_eq_true c]; rfl)) ss_next) (ss_ret ?_)
    exact sv_tup (ds := [SqD b (u.drop k), SqD b (v.drop k)]) (sa_ims (sv_dropQ (sv_var rfl) (sv_var rfl) z1) (sa_ims (sv_dropQ (sv_var rfl) (sv_var rfl) z2) sa_nil)) (by show 2 ≤ sizeLine; decide)
  · rw [if_neg c]
    exact ss_seqRt (ss_if1 (st_is (t (a := .no)) (by rw [decide_eq_false c]; rfl)) (ss_ret sv_non))
def wAt (W : List (List Int)) (n : Int) : List Int := W.getD n.toNat []
theorem wAt_ok {W : List (List Int)} {m n : Int} (h : GoodW W m) (h0 : 0 ≤ n) (h1 : n < W.length) : 1 ≤ (wAt W n).length ∧ (wAt W n).length ≤ 5000 ∧ ∀ v ∈ wAt W n, 0 ≤ v ∧ v < m := by
  have hn : n.toNat < W.length := by omega
  have e : wAt W n = W[n.toNat] := by unfold wAt; rw [List.getD_eq_getElem?_getD, List.getElem?_eq_getElem hn]; rfl
  rw [e]
  exact h.2 _ (List.getElem_mem hn)
theorem wAt_WI {W : List (List Int)} {m n : Int} (h : GoodW W m) (hm : m ≤ 60) (h0 : 0 ≤ n) (h1 : n < W.length) : WI (wAt W n) := by
  obtain ⟨_, h2, h3⟩ := wAt_ok h h0 h1
  exact ⟨fun v hv => ⟨(h3 v hv).1, by have := (h3 v hv).2; omega⟩, by omega⟩
theorem word_res {W : List (List Int)} {m n : Int} (h0 : 0 ≤ n) (h1 : n < W.length) : (S_word cBk cBN).res ((.int m, wD W), .int n) = .ok (isD (.tuple ((wAt W n).map .int))) := by
  have e : (wD W).length = W.length := by unfold wD; rw [List.length_map]
  show (if belowB (.int n) (wD W).length then Rs.ok (isD ((wD W).getD n.toNat .none)) else .bad cBN) = _
  rw [if_pos (by rw [e]; exact (belowB_int n _).mpr ⟨h0, h1⟩)]
  have hn : n.toNat < W.length := by omega
  rw [List.getD_eq_getElem?_getD, wD_get hn]
  rfl
def S_word_pair (cBk cPr : Addr) : Fs := ⟨{x : (Int × List (List Int) × List (List Int)) × Int // (GoodW x.1.2.1 x.1.1 ∧ GoodW x.1.2.2 x.1.1 ∧ x.1.1 ≤ 60) ∧ 0 ≤ x.2 ∧ x.2 < x.1.2.1.length ∧ x.2 < x.1.2.2.length}, 2,
  fun x => [.im (isI cPr (pairF cBk x.1.1.1 (wD x.1.1.2.1) x.1.1.1 (wD x.1.1.2.2))), .im (isD (.int x.1.2))], fun _ => rfl, fun x => .ok (isD (pairQ true (wAt x.1.1.2.1 x.1.2) (wAt x.1.1.2.2 x.1.2)))⟩
abbrev st__word_pair : Stmt := top 33
theorem sc__word_pair : FnScope ["pair", "number"] ["pair", "number"] (defScope st__word_pair) := ⟨rfl, rfl, rfl, by decide +kernel, rfl, by decide +kernel, by decide +kernel⟩
theorem ok__word_pair {f : Addr} {fd : FuncData} (T : Txt K mg cAE cBB cBN cBR cTL cBk cPr aBG) (F_signs_of : FnC P w K mg base 1 "signs_of" (spF (S_signs_of))) (M_Book_word : MtC P w K mg base 3 cBk "word" (spF (S_word cBk cBN))) (F : Fun K "_word_pair" "_word_pair" st__word_pair f fd) : FnOk P w K mg base (L2.CX P w) 4 f fd ["pair", "number"] (spF (S_word_pair cBk cPr)) := by
  refine fn_ok F sc__word_pair rfl fun cdv A outer s H E hr => ?_
  have tk : Takes (cxD P w K mg base ["pair", "number"] "_word_pair" st__word_pair f cdv A outer s H E) (fun cls d _ H => E cls d H) := takes_of rfl rfl rfl rfl
  have hx := pxM tk
  have nd := sc__word_pair.nd
  refine ⟨_, (pss_one (ps_ret (pe_tup (pa_cons (pe_fn F_signs_of hr hx (pa_cons (pe_mt (pe_fld (pv 0) rfl) M_Book_word hr hx (pa_cons (pv 1) pa_nil)) pa_nil)) (pa_cons (pe_fn F_signs_of hr hx (pa_cons (pe_mt (pe_fld (pv 0) rfl) M_Book_word hr hx (pa_cons (pv 1) pa_nil)) pa_nil)) pa_nil))))), ?_⟩
  intro x
  obtain ⟨⟨⟨m, A, B⟩, n⟩, ⟨hA, hB, hm⟩, h0, h1, h2⟩ := x
  have hm : m ≤ 60 := hm
  refine .ok (ss_ret (sv_tup (ds := [SqD true (wAt A n), SqD true (wAt B n)]) (sa_ims (sv_call (S := S_signs_of) (sa_im (sv_mt (S := S_word cBk cBN) (sv_fld (sv_var rfl) rfl T.cl_cPr T.n_cPr_first) (bookF_no rfl) (sa_im (sv_var rfl) sa_nil) ((.int m, wD A), .int n) rfl (word_res h0 h1)) sa_nil) ⟨wAt A n, wAt_WI hA hm h0 h1⟩ rfl rfl) (sa_ims (sv_call (S := S_signs_of) (sa_im (sv_mt (S := S_word cBk cBN) (sv_fld (sv_var rfl) rfl T.cl_cPr T.n_cPr_second) (bookF_no rfl) (sa_im (sv_var rfl) sa_nil) ((.int m, wD B), .int n) rfl (word_res h0 h2)) sa_nil) ⟨wAt B n, wAt_WI hB hm h0 h2⟩ rfl rfl) sa_nil)) (by show 2 ≤ sizeLine; decide)))
end
end K58

namespace K58
open PySem L2 Evl Mini PyProof.Rows
def set3 (a b c : Nat) (d : PyData) (G : Gm) : Gm := match d with
  | .tuple [x, y, z] => ((G.set a (.im (isD x))).set b (.im (isD y))).set c (.im (isD z))
  | _ => G
def set2 (a b : Nat) (d : PyData) (G : Gm) : Gm := match d with
  | .tuple [x, y] => (G.set a (.im (isD x))).set b (.im (isD y))
  | _ => G
theorem tg_set2 {K : PySem.W.Frag} {n a b : Nat} {x y : PyData} (ha : a < n) (hb : b < n) : Tg n ([a] ++ [b]) (gTup K 2 (gCons (gName a) (gCons (gName b) gNil))) (isD (.tuple [x, y])) (set2 a b (.tuple [x, y])) :=
  tg_tup2 (f1 := fun G => G.set a (.im (isD x))) (f2 := fun G => G.set b (.im (isD y))) (tg_name ha) (tg_name hb) (fun G => List.length_set ..)
theorem sv_tt {G : Gm} {a b : TE} {d e : PyData} (h : Sv a G (isD d)) (h' : Sv b G (isD e)) : Sv (tTup (tCons a (tCons b tNil))) G (isD (.tuple [d, e])) := sv_tup (ds := [d, e]) (sa_ims h (sa_ims h' sa_nil)) (by show 2 ≤ sizeLine; decide)
theorem behF_sum {x y f g : List Int} {p : List Int × List Int} (h : behF x y f g = some p) : p.1.length + p.2.length ≤ max (x.length + f.length) (y.length + g.length) := by
  unfold behF at h
  split at h
  · cases h
    simp only [List.length_drop, List.length_append]
    omega
  · cases h
abbrev St2 := List Int × List Int
/-- the numbers with which one can go on, and the states behind them -/
def stepsQ (A B : List (List Int)) (s : St2) (n : Nat) : List (Nat × St2) := (List.range n).filterMap fun k : Nat => (behF s.1 s.2 (wAt A (k : Int)) (wAt B (k : Int))).map fun p => (k, p)
def stepD (q : Nat × St2) : PyData := .tuple [.int (q.1 : Int), pairQ true q.2.1 q.2.2]
theorem stepsQ_some {A B : List (List Int)} {s p : St2} {n : Nat} (h : behF s.1 s.2 (wAt A n) (wAt B n) = some p) : stepsQ A B s (n + 1) = stepsQ A B s n ++ [(n, p)] := by
  unfold stepsQ
  rw [List.range_succ, List.filterMap_append]
  simp [h]
theorem stepsQ_none {A B : List (List Int)} {s : St2} {n : Nat} (h : behF s.1 s.2 (wAt A n) (wAt B n) = none) : stepsQ A B s (n + 1) = stepsQ A B s n := by
  unfold stepsQ
  rw [List.range_succ, List.filterMap_append]
  simp [h]
theorem stepsQ_len (A B : List (List Int)) (s : St2) (n : Nat) : (stepsQ A B s n).length ≤ n := by
  have := List.length_filterMap_le (fun k : Nat => (behF s.1 s.2 (wAt A (k : Int)) (wAt B (k : Int))).map fun p => (k, p)) (List.range n)
  rw [List.length_range] at this
  exact this
def wps (A B : List (List Int)) : List PyData := (List.range A.length).map fun k => pairQ true (wAt A (k : Nat)) (wAt B (k : Nat))
structure Two (A B : List (List Int)) (m : Int) : Prop where
  a : GoodW A m
  b : GoodW B m
  m60 : m ≤ 60
  len : A.length = B.length
theorem Two.wA {A B : List (List Int)} {m : Int} (h : Two A B m) {k : Nat} (hk : k < A.length) : WI (wAt A k) := wAt_WI h.a h.m60 (by omega) (by omega)
theorem Two.wB {A B : List (List Int)} {m : Int} (h : Two A B m) {k : Nat} (hk : k < A.length) : WI (wAt B k) := wAt_WI h.b h.m60 (by omega) (by have := h.len; omega)
theorem wps_get {A B : List (List Int)} {k : Nat} (h : k < A.length) : (wps A B)[k]? = some (pairQ true (wAt A k) (wAt B k)) := by
  unfold wps
  rw [List.getElem?_map, List.getElem?_range h]; rfl
theorem wps_len {A B : List (List Int)} : (wps A B).length = A.length := by unfold wps; rw [List.length_map, List.length_range]
section
variable {P : Program} {w : World} {K : PySem.W.Frag} {mg : Str → Option Value} {base : Heap} {cAE cBB cBN cBR cTL cBk cPr aBG : Addr}
/-! ### _word_pairs -/
def S_word_pairs (cBk cPr : Addr) : Fs := ⟨{x : Int × List (List Int) × List (List Int) // Two x.2.1 x.2.2 x.1}, 1, fun x => [.im (isI cPr (pairF cBk x.1.1 (wD x.1.2.1) x.1.1 (wD x.1.2.2)))], fun _ => rfl, fun x => .ok (isD (.list (wps x.1.2.1 x.1.2.2)))⟩
abbrev st__word_pairs : Stmt := top 34
theorem sc__word_pairs : FnScope ["pair", "number"] ["pair"] (defScope st__word_pairs) := ⟨rfl, rfl, rfl, by decide +kernel, rfl, by decide +kernel, by decide +kernel⟩
theorem ok__word_pairs {f : Addr} {fd : FuncData} (T : Txt K mg cAE cBB cBN cBR cTL cBk cPr aBG) (F__word_pair : FnC P w K mg base 4 "_word_pair" (spF (S_word_pair cBk cPr))) (F : Fun K "_word_pairs" "_word_pairs" st__word_pairs f fd) : FnOk P w K mg base (L2.CX P w) 5 f fd ["pair"] (spF (S_word_pairs cBk cPr)) := by
  refine fn_ok F sc__word_pairs rfl fun cdv A outer s H E hr => ?_
  have tk : Takes (cxD P w K mg base ["pair", "number"] "_word_pairs" st__word_pairs f cdv A outer s H E) (fun cls d _ H => E cls d H) := takes_of rfl rfl rfl rfl
  have hx := pxM tk
  have nd := sc__word_pairs.nd
  refine ⟨_, (pss_one (ps_ret (pe_lc (own := [("number", 1)]) (g := gName 1) (tt := tYes) rfl nd (pi_range1 (by rfl) T.no_range (pa_cons (pe_fld (pe_fld (pv 0) rfl) rfl) pa_nil)) (blkOk_by (N := ["pair", "number"]) (sc := defScope st__word_pairs) (by decide +kernel)) (fun _ _ _ _ _ => pg_name (i := 1) nd rfl (Or.inl rfl)) (fun _ _ _ _ _ => pts_nil) (fun _ _ _ _ _ => (pe_fn F__word_pair hr px0 (pa_cons (pv 0) (pa_cons (pv 1) pa_nil))))))), ?_⟩
  intro x
  obtain ⟨⟨m, A, B⟩, h⟩ := x
  have h : Two A B m := h
  have hl := h.len
  have hA : A.length ≤ 60 := h.a.1
  have eA : (wD A).length = A.length := by unfold wD; rw [List.length_map]
  refine .ok (ss_ret (sv_svl (svl_is (svl_lcMapR (n := (A.length : Int)) (j := 1) (sv_is (sv_fld (sv_fld (sv_var rfl) rfl T.cl_cPr T.n_cPr_first) rfl T.cl_cBk T.n_cBk_size) (by rw [eA])) (fun k => pairQ true (wAt A (k : Nat)) (wAt B (k : Nat))) (Nat.le_of_ble_eq_true rfl) (by omega) (by omega) fun i hi => ?_) (by show _ = wps A B; unfold wps; rw [Int.toNat_natCast]))))
  have hi : i < A.length := by omega
  exact sv_call (S := S_word_pair cBk cPr) (sa_im (sv_var rfl) (sa_im (sv_var rfl) sa_nil)) ⟨((m, A, B), (i : Int)), ⟨h.a, h.b, h.m60⟩, by show (0 : Int) ≤ (i : Int); omega, by show (i : Int) < A.length; omega, by show (i : Int) < B.length; omega⟩ rfl rfl
/-! ### _steps_from -/
structure StOk (A B : List (List Int)) (s : St2) : Prop where
  r1 : InR s.1
  r2 : InR s.2
  fit : ∀ k : Nat, k < A.length → s.1.length + s.2.length + (wAt A k).length ≤ 5000 ∧ s.1.length + s.2.length + (wAt B k).length ≤ 5000
  few : s.1.length + s.2.length ≤ 5000
def S_steps_from (K : PySem.W.Frag) : Fs := ⟨{x : Int × (List (List Int) × List (List Int)) × St2 // Two x.2.1.1 x.2.1.2 x.1 ∧ StOk x.2.1.1 x.2.1.2 x.2.2}, 2, fun x => [.im (stT K true x.1.2.2.1 x.1.2.2.2), .im (isD (.list (wps x.1.2.1.1 x.1.2.1.2)))], fun _ => rfl,
  fun x => .ok (isD (.list ((stepsQ x.1.2.1.1 x.1.2.1.2 x.1.2.2 x.1.2.1.1.length).map stepD)))⟩
abbrev st__steps_from : Stmt := top 37
theorem sc__steps_from : FnScope ["state", "words", "steps", "number", "first", "second", "behind"] ["state", "words"] (defScope st__steps_from) := ⟨rfl, rfl, rfl, by decide +kernel, rfl, by decide +kernel, by decide +kernel⟩
theorem ok__steps_from {f : Addr} {fd : FuncData} (T : Txt K mg cAE cBB cBN cBR cTL cBk cPr aBG) (F__behind : FnC P w K mg base 1 "_behind" (spF (S_behind K))) (F__check_state : FnC P w K mg base 2 "_check_state" (spF (S_check_state K cTL))) (F : Fun K "_steps_from" "_steps_from" st__steps_from f fd) : FnOk P w K mg base (L2.CX P w) 3 f fd ["state", "words"] (spF (S_steps_from K)) := by
  refine fn_ok F sc__steps_from rfl fun cdv A outer s H E hr => ?_
  have tk : Takes (cxD P w K mg base ["state", "words", "steps", "number", "first", "second", "behind"] "_steps_from" st__steps_from f cdv A outer s H E) (fun cls d _ H => E cls d H) := takes_of rfl rfl rfl rfl
  have hx := pxM tk
  have nd := sc__steps_from.nd
  refine ⟨_, (pss_cons (ps_set (i := 2) nd rfl (Or.inl rfl) (pe_lst pa_nil))
 (pss_cons (ps_for (passes_of rfl) rfl (pi_enum (by rfl) T.no_enumerate (pa_cons (pv 1) pa_nil)) (pg_tup rfl (pgs_cons (pg_name (i := 3) nd rfl (Or.inl rfl)) (pgs_cons (pg_tup rfl (pgs_cons (pg_name (i := 4) nd rfl (Or.inl rfl)) (pgs_cons (pg_name (i := 5) nd rfl (Or.inl rfl)) pgs_nil))) pgs_nil))) (pss_cons (ps_set (i := 6) nd rfl (Or.inl rfl) (pe_fn F__behind hr hx (pa_cons (pv 0) (pa_cons (pv 4) (pa_cons (pv 5) pa_nil)))))
 (pss_one (ps_if (pt_cmpR op_notN (pv 6) pe_non (nomark _)) (pss_cons (ps_expr (pe_fn F__check_state hr hx (pa_cons (pv 6) pa_nil)))
 (pss_one (ps_expr (pe_bm PySem.F.plainAttrs_list PySem.F.slot_list_append PySem.F.type_list_append mt_append (pv 2) (pa_cons (pe_tup (pa_cons (pv 3) (pa_cons (pv 6) pa_nil))) pa_nil))))) pss_nil))))
 (pss_one (ps_ret (pv 2))))), ?_⟩
  intro x
  obtain ⟨⟨m, ⟨A, B⟩, ⟨x, y⟩⟩, h, hs⟩ := x
  have h : Two A B m := h
  have hs : StOk A B (x, y) := hs
  have hz : (sizeLine : Nat) = 16777216 := sizeLine_eq
  have hA : A.length ≤ 60 := h.a.1
  have hf : x.length + y.length ≤ 5000 := hs.few
  have r1 : InR x := hs.r1
  have r2 : InR y := hs.r2
  let Gc : List (Nat × St2) → Sl → Sl → Sl → Sl → Gm := fun R x3 x4 x5 x6 => [.im (stT K true x y), .im (isD (.list (wps A B))), .ow (isL (R.map stepD)), x3, x4, x5, x6]
  let Gi : Nat → Gm := fun i => Gc (stepsQ A B (x, y) i) .no .no .no .no
  refine .ok (ss_seq (ss_setL (svl_lst (ds := []) sa_nil (Nat.zero_le _))) (ss_seq (G1 := Gi (wps A B).length) (ss_forEg (n := 7) (js := [4] ++ [5]) (sv_var rfl) (set2 4 5) Gi (wps A B).length (Nat.le_refl _) (Le.refl _) (fun _ _ => rfl) (by decide) (fun d hd => ?_) (fun i d hd hi => ?_) (.inl ⟨rfl, rfl⟩)) ?_))
  · obtain ⟨k, _, rfl⟩ := List.mem_map.mp hd
    exact tg_set2 (by decide) (by decide)
  · have hi : i < A.length := by rw [wps_len] at hi; exact hi
    rw [wps_get hi] at hd
    cases hd
    have w1 := h.wA hi
    have w2 := h.wB hi
    obtain ⟨f1, f2⟩ := hs.fit i hi
    have f1 : x.length + y.length + (wAt A i).length ≤ 5000 := f1
    have f2 : x.length + y.length + (wAt B i).length ≤ 5000 := f2
    have hlen := stepsQ_len A B (x, y) i
    refine .inl ?_
    show Ss _ _ (Gc (stepsQ A B (x, y) i) (.im (isD (.int (i : Int)))) (.im (isD (SqD true (wAt A i)))) (.im (isD (SqD true (wAt B i)))) .no) (.nx (Gc (stepsQ A B (x, y) (i + 1)) .no .no .no .no))
    refine ss_seq (ss_set (P := isD (behD true (behF x y (wAt A i) (wAt B i)))) (sv_call (S := S_behind K) (sa_im (sv_var rfl) (sa_im (sv_var rfl) (sa_im (sv_var rfl) sa_nil))) ⟨(true, (x, y), wAt A i, wAt B i), ⟨by show x.length ≤ 100000; omega, by show y.length ≤ 100000; omega, by show (wAt A i).length ≤ 100000; omega, by show (wAt B i).length ≤ 100000; omega⟩, fun _ => ⟨r1, r2, w1.1, w2.1⟩⟩ rfl rfl)) ?_
    cases hb : behF x y (wAt A i) (wAt B i) with
    | none =>
      rw [stepsQ_none hb]
      exact ss_if0 (st_is (st_B (sv_notNb (d := .none) (sv_var rfl))) rfl) (ss_nxLe ss_next (by repeat first | exact Le.nil | refine Le.eq ?_ | refine Le.no ?_))
    | some p =>
      rw [stepsQ_some hb]
      have hp := behF_sum hb
      have hp5 : p.1.length + p.2.length ≤ 5000 := by omega
      refine ss_if1 (st_is (st_B (sv_notNb (d := pairQ true p.1 p.2) (sv_var rfl))) rfl) (ss_seq (ss_drop (P := isD .none) (sv_call (S := S_check_state K cTL) (sa_im (P := isP K (pairQ true p.1 p.2)) (sv_pD (sv_var rfl)) sa_nil) ⟨(true, p.1, p.2), by show p.1.length ≤ sizeLine; omega, by show p.2.length ≤ sizeLine; omega⟩ rfl (by show (if p.1.length + p.2.length ≤ 5000 then Rs.ok (isD .none) else .bad cTL) = _; rw [if_pos hp5]))) ?_)
      refine ss_nxLe (G1 := Gc (stepsQ A B (x, y) i ++ [(i, p)]) (.im (isD (.int (i : Int)))) (.im (isD (SqD true (wAt A i)))) (.im (isD (SqD true (wAt B i)))) (.im (isD (pairQ true p.1 p.2)))) ?_ (by repeat first | exact Le.nil | refine Le.eq ?_ | refine Le.no ?_)
      show Ss _ _ _ (.nx [.im (stT K true x y), .im (isD (.list (wps A B))), .ow (isL ((stepsQ A B (x, y) i ++ [(i, p)]).map stepD)), .im (isD (.int (i : Int))), .im (isD (SqD true (wAt A i))), .im (isD (SqD true (wAt B i))), .im (isD (pairQ true p.1 p.2))])
      rw [List.map_append]
      exact ss_append (d := stepD (i, p)) rfl (sv_tt (sv_var rfl) (sv_var rfl)) (by rw [List.length_map]; omega)
  · show Ss _ _ (Gc (stepsQ A B (x, y) (wps A B).length) .no .no .no .no) _
    rw [wps_len]
    exact ss_freeze (n := 2) rfl (ss_ret (sv_var rfl))
end
end K58

namespace K58
open PySem L2 Evl Mini PyProof.Rows
/-! ### keys -/
def unsg (s : Str) : List Int := s.cps.toList.map fun c => ((SLc.idxOf c : Nat) : Int)
theorem unsg_sg {w : List Int} (h : InR w) : unsg (sg w) = w := by
  unfold unsg
  rw [sg_list, List.map_map]
  conv => rhs; rw [← List.map_id w]
  exact List.map_congr_left fun v hv => idx_sgC (h v hv).1 (h v hv).2
def stKey (s : St2) : List Key := [.inr (sg s.1), .inr (sg s.2)]
theorem keyT_st (s : St2) : keyT (stKey s) = pairQ true s.1 s.2 := rfl
def fK (A B : List (List Int)) (k : List Key) : PyData := match k with
  | [.inr a, .inr b] => .list ((stepsQ A B (unsg a, unsg b) A.length).map stepD)
  | _ => .none
theorem fK_st {A B : List (List Int)} {s : St2} (h1 : InR s.1) (h2 : InR s.2) : fK A B (stKey s) = .list ((stepsQ A B s A.length).map stepD) := by
  show PyData.list ((stepsQ A B (unsg (sg s.1), unsg (sg s.2)) A.length).map stepD) = _
  rw [unsg_sg h1, unsg_sg h2]
/-! ### equality of states -/
theorem shaped_pair (x y : List Int) : SeqAt.shaped (pairQ true x y) = true := by
  unfold SeqAt.shaped
  rw [Bool.and_eq_true]
  have h1 := sg_ok x
  have h2 := sg_ok y
  refine ⟨?_, decide_eq_true ?_⟩
  · show (PyData.canLay0 (.tuple [.str (sg x), .str (sg y)])) = true
    simp [PyData.canLay0, PyData.canLayAll0, h1, h2]
  · show PyData.depth (.tuple [.str (sg x), .str (sg y)]) ≤ _
    simp [PyData.depth, PyData.depthAll]
def isBg (s : St2) : Bool := decide (s = ([], []))
theorem eqv_bg {s : St2} (h1 : InR s.1) (h2 : InR s.2) : PyData.eqv (pairQ true s.1 s.2) (pairQ true [] []) = isBg s := by
  show PyData.eqv (.tuple [.str (sg s.1), .str (sg s.2)]) (.tuple [.str (sg []), .str (sg [])]) = _
  have e0 : InR [] := fun v hv => absurd hv List.not_mem_nil
  simp only [PyData.eqv, PyData.eqvAll]
  rw [sg_eq_iff h1 e0, sg_eq_iff h2 e0]
  unfold isBg
  obtain ⟨x, y⟩ := s
  by_cases c1 : x = []
  · by_cases c2 : y = []
    · simp [c1, c2]
    · simp [c1, c2]
  · simp [c1]
theorem sg_nil : sg [] = "" := by decide +kernel
/-! ### rows -/
abbrev It := List Int × St2 × Bool
def itD (r : It) : PyData := .tuple [.tuple (r.1.map .int), pairQ true r.2.1.1 r.2.1.2, .bool r.2.2]
def itT (K : PySem.W.Frag) (r : It) : Ty := isTs [isD (.tuple (r.1.map .int)), isP K (pairQ true r.2.1.1 r.2.1.2), isD (.bool r.2.2)]
def stayB (r : It) : Bool := r.2.2 && (!isBg r.2.1 || decide (r.1.length = 0))
def extI (A B : List (List Int)) (r : It) : List It := (stepsQ A B r.2.1 A.length).map fun q => (r.1 ++ [(q.1 : Int)], q.2, stayB r)
def longI (A B : List (List Int)) (R : List It) : List It := R.flatMap (extI A B)
theorem longI_take {A B : List (List Int)} {R : List It} {i : Nat} {r : It} (h : R[i]? = some r) : longI A B (R.take (i + 1)) = longI A B (R.take i) ++ extI A B r := by
  unfold longI
  rw [List.take_succ, h, List.flatMap_append]
  simp
theorem longI_mono {A B : List (List Int)} {R : List It} {i : Nat} : (longI A B (R.take i)).length ≤ (longI A B R).length := by
  unfold longI
  conv => rhs; rw [← List.take_append_drop i R, List.flatMap_append, List.length_append]
  omega
def ksA (ks : List (List Key)) (R : List It) : List (List Key) := R.foldl (fun ks r => if memX ks (stKey r.2.1) then ks else stKey r.2.1 :: ks) ks
theorem ksA_take {ks : List (List Key)} {R : List It} {i : Nat} {r : It} (h : R[i]? = some r) : ksA ks (R.take (i + 1)) = if memX (ksA ks (R.take i)) (stKey r.2.1) then ksA ks (R.take i) else stKey r.2.1 :: ksA ks (R.take i) := by
  unfold ksA
  rw [List.take_succ, h, List.foldl_append]
  rfl
theorem ksA_mem {ks : List (List Key)} {R : List It} {i : Nat} {r : It} (h : R[i]? = some r) : stKey r.2.1 ∈ ksA ks (R.take (i + 1)) := by
  rw [ksA_take h]
  split
  · rename_i z; exact memX_iff.mp z
  · exact List.mem_cons_self ..
theorem first_over (p : Nat → Nat) (b : Nat) (h0 : p 0 ≤ b) : ∀ n, b < p n → ∃ N, N < n ∧ (∀ i, i ≤ N → p i ≤ b) ∧ b < p (N + 1) := by
  intro n
  induction n using Nat.strongRecOn with
  | ind n ih =>
    intro hn
    by_cases d : ∃ i, i < n ∧ b < p i
    · obtain ⟨i, hi, hb⟩ := d
      obtain ⟨N, h1, h2, h3⟩ := ih i hi hb
      exact ⟨N, by omega, h2, h3⟩
    · have hn0 : n ≠ 0 := fun z => by subst z; omega
      refine ⟨n - 1, by omega, fun i hi => ?_, by rw [show n - 1 + 1 = n by omega]; exact hn⟩
      exact Nat.le_of_not_lt fun z => d ⟨i, by omega, z⟩
section
variable {E : XK} {ts : TS} {G G1 : Gm} {X X1 : Gx} {p : Addr} {R R' : Ow}
theorem sg_gle (h : Sg E ts G X (.nx G1 ((p, R) :: X1))) (l : ∀ a o B, R.r a o B → R'.r a o B) : Sg E ts G X (.nx G1 ((p, R') :: X1)) := fun M0 D σ B M H g q => h M0 D σ B M H g fun σ' B' M' e H' g' => by
  have a1 : ∀ x ∈ (p, R') :: X1, M0 x.1 = none := fun x hx => by
    rcases List.mem_cons.mp hx with rfl | z
    · exact g'.m0 (p, R) (List.mem_cons_self ..)
    · exact g'.m0 _ (List.mem_cons_of_mem _ z)
  have a2 : ∀ x ∈ (p, R') :: X1, ∃ o, M' x.1 = some o ∧ x.2.r x.1 o B' := fun x hx => by
    rcases List.mem_cons.mp hx with rfl | z
    · obtain ⟨o, h1, h2⟩ := g'.ob (p, R) (List.mem_cons_self ..)
      exact ⟨o, h1, l _ _ _ h2⟩
    · exact g'.ob _ (List.mem_cons_of_mem _ z)
  have a3 : ∀ x ∈ (p, R') :: X1, ∀ (i : Nat) R, G1[i]? = some (Sl.ow R) → σ'[i]? ≠ some (some (V.ref x.1)) := fun x hx => by
    rcases List.mem_cons.mp hx with rfl | z
    · exact g'.ns (p, R) (List.mem_cons_self ..)
    · exact g'.ns _ (List.mem_cons_of_mem _ z)
  exact q σ' B' M' e H' { nd := g'.nd, m0 := a1, ob := a2, ns := a3 }
theorem rx_at {td : TE} (h : Rx td G (atO p R)) : Rx td G R := fun M0 σ B M H Q q => h M0 σ B M H Q fun a o ho hr => q a o ho hr.2
theorem sg_forLs' {K : PySem.W.Frag} {tu : TS} {tl : TE} {o : Og} {nn : Nat} {js : List Nat} {g : TG} {Ps : List Ty} (h : Sv tl G (isLs Ps)) (fd : Nat → Gm → Gm) (Gi : Nat → Gm) (Xi : Nat → Gx) (oi : Nat → Og) (N : Nat) (hN : N ≤ Ps.length) (h0 : G = Gi 0) (x0 : X = Xi 0) (hj : ∀ i, i ≤ N → (Gi i).length = nn) (hg : ∀ i P, Ps[i]? = some P → Tg nn js g P (fd i)) (nb : ∀ i, i ≤ N → noBwB (fd i (Gi i)) = true)
    (hs : ∀ i, i < Ps.length → i ≤ N → Sg E tu (fd i (Gi i)) (Xi i) (oi i)) (hn : ∀ i, i < N → oi i = .nx (Gi (i + 1)) (Xi (i + 1))) (hd : (N = Ps.length ∧ o = .nx (Gi N) (Xi N)) ∨ (N < Ps.length ∧ o.leaves ∧ oi N = o)) :
    Sg E (tFor (iList K tl) g tu) G X o :=
  sg_forLs h fd Gi Xi N hN h0 x0 hj hg nb (fun i hi => hn i hi ▸ hs i (by omega) (by omega)) (hd.imp id fun ⟨a, b, c⟩ => ⟨a, b, c ▸ hs N a (Nat.le_refl _)⟩)
theorem sg_seqO {tu : TS} {o o2 : Og} (h : Sg E ts G X o) (k : ∀ G1 X1, o = .nx G1 X1 → Sg E tu G1 X1 o2) (hb : o.leaves → o2 = o) : Sg E (tSeq ts tu) G X o2 := by
  cases o with
  | nx G1 X1 => exact sg_seq h (k G1 X1 rfl)
  | rt P X1 => rw [hb trivial]; exact sg_seqRt h
  | bad C X1 => rw [hb trivial]; exact sg_seqBad h
theorem anm_ite {c : Prop} [Decidable c] {X2 : Gx} {P : Ty} {C : Addr} (h1 : X1.map (·.1) = X.map (·.1)) (h2 : X2.map (·.1) = X.map (·.1)) (h : Sg E ts G X (if c then .rt P X1 else .bad C X2)) : Anm E ts G X (if c then .ok P X1 else .bad C) := by
  by_cases z : c
  · rw [if_pos z] at h ⊢; exact .ok h1 h
  · rw [if_neg z] at h ⊢; exact .bad h2 h
def yF (row : List Int) (st : Bool) (d : PyData) : PyData := match d with
  | .tuple [.int k, b] => .tuple [.tuple ((row ++ [k]).map .int), b, .bool st]
  | _ => .none
theorem dXo_le {P : Program} {w : World} {K : PySem.W.Frag} {n m : Nat} {ks : List (List Key)} {f : List Key → PyData} (h : n ≤ m) : ∀ a o B, (dXo P w K n ks f).r a o B → (dXo P w K m ks f).r a o B := fun a o B ⟨kvs, h1, h2, h3⟩ => ⟨kvs, h1, by omega, h3⟩
end
section
variable {P : Program} {w : World} {K : PySem.W.Frag} {mg : Str → Option Value} {base : Heap} {cAE cBB cBN cBR cTL cBk cPr aBG : Addr}
theorem sv_bg {G : Gm} (T : Txt K mg cAE cBB cBN cBR cTL cBk cPr aBG) : Sv (tC (.ref aBG)) G (isP K (pairQ true [] [])) := by
  have e : pairQ true [] [] = .tuple [.str "", .str ""] := by show PyData.tuple [.str (sg []), .str (sg [])] = _; rw [sg_nil]
  rw [e]
  exact sv_pK fun B => .tup (.inr T.kt_aBG.kt) (.cons (.str _) (.cons (.str _) .nil))
/-! ### _one_longer -/
structure OlOk (m : Int) (A B : List (List Int)) (R : List It) (kn : Nat) : Prop where
  two : Two A B m
  st : ∀ r ∈ R, StOk A B r.2.1
  few : R.length ≤ 2000
  cnt : kn + 2000 ≤ 1000000
  rl : ∀ r ∈ R, r.1.length ≤ 1000
structure OlX where
  m : Int
  A : List (List Int)
  B : List (List Int)
  R : List It
  p : Addr
  ks : List (List Key)
  kn : Nat
def S_one_longer (P : Program) (w : World) (K : PySem.W.Frag) (cTL : Addr) : Fm := ⟨{x : OlX // OlOk x.m x.A x.B x.R x.kn}, 3, fun x => [isLs (x.1.R.map (itT K)), isD (.list (wps x.1.A x.1.B)), isV (.ref x.1.p)], fun _ => rfl,
  fun x => [(x.1.p, dXo P w K x.1.kn x.1.ks (fK x.1.A x.1.B))],
  fun x => if (longI x.1.A x.1.B x.1.R).length ≤ 2000 then .ok (isD (.list ((longI x.1.A x.1.B x.1.R).map itD))) [(x.1.p, dXo P w K (x.1.kn + x.1.R.length) (ksA x.1.ks x.1.R) (fK x.1.A x.1.B))] else .bad cTL⟩
abbrev st__one_longer : Stmt := top 36
theorem sc__one_longer : FnScope ["rows", "words", "steps", "found", "row", "state", "is_whole", "stays_whole", "behind", "number"] ["rows", "words", "steps"] (defScope st__one_longer) := ⟨rfl, rfl, rfl, by decide +kernel, rfl, by decide +kernel, by decide +kernel⟩
theorem ok__one_longer {f : Addr} {fd : FuncData} (T : Txt K mg cAE cBB cBN cBR cTL cBk cPr aBG) (F__steps_from : FnC P w K mg base 3 "_steps_from" (spF (S_steps_from K))) (F : Fun K "_one_longer" "_one_longer" st__one_longer f fd) : FnOk P w K mg base (L2.CX P w) 4 f fd ["rows", "words", "steps"] (spM (S_one_longer P w K cTL)) := by
  refine fn_okM F sc__one_longer rfl fun cdv A outer s H E hr => ?_
  have tk : Takes (cxD P w K mg base ["rows", "words", "steps", "found", "row", "state", "is_whole", "stays_whole", "behind", "number"] "_one_longer" st__one_longer f cdv A outer s H E) (fun cls d _ H => E cls d H) := takes_of rfl rfl rfl rfl
  have hx := pxM tk
  have nd := sc__one_longer.nd
  refine ⟨_, (pss_cons (ps_set (i := 3) nd rfl (Or.inl rfl) (pe_lst pa_nil))
 (pss_cons (ps_for (passes_of rfl) rfl (pi_list (pv 0)) (pg_tup rfl (pgs_cons (pg_name (i := 4) nd rfl (Or.inr rfl)) (pgs_cons (pg_name (i := 5) nd rfl (Or.inl rfl)) (pgs_cons (pg_name (i := 6) nd rfl (Or.inl rfl)) pgs_nil)))) (pss_cons (ps_if (pt_xnot (K := K) (Nat.lt_of_le_of_lt (Nat.add_le_add_left (show 1 ≤ 64 by decide) _) hr.units) (pv 5) (pv 2)) (pss_one (ps_xput (K := K) (Nat.lt_of_le_of_lt (Nat.add_le_add_left (show 1 ≤ 64 by decide) _) hr.units) (pv 2) (pv 5) (pe_fn F__steps_from hr hx (pa_cons (pv 5) (pa_cons (pv 1) pa_nil))) (by rfl))) pss_nil)
 (pss_cons (ps_set (i := 7) nd rfl (Or.inr rfl) (pe_and (pv 6) (pe_one (pe_or (pe_cmpR (op_neD hr.units) (pv 5) (pe_gc T.c_BEGIN) (nomark _)) (pe_one (pe_cmpR (op_eqD hr.units) (pe_callB call_len (by rfl) T.no_len (by decide +kernel) (pa_cons (pv 4) pa_nil)) pe_int (nomark _)))))))
 (pss_cons (ps_expr (pe_bm PySem.F.plainAttrs_list PySem.F.slot_list_extend PySem.F.type_list_extend mt_extend (pv 3) (pa_cons (pe_lc (own := [("number", 9), ("behind", 8)]) (g := (gTup K 2 (gCons (gName 9) (gCons (gName 8) gNil)))) (tt := tYes) rfl nd (pi_list (pe_xget (K := K) (Nat.lt_of_le_of_lt (Nat.add_le_add_left (show 1 ≤ 64 by decide) _) hr.units) (pv 2) (pv 5) (fun _ _ => rfl))) (blkOk_by (N := ["rows", "words", "steps", "found", "row", "state", "is_whole", "stays_whole", "behind", "number"]) (sc := defScope st__one_longer) (by decide +kernel)) (fun _ _ _ _ _ => (pg_tupK (K := K) rfl (pgs_cons (pg_name (i := 9) nd rfl (Or.inl rfl)) (pgs_cons (pg_name (i := 8) nd rfl (Or.inl rfl)) pgs_nil)))) (fun _ _ _ _ _ => pts_nil) (fun _ _ _ _ _ => (pe_tup (pa_cons (pe_op (r := uAdd K) op_uAdd (pv 4) (pe_tup (pa_cons (pv 9) pa_nil))) (pa_cons (pv 8) (pa_cons (pv 7) pa_nil)))))) pa_nil)))
 (pss_one (ps_if (pt_cmpR op_gt (pe_callB call_len (by rfl) T.no_len (by decide +kernel) (pa_cons (pv 3) pa_nil)) (pe_gc T.c_MOST_LISTED) (nomark _)) (pss_one (ps_rs rfl tk (pmk_err T.e_TooLong))) pss_nil))))))
 (pss_one (ps_ret (pv 3))))), ?_⟩
  intro x
  obtain ⟨⟨m, A, B, R, p, ks, kn⟩, hx⟩ := x
  have hx : OlOk m A B R kn := hx
  have hz : (sizeLine : Nat) = 16777216 := sizeLine_eq
  have h := hx.two
  have hA : A.length ≤ 60 := h.a.1
  have hR := hx.few
  have hkn := hx.cnt
  let r0 : It := ([], ([], []), true)
  let Gc : List It → Sl → Sl → Sl → Sl → Sl → Sl → Gm := fun F x4 x5 x6 x7 x8 x9 => [.im (isLs (R.map (itT K))), .im (isD (.list (wps A B))), .im (isV (.ref p)), .ow (isL (F.map itD)), x4, x5, x6, x7, x8, x9]
  let Gi : Nat → Gm := fun i => Gc (longI A B (R.take i)) .no .no .no .no .no .no
  let Xi : Nat → Gx := fun i => [(p, dXo P w K (kn + i) (ksA ks (R.take i)) (fK A B))]
  let fd : Nat → Gm → Gm := fun i G => ((G.set 4 (.im (isD (.tuple ((R.getD i r0).1.map .int))))).set 5 (.im (isP K (pairQ true (R.getD i r0).2.1.1 (R.getD i r0).2.1.2)))).set 6 (.im (isD (.bool (R.getD i r0).2.2)))
  let oi : Nat → Og := fun i => if (longI A B (R.take (i + 1))).length ≤ 2000 then .nx (Gi (i + 1)) (Xi (i + 1)) else .bad cTL (Xi (i + 1))
  have eL : (R.map (itT K)).length = R.length := List.length_map ..
  have hget : ∀ {i : Nat}, i < R.length → R[i]? = some (R.getD i r0) := fun {i} hi => by rw [List.getD_eq_getElem?_getD, List.getElem?_eq_getElem hi]; rfl
  have hg : ∀ i P', (R.map (itT K))[i]? = some P' → Tg 10 ([4] ++ ([5] ++ [6])) (gTup K 3 (gCons (gName 4) (gCons (gName 5) (gCons (gName 6) gNil)))) P' (fd i) := fun i P' hP => by
    have hi : i < R.length := by rw [← eL]; exact (List.getElem?_eq_some_iff.mp hP).1
    rw [List.getElem?_map, hget hi] at hP
    cases hP
    exact tg_tups3 (tg_name (by decide)) (tg_name (by decide)) (tg_name (by decide)) (fun G => List.length_set ..) (fun G => List.length_set ..)
  let c : Prop := (longI A B R).length ≤ 2000
  obtain ⟨N, hN, hpre, hc⟩ : ∃ N, N ≤ R.length ∧ (∀ i, i ≤ N → (longI A B (R.take i)).length ≤ 2000) ∧ ((c ∧ N = R.length) ∨ (¬ c ∧ N < R.length ∧ 2000 < (longI A B (R.take (N + 1))).length)) := by
    by_cases z : c
    · exact ⟨R.length, Nat.le_refl _, fun i _ => Nat.le_trans longI_mono z, .inl ⟨z, rfl⟩⟩
    · have z' : 2000 < (longI A B (R.take R.length)).length := by rw [List.take_length]; exact Nat.lt_of_not_le z
      obtain ⟨N, h1, h2, h3⟩ := first_over (fun i => (longI A B (R.take i)).length) 2000 (by show (longI A B []).length ≤ 2000; exact Nat.zero_le _) R.length z'
      exact ⟨N, Nat.le_of_lt h1, h2, .inr ⟨z, h1, h3⟩⟩
  let o : Og := if c then .nx (Gi N) (Xi N) else .bad cTL (Xi (N + 1))
  have ho : (N = R.length ∧ o = .nx (Gi N) (Xi N)) ∨ (N < R.length ∧ o.leaves ∧ oi N = o) := by
    rcases hc with ⟨z, e⟩ | ⟨z, e, e2⟩
    · exact .inl ⟨e, if_pos z⟩
    · have e3 : o = .bad cTL (Xi (N + 1)) := if_neg z
      refine .inr ⟨e, by rw [e3]; trivial, ?_⟩
      rw [e3]
      exact if_neg (by omega)
  show Anm E _ (Gc [] .no .no .no .no .no .no |>.set 3 .no) [(p, dXo P w K kn ks (fK A B))] (if c then .ok (isD (.list ((longI A B R).map itD))) [(p, dXo P w K (kn + R.length) (ksA ks R) (fK A B))] else .bad cTL)
  refine anm_ite (X2 := Xi (N + 1)) rfl rfl (sg_seq (sg_nx (ss_setL (svl_lst (ds := []) sa_nil (Nat.zero_le _))) rfl) (sg_seqO (o := o) (sg_forLs' (K := K) (nn := 10) (js := [4] ++ ([5] ++ [6])) (sv_var (n := 0) rfl) fd Gi Xi oi N (by rw [eL]; exact hN) rfl rfl (fun _ _ => rfl) hg (fun _ _ => rfl) (fun i hi hiN => ?_) (fun i hi => if_pos (hpre (i + 1) (by omega))) (by rw [eL]; exact ho)) (fun G1 X1 e => ?_) (fun hl => ?_)))
  · have hi : i < R.length := by rw [← eL]; exact hi
    have hr := hget hi
    have hp0 := hpre i hiN
    show Sg E _ ((fd i (Gi i))) (Xi i) (if (longI A B (R.take (i + 1))).length ≤ 2000 then .nx (Gi (i + 1)) (Xi (i + 1)) else .bad cTL (Xi (i + 1)))
    have eX : Xi (i + 1) = [(p, dXo P w K (kn + i + 1) (if memX (ksA ks (R.take i)) (stKey (R.getD i r0).2.1) then ksA ks (R.take i) else stKey (R.getD i r0).2.1 :: ksA ks (R.take i)) (fK A B))] := by
      show [(p, dXo P w K (kn + (i + 1)) (ksA ks (R.take (i + 1))) (fK A B))] = _
      rw [ksA_take hr]; rfl
    have hin : stKey (R.getD i r0).2.1 ∈ ksA ks (R.take (i + 1)) := ksA_mem hr
    have hst := hx.st _ (List.mem_of_getElem? hr)
    have hrl := hx.rl _ (List.mem_of_getElem? hr)
    show Sg E _ (Gc (longI A B (R.take i)) (.im (isD (.tuple ((R.getD i r0).1.map .int)))) (.im (isP K (pairQ true (R.getD i r0).2.1.1 (R.getD i r0).2.1.2))) (.im (isD (.bool (R.getD i r0).2.2))) .no .no .no) (Xi i) _
    have eF : longI A B (R.take (i + 1)) = longI A B (R.take i) ++ extI A B (R.getD i r0) := longI_take hr
    rw [eX, eF]
    show Sg E _ _ [(p, dXo P w K (kn + i) (ksA ks (R.take i)) (fK A B))] (if (longI A B (R.take i) ++ extI A B (R.getD i r0)).length ≤ 2000 then .nx (Gc (longI A B (R.take (i + 1))) .no .no .no .no .no .no) _ else _)
    rw [eF]
    rw [ksA_take hr] at hin
    generalize ksA ks (R.take i) = KS at hin ⊢
    generalize R.getD i r0 = r at hst hrl hin ⊢
    generalize longI A B (R.take i) = F at hp0 ⊢
    obtain ⟨row, ⟨x, y⟩, fl⟩ := r
    have r1 : InR x := hst.r1
    have r2 : InR y := hst.r2
    have hrl : row.length ≤ 1000 := hrl
    have hsl := stepsQ_len A B (x, y) A.length
    show Sg E _ (Gc F (.im (isD (.tuple (row.map .int)))) (.im (isP K (pairQ true x y))) (.im (isD (.bool fl))) .no .no .no) [(p, dXo P w K (kn + i) KS (fK A B))] (if (F ++ extI A B (row, (x, y), fl)).length ≤ 2000 then .nx (Gc (F ++ extI A B (row, (x, y), fl)) .no .no .no .no .no .no) [(p, dXo P w K (kn + i + 1) (if memX KS (stKey (x, y)) then KS else stKey (x, y) :: KS) (fK A B))] else .bad cTL [(p, dXo P w K (kn + i + 1) (if memX KS (stKey (x, y)) then KS else stKey (x, y) :: KS) (fK A B))])
    have hin : stKey (x, y) ∈ (if memX KS (stKey (x, y)) then KS else stKey (x, y) :: KS) := hin
    refine sg_seq (G1 := Gc F (.im (isD (.tuple (row.map .int)))) (.im (isP K (pairQ true x y))) (.im (isD (.bool fl))) .no .no .no) (X1 := [(p, dXo P w K (kn + i + 1) (if memX KS (stKey (x, y)) then KS else stKey (x, y) :: KS) (fK A B))]) (sg_if (P1 := !memX KS (stKey (x, y))) (stg_view (n := 2) (p := p) (R := dXo P w K (kn + i) KS (fK A B)) (st_B (sv_xnot (k := stKey (x, y)) (sv_var rfl) (rx_bw rfl))) rfl (List.mem_cons_self ..)) (fun z => ?_) fun z => ?_) ?_
    · have z : memX KS (stKey (x, y)) = false := by simpa using z
      rw [if_neg (by rw [z]; exact Bool.false_ne_true)]
      refine sg_xput rfl (sv_is (sv_call (S := S_steps_from K) (sa_im (sv_var rfl) (sa_im (sv_var rfl) sa_nil)) ⟨(m, (A, B), (x, y)), h, hst⟩ rfl rfl) (fK_st (s := (x, y)) r1 r2).symm) (sv_var rfl) (by omega)
    · have z : memX KS (stKey (x, y)) = true := by simpa using z
      rw [if_pos z]
      exact sg_gle sg_next (dXo_le (Nat.le_succ _))
    generalize (if memX KS (stKey (x, y)) then KS else stKey (x, y) :: KS) = KS2 at hin ⊢
    have tS : Sv (tAndV (tVar 6) (tOrV (tOp (rNeD K) (tVar 5) (tC (.ref aBG))) (tOp (rEqD K) (tCB (fun xs H Q => ∃ x n, xs = [x] ∧ LenV K x H n ∧ Q (.int n) H) (tCons (tVar 4) tNil)) (tC (.int 0))))) (Gc F (.im (isD (.tuple (row.map .int)))) (.im (isP K (pairQ true x y))) (.im (isD (.bool fl))) .no .no .no) (isD (.bool (stayB (row, (x, y), fl)))) := by
      refine sv_is (sv_and (b := fl) (sv_var rfl) fun _ => sv_or (b := !isBg (x, y)) (sv_is (sv_neP (sv_var rfl) (sv_bg T) (shaped_pair x y) (shaped_pair [] [])) (by rw [eqv_bg (s := (x, y)) r1 r2])) fun _ => sv_is (sv_eqI (sv_lenT (ds := row.map .int) (sv_var rfl)) sv_int) ?_) rfl
      rw [List.length_map]
      show PyData.bool (decide ((row.length : Int) = 0)) = .bool (decide (row.length = 0))
      congr 1
      exact decide_eq_decide.mpr ⟨fun z => by omega, fun z => by omega⟩
    refine sg_seq (sg_nx (ss_set tS) rfl) ?_
    generalize hst2 : stayB (row, (x, y), fl) = st
    have eE : ((stepsQ A B (x, y) A.length).map stepD).map (yF row st) = (extI A B (row, (x, y), fl)).map itD := by
      unfold extI
      rw [List.map_map, List.map_map, hst2]
      exact List.map_congr_left fun q _ => by show PyData.tuple [.tuple ((row ++ [(q.1 : Int)]).map .int), pairQ true q.2.1 q.2.2, .bool st] = _; rfl
    have lE : (extI A B (row, (x, y), fl)).length ≤ 60 := by unfold extI; rw [List.length_map]; show (stepsQ A B (x, y) A.length).length ≤ 60; omega
    refine sg_seq (sg_nxV (n := 2) (p := p) (R := dXo P w K (kn + i + 1) KS2 (fK A B)) (G' := Gc (F ++ extI A B (row, (x, y), fl)) (.im (isD (.tuple (row.map .int)))) (.im (isP K (pairQ true x y))) (.im (isD (.bool fl))) (.im (isD (.bool st))) .no .no) rfl (List.mem_cons_self ..) ?_ rfl rfl) ?_
    · show Ss _ _ _ (.nx [.im (isLs (R.map (itT K))), .im (isD (.list (wps A B))), .bw (atO p (dXo P w K (kn + i + 1) KS2 (fK A B))), .ow (isL ((F ++ extI A B (row, (x, y), fl)).map itD)), .im (isD (.tuple (row.map .int))), .im (isP K (pairQ true x y)), .im (isD (.bool fl)), .im (isD (.bool st)), .no, .no])
      rw [List.map_append]
      refine ss_extend (n := 3) (ds := F.map itD) (es := (extI A B (row, (x, y), fl)).map itD) rfl (rl_svl (svl_is (svl_lcGm (vs := [9, 8]) (js := [9] ++ [8]) (ds := (stepsQ A B (x, y) A.length).map stepD) (rl_sv (sv_is (sv_xget (k := stKey (x, y)) (ks := KS2) (rx_at (rx_bw rfl)) (sv_var rfl) hin) (fK_st (s := (x, y)) r1 r2))) (set2 9 8) (yF row st) (by rw [List.length_map]; omega) (fun d hd => ?_) (by decide) fun d hd => ?_) eE)) (by rw [List.length_map, List.length_map]; omega)
      · obtain ⟨q, _, rfl⟩ := List.mem_map.mp hd
        exact tg_set2 (Nat.le_of_ble_eq_true rfl) (Nat.le_of_ble_eq_true rfl)
      · obtain ⟨q, _, rfl⟩ := List.mem_map.mp hd
        refine sv_tup (ds := [.tuple ((row ++ [(q.1 : Int)]).map .int), pairQ true q.2.1 q.2.2, .bool st]) (sa_ims (sv_is (sv_catT (ds := row.map .int) (es := [.int (q.1 : Int)]) (sv_var rfl) (sv_tup (ds := [.int (q.1 : Int)]) (sa_ims (sv_var rfl) sa_nil) (by show 1 ≤ sizeLine; omega)) (by rw [List.length_map]; show row.length + 1 ≤ sizeLine; omega)) (by rw [List.map_append]; rfl)) (sa_ims (sv_var rfl) (sa_ims (sv_var rfl) sa_nil))) (by show 3 ≤ sizeLine; omega)
    have tL : St' (tB (tOp (rI0 fun i j => .bl (decide (j < i))) (tCB (fun xs H Q => ∃ x n, xs = [x] ∧ LenV K x H n ∧ Q (.int n) H) (tCons (tVar 3) tNil)) (tC (.int 2000)))) (Gc (F ++ extI A B (row, (x, y), fl)) (.im (isD (.tuple (row.map .int)))) (.im (isP K (pairQ true x y))) (.im (isD (.bool fl))) (.im (isD (.bool st))) .no .no) (decide (2000 < (((F ++ extI A B (row, (x, y), fl)).length : Nat) : Int))) :=
      st_B (sv_is (sv_cmp (g := fun i j => decide (j < i)) (sv_lenL (ds := (F ++ extI A B (row, (x, y), fl)).map itD) (rl_ow rfl)) sv_int) (by rw [List.length_map]))
    by_cases c2 : (F ++ extI A B (row, (x, y), fl)).length ≤ 2000
    · rw [if_pos c2]
      exact sg_nx (ss_if0 (st_is tL (decide_eq_false (by omega))) (ss_nxLe ss_next (by repeat first | exact Le.nil | refine Le.eq ?_ | refine Le.no ?_))) rfl
    · rw [if_neg c2]
      exact sg_bad (ss_if1 (st_is tL (decide_eq_true (by omega))) ss_rs)
  · rcases hc with ⟨z, e1⟩ | ⟨z, _⟩
    · have e2 : o = .nx (Gi N) (Xi N) := if_pos z
      rw [e2] at e
      cases e
      rw [if_pos (show (longI A B R).length ≤ 2000 from z)]
      subst e1
      show Sg E _ (Gc (longI A B (R.take R.length)) .no .no .no .no .no .no) [(p, dXo P w K (kn + R.length) (ksA ks (R.take R.length)) (fK A B))] _
      rw [List.take_length]
      exact sg_rt (ss_freeze (n := 3) rfl (ss_ret (sv_var rfl)))
    · have e2 : o = .bad cTL (Xi (N + 1)) := if_neg z
      rw [e2] at e; cases e
  · rcases hc with ⟨z, e1⟩ | ⟨z, _⟩
    · have e2 : o = .nx (Gi N) (Xi N) := if_pos z
      rw [e2] at hl; cases hl
    · have e2 : o = .bad cTL (Xi (N + 1)) := if_neg z
      rw [e2, if_neg (show ¬ (longI A B R).length ≤ 2000 from z)]
end
end K58

namespace K58
open PySem L2 Evl Mini PyProof.Rows
section
variable {E : XK} {ts : TS} {G G1 : Gm} {X X1 X2 : Gx} {P P' : Ty} {C : Addr} {c : Prop} [Decidable c] {n : Nat}
theorem xok_nil {M0 B M : Hp} : XOk [] M0 B M := { nd := List.nodup_nil, m0 := fun x h => absurd h List.not_mem_nil, ob := fun x h => absurd h List.not_mem_nil }
theorem sg_iteDrop (h : Sg E ts G X (if c then .rt P X1 else .bad C X2)) : Sg E ts G X (if c then .rt P [] else .bad C []) := by
  by_cases z : c
  · rw [if_pos z] at h ⊢
    exact fun M0 D σ B M H g q => h M0 D σ B M H g fun v B' M' e d k p _ => q v B' M' e d k p xok_nil
  · rw [if_neg z] at h ⊢
    exact fun M0 D σ B M H g q => h M0 D σ B M H g fun B' M' e d k _ => q B' M' e d k xok_nil
theorem ss_sgIte (h : Sg E ts G [] (if c then .rt P X1 else .bad C X2)) : Ss (fun _ => E) ts G (if c then .rt P else .bad C (List.replicate G.length .no)) := by
  by_cases z : c
  · rw [if_pos z] at h ⊢; exact ss_sgRt h
  · rw [if_neg z] at h ⊢; exact ss_sgBad h
theorem ans_ite {G' : Gm} (h : Ss (fun _ => E) ts G (if c then .rt P else .bad C G')) : Ans (fun _ => E) ts G (if c then .ok P else .bad C) := by
  by_cases z : c
  · rw [if_pos z] at h ⊢; exact .ok h
  · rw [if_neg z] at h ⊢; exact .bad h
theorem holds_tyle {M0 B M : Hp} {σ : L2.St} (H : Holds M0 G σ B M) (hn : G[n]? = some (.im P)) (l : TyLe P P') : Holds M0 (G.set n (.im P')) σ B M := by
  have hlt := (List.getElem?_eq_some_iff.mp hn).1
  have at' : ∀ {i : Nat} {S : Sl}, (G.set n (.im P'))[i]? = some S → (i = n ∧ S = .im P') ∨ (i ≠ n ∧ G[i]? = some S) := fun {i S} q => by
    by_cases z : i = n
    · subst z; rw [List.getElem?_set_self hlt] at q; cases q; exact .inl ⟨rfl, rfl⟩
    · exact .inr ⟨z, by rw [List.getElem?_set_ne (Ne.symm z)] at q; exact q⟩
  refine ⟨by rw [List.length_set]; exact H.len, H.dj, H.cal, fun i Q q => ?_, fun i R q => ?_, fun i R q => ?_, fun i j R1 R2 l' q1 q2 s1 s2 => ?_⟩
  · rcases at' q with ⟨rfl, z⟩ | ⟨_, z⟩
    · cases z
      obtain ⟨v, a, b⟩ := H.im i _ hn
      exact ⟨v, a, l v B b⟩
    · exact H.im i Q z
  · rcases at' q with ⟨_, z⟩ | ⟨_, z⟩
    · cases z
    · exact H.ow i R z
  · rcases at' q with ⟨_, z⟩ | ⟨_, z⟩
    · cases z
    · exact H.bw i R z
  · rcases at' q1 with ⟨_, z⟩ | ⟨_, z1⟩
    · cases z
    · rcases at' q2 with ⟨_, z⟩ | ⟨_, z2⟩
      · cases z
      · exact H.ne i j R1 R2 l' z1 z2 s1 s2
theorem sg_tyle (h : Sg E ts G X (.nx G1 X1)) (hn : G1[n]? = some (.im P)) (l : TyLe P P') : Sg E ts G X (.nx (G1.set n (.im P')) X1) := fun M0 D σ B M H g q => h M0 D σ B M H g fun σ' B' M' e H' g' => by
  have a : ∀ x ∈ X1, ∀ (i : Nat) R, (G1.set n (.im P'))[i]? = some (Sl.ow R) → σ'[i]? ≠ some (some (V.ref x.1)) := fun x hx i R z => by
    by_cases w : i = n
    · subst w
      rw [List.getElem?_set_self (List.getElem?_eq_some_iff.mp hn).1] at z
      cases z
    · exact g'.ns x hx i R (by rw [List.getElem?_set_ne (Ne.symm w)] at z; exact z)
  exact q σ' B' M' e (holds_tyle H' hn l) { toXOk := g'.toXOk, ns := a }
end
/-! ### the rows of a length -/
def lvlI (A B : List (List Int)) : Nat → List It
  | 0 => [([], ([], []), true)]
  | n + 1 => longI A B (lvlI A B n)
def fndI (A B : List (List Int)) (n : Nat) : List It := (List.range n).flatMap fun i => (lvlI A B (i + 1)).filter fun r => isBg r.2.1
def fitI (A B : List (List Int)) (n : Nat) : Bool := (List.range n).all fun i => decide ((lvlI A B (i + 1)).length ≤ 2000)
theorem fndI_succ (A B : List (List Int)) (n : Nat) : fndI A B (n + 1) = fndI A B n ++ (lvlI A B (n + 1)).filter fun r => isBg r.2.1 := by
  unfold fndI
  rw [List.range_succ, List.flatMap_append]
  simp
theorem fitI_iff {A B : List (List Int)} {n : Nat} : fitI A B n = true ↔ ∀ i, i < n → (lvlI A B (i + 1)).length ≤ 2000 := by
  unfold fitI
  rw [List.all_eq_true]
  constructor
  · intro h i hi; exact of_decide_eq_true (h i (List.mem_range.mpr hi))
  · intro h i hi; exact decide_eq_true (h i (List.mem_range.mp hi))
structure Small (A B : List (List Int)) (m : Int) : Prop where
  two : Two A B m
  sm : ∀ k : Nat, k < A.length → (wAt A k).length ≤ 80 ∧ (wAt B k).length ≤ 80
theorem stepsQ_mem {A B : List (List Int)} {s : St2} {n : Nat} {q : Nat × St2} (h : q ∈ stepsQ A B s n) : q.1 < n ∧ behF s.1 s.2 (wAt A q.1) (wAt B q.1) = some q.2 := by
  unfold stepsQ at h
  obtain ⟨k, hk, e⟩ := List.mem_filterMap.mp h
  obtain ⟨p, hp, e2⟩ := Option.map_eq_some_iff.mp e
  subst e2
  exact ⟨List.mem_range.mp hk, hp⟩
theorem lvl_ok {A B : List (List Int)} {m : Int} (h : Small A B m) : ∀ i, ∀ r ∈ lvlI A B i, InR r.2.1.1 ∧ InR r.2.1.2 ∧ r.2.1.1.length + r.2.1.2.length ≤ 80 * i ∧ r.1.length = i
  | 0, r, hr => by
    obtain rfl := List.mem_singleton.mp hr
    exact ⟨fun v hv => absurd hv List.not_mem_nil, fun v hv => absurd hv List.not_mem_nil, Nat.le_refl _, rfl⟩
  | i + 1, r, hr => by
    obtain ⟨r0, h0, hr⟩ := List.mem_flatMap.mp hr
    obtain ⟨q, hq, rfl⟩ := List.mem_map.mp hr
    obtain ⟨a, b, c, d⟩ := lvl_ok h i r0 h0
    obtain ⟨hk, hb⟩ := stepsQ_mem hq
    obtain ⟨s1, s2⟩ := h.sm _ hk
    have w1 := h.two.wA hk
    have w2 := h.two.wB hk
    obtain ⟨t1, t2⟩ := behF_in hb a b w1.1 w2.1
    have t3 := behF_sum hb
    refine ⟨t1, t2, ?_, ?_⟩
    · show q.2.1.length + q.2.2.length ≤ 80 * (i + 1)
      omega
    · show (r0.1 ++ [(q.1 : Int)]).length = i + 1
      rw [List.length_append, d]; rfl
theorem lvl_st {A B : List (List Int)} {m : Int} (h : Small A B m) {i : Nat} (hi : i ≤ 60) : ∀ r ∈ lvlI A B i, StOk A B r.2.1 := fun r hr => by
  obtain ⟨a, b, c, _⟩ := lvl_ok h i r hr
  refine ⟨a, b, fun k hk => ?_, by omega⟩
  obtain ⟨s1, s2⟩ := h.sm k hk
  omega
def ksI (A B : List (List Int)) : Nat → List (List Key)
  | 0 => []
  | n + 1 => ksA (ksI A B n) (lvlI A B n)
def fpD (r : It) : PyData := .tuple [.tuple (r.1.map .int), .bool r.2.2]
def bgD (d : PyData) : Bool := match d with
  | .tuple [_, s, _] => PyData.eqv s (pairQ true [] [])
  | _ => false
def fpF (d : PyData) : PyData := match d with
  | .tuple [a, _, b] => .tuple [a, b]
  | _ => .none
theorem filt_it {R : List It} (h : ∀ r ∈ R, InR r.2.1.1 ∧ InR r.2.1.2) : ((R.map itD).filter bgD).map fpF = (R.filter fun r => isBg r.2.1).map fpD := by
  induction R with
  | nil => rfl
  | cons r R ih =>
    have ih := ih fun r' h' => h r' (List.mem_cons_of_mem _ h')
    obtain ⟨h1, h2⟩ := h r (List.mem_cons_self ..)
    have e : bgD (itD r) = isBg r.2.1 := eqv_bg h1 h2
    rw [List.map_cons]
    cases z : isBg r.2.1 with
    | true => rw [List.filter_cons_of_pos (by rw [e]; exact z), List.filter_cons_of_pos (p := fun r : It => isBg r.2.1) z, List.map_cons, List.map_cons, ih]; rfl
    | false => rw [List.filter_cons_of_neg (by rw [e, z]; exact Bool.false_ne_true), List.filter_cons_of_neg (p := fun r : It => isBg r.2.1) (by show ¬ isBg r.2.1 = true; rw [z]; exact Bool.false_ne_true), ih]
theorem ty_it {K : PySem.W.Frag} (R : List It) : TyLe (isD (.list (R.map itD))) (isLs (R.map (itT K))) := by
  refine tyLe_lst ?_
  induction R with
  | nil => exact .nil
  | cons r R ih => exact .cons (tyLe_tup (.cons tyLe_D (.cons tyLe_P (.cons tyLe_D .nil)))) ih
section
variable {P : Program} {w : World} {K : PySem.W.Frag} {mg : Str → Option Value} {base : Heap} {cAE cBB cBN cBR cTL cBk cPr aBG : Addr}
/-! ### _rows_up_to -/
def S_rows_up_to (cBk cPr cTL : Addr) : Fs := ⟨{x : (Int × List (List Int) × List (List Int)) × Nat // Small x.1.2.1 x.1.2.2 x.1.1 ∧ x.2 ≤ 60}, 2, fun x => [.im (isI cPr (pairF cBk x.1.1.1 (wD x.1.1.2.1) x.1.1.1 (wD x.1.1.2.2))), .im (isD (.int (x.1.2 : Int)))], fun _ => rfl,
  fun x => if fitI x.1.1.2.1 x.1.1.2.2 x.1.2 = true then .ok (isD (.list ((fndI x.1.1.2.1 x.1.1.2.2 x.1.2).map fpD))) else .bad cTL⟩
abbrev st__rows_up_to : Stmt := top 35
theorem sc__rows_up_to : FnScope ["pair", "length", "words", "steps", "found", "rows", "_", "is_prime", "row", "state"] ["pair", "length"] (defScope st__rows_up_to) := ⟨rfl, rfl, rfl, by decide +kernel, rfl, by decide +kernel, by decide +kernel⟩
theorem ok__rows_up_to {f : Addr} {fd : FuncData} (T : Txt K mg cAE cBB cBN cBR cTL cBk cPr aBG) (F__check_books : FnC P w K mg base 2 "_check_books" (spF (S_check_books cBk cPr cBB))) (F_is_below : FnC P w K mg base 2 "is_below" (spF (S_is_below))) (F__word_pairs : FnC P w K mg base 5 "_word_pairs" (spF (S_word_pairs cBk cPr))) (F__one_longer : FnC P w K mg base 4 "_one_longer" (spM (S_one_longer P w K cTL))) (F : Fun K "_rows_up_to" "_rows_up_to" st__rows_up_to f fd) : FnOk P w K mg base (L2.CX P w) 6 f fd ["pair", "length"] (spF (S_rows_up_to cBk cPr cTL)) := by
  refine fn_ok F sc__rows_up_to rfl fun cdv A outer s H E hr => ?_
  have tk : Takes (cxD P w K mg base ["pair", "length", "words", "steps", "found", "rows", "_", "is_prime", "row", "state"] "_rows_up_to" st__rows_up_to f cdv A outer s H E) (fun cls d _ H => E cls d H) := takes_of rfl rfl rfl rfl
  have hx := pxM tk
  have nd := sc__rows_up_to.nd
  refine ⟨_, (pss_cons (ps_expr (pe_fn F__check_books hr hx (pa_cons (pv 0) pa_nil)))
 (pss_cons (ps_if (pt_not (pt_val (pe_fn F_is_below hr hx (pa_cons (pv 1) (pa_cons (pe_op op_uAdd (pe_gc T.c_LONGEST_LISTED) pe_int) pa_nil))))) (pss_one (ps_rs rfl tk (pmk_err T.e_BadNumber))) pss_nil)
 (pss_cons (ps_set (i := 2) nd rfl (Or.inl rfl) (pe_fn F__word_pairs hr hx (pa_cons (pv 0) pa_nil)))
 (pss_cons (ps_set (i := 3) nd rfl (Or.inl rfl) pe_xnew)
 (pss_cons (ps_set (i := 4) nd rfl (Or.inl rfl) (pe_lst pa_nil))
 (pss_cons (ps_set (i := 5) nd rfl (Or.inl rfl) (pe_lst (pa_cons (pe_tup (pa_cons (pe_tup pa_nil) (pa_cons (pe_gc T.c_BEGIN) (pa_cons pe_bl pa_nil)))) pa_nil)))
 (pss_cons (ps_for (passes_of rfl) rfl (pi_range1 (by rfl) T.no_range (pa_cons (pv 1) pa_nil)) (pg_name (i := 6) nd rfl (Or.inl rfl)) (pss_cons (ps_set (i := 5) nd rfl (Or.inl rfl) (pe_fn F__one_longer hr hx (pa_cons (pv 5) (pa_cons (pv 2) (pa_cons (pv 3) pa_nil)))))
 (pss_one (ps_expr (pe_bm PySem.F.plainAttrs_list PySem.F.slot_list_extend PySem.F.type_list_extend mt_extend (pv 4) (pa_cons (pe_lc (own := [("row", 8), ("state", 9), ("is_prime", 7)]) (g := (gTup K 3 (gCons (gName 8) (gCons (gName 9) (gCons (gName 7) gNil))))) rfl nd (pi_list (pv 5)) (blkOk_by (N := ["pair", "length", "words", "steps", "found", "rows", "_", "is_prime", "row", "state"]) (sc := defScope st__rows_up_to) (by decide +kernel)) (fun _ _ _ _ _ => (pg_tupK (K := K) rfl (pgs_cons (pg_name (i := 8) nd rfl (Or.inl rfl)) (pgs_cons (pg_name (i := 9) nd rfl (Or.inl rfl)) (pgs_cons (pg_name (i := 7) nd rfl (Or.inl rfl)) pgs_nil))))) (fun _ _ _ _ _ => (pts_one (pt_cmpR (r := rEqD K) (op_eqD hr.units) (pv 9) (pe_gc T.c_BEGIN) (nomark _)))) (fun _ _ _ _ _ => (pe_tup (pa_cons (pv 8) (pa_cons (pv 7) pa_nil))))) pa_nil))))))
 (pss_one (ps_ret (pv 4)))))))))), ?_⟩
  intro x
  obtain ⟨⟨⟨m, A, B⟩, n⟩, h, hn⟩ := x
  have h : Small A B m := h
  have hn : n ≤ 60 := hn
  have hz : (sizeLine : Nat) = 16777216 := sizeLine_eq
  have hl := h.two.len
  have lA : (wD A).length = A.length := by unfold wD; rw [List.length_map]
  have lB : (wD B).length = B.length := by unfold wD; rw [List.length_map]
  let PT := isI cPr (pairF cBk m (wD A) m (wD B))
  show Mini.Ans _ _ [.im PT, .im (isD (.int (n : Int))), .no, .no, .no, .no, .no, .no, .no, .no] (if fitI A B n = true then .ok (isD (.list ((fndI A B n).map fpD))) else .bad cTL)
  refine ans_ite (G' := List.replicate 10 .no) (ss_seq (ss_drop (P := isD .none) (sv_call (S := S_check_books cBk cPr cBB) (sa_im (sv_var rfl) sa_nil) (m, wD A, wD B) rfl (by show (if (wD A).length = (wD B).length then Rs.ok (isD .none) else .bad cBB) = _; rw [if_pos (by rw [lA, lB]; exact hl)]))) ?_)
  refine ss_seq (ss_if0 (st_is (st_not (st_B (sv_call (S := S_is_below) (sa_im (sv_var rfl) (sa_im (sv_add sv_int sv_int) sa_nil)) (.int (n : Int), 61) rfl rfl))) (by rw [(belowB_int (n : Int) 61).mpr ⟨by omega, by omega⟩]; rfl)) ss_next) ?_
  refine ss_seq (ss_set (P := isD (.list (wps A B))) (sv_call (S := S_word_pairs cBk cPr) (sa_im (sv_var rfl) sa_nil) ⟨(m, A, B), h.two⟩ rfl rfl)) ?_
  refine ss_sgIte (X1 := []) (X2 := []) (sg_xnew (K := K) (fK A B) (Nat.le_of_ble_eq_true rfl) fun p => ?_)
  let Gc : List It → Sl → Sl → Sl → Sl → Sl → Gm := fun F x5 x6 x7 x8 x9 => [.im PT, .im (isD (.int (n : Int))), .im (isD (.list (wps A B))), .im (isV (.ref p)), .ow (isL (F.map fpD)), x5, x6, x7, x8, x9]
  let Gi : Nat → Gm := fun i => Gc (fndI A B i) (.im (isLs ((lvlI A B i).map (itT K)))) .no .no .no .no
  let Xi : Nat → Gx := fun i => [(p, dXo P w K (2000 * i) (ksI A B i) (fK A B))]
  obtain ⟨N, hN, hpre, hc⟩ : ∃ N, N ≤ n ∧ (∀ i, i ≤ N → (lvlI A B i).length ≤ 2000) ∧ ((fitI A B n = true ∧ N = n) ∨ (¬ fitI A B n = true ∧ N < n ∧ 2000 < (lvlI A B (N + 1)).length)) := by
    by_cases z : fitI A B n = true
    · refine ⟨n, Nat.le_refl _, fun i hi => ?_, .inl ⟨z, rfl⟩⟩
      cases i with
      | zero => exact Nat.le_of_ble_eq_true rfl
      | succ i => exact fitI_iff.mp z i (by omega)
    · have z' : ∃ i, i < n ∧ 2000 < (lvlI A B (i + 1)).length := by
        apply Classical.byContradiction
        intro w
        exact z (fitI_iff.mpr fun i hi => Nat.le_of_not_lt fun q => w ⟨i, hi, q⟩)
      obtain ⟨i, hi, hi2⟩ := z'
      obtain ⟨N, h1, h2, h3⟩ := first_over (fun i => (lvlI A B i).length) 2000 (Nat.le_of_ble_eq_true rfl) (i + 1) hi2
      exact ⟨N, by omega, h2, .inr ⟨z, by omega, h3⟩⟩
  let o : Og := if fitI A B n = true then .nx (Gi N) (Xi N) else .bad cTL (Xi N |>.map fun y => (y.1, anyO))
  refine sg_iteDrop (X1 := Xi n) (X2 := (Xi N).map fun y => (y.1, anyO)) ?_
  refine sg_seq (sg_nx (ss_setL (svl_lst (ds := []) sa_nil (Nat.zero_le _))) rfl) ?_
  refine sg_seq (sg_nx (ss_set (P := isLs [itT K ([], ([], []), true)]) (sv_lstLs (Ps := [itT K ([], ([], []), true)]) (sa_im (sv_tupTs (Ps := [isD (.tuple []), isP K (pairQ true [] []), isD (.bool true)]) (sa_im (sv_tup (ds := []) sa_nil (Nat.zero_le _)) (sa_im (sv_bg T) (sa_im sv_bl sa_nil))) (by show 3 ≤ sizeLine; omega)) sa_nil) (by show 1 ≤ sizeLine; omega))) rfl) ?_
  refine sg_seqO (o := o) (sg_forR (n := (n : Int)) (j := 6) (sv_var rfl) (by omega) Gi Xi N (by omega) rfl rfl (fun _ _ => Nat.le_of_ble_eq_true rfl) (fun i hi => ?_) ?_) (fun G1 X1 e => ?_) (fun hlv => ?_)
  · have hi60 : i ≤ 60 := by omega
    have hlen := hpre i (by omega)
    have hlen1 := hpre (i + 1) (by omega)
    have hlv := lvl_ok h i
    have hlv1 := lvl_ok h (i + 1)
    have hf : (fndI A B i).length ≤ 2000 * i := by
      have : ∀ j, j ≤ i → (fndI A B j).length ≤ 2000 * j := fun j => by
        induction j with
        | zero => intro _; exact Nat.le_refl _
        | succ j ih =>
          intro hj
          have h1 := ih (by omega)
          have h2 := hpre (j + 1) (by omega)
          rw [fndI_succ, List.length_append]
          have := List.length_filter_le (fun r : It => isBg r.2.1) (lvlI A B (j + 1))
          omega
      exact this i (Nat.le_refl _)
    have call := sg_setM (E := E) (n := 5) (S := S_one_longer P w K cTL) (tas := tCons (tVar 5) (tCons (tVar 2) (tCons (tVar 3) tNil))) (G := Gc (fndI A B i) (.im (isLs ((lvlI A B i).map (itT K)))) (.im (isD (.int (i : Int)))) .no .no .no) (X1 := Xi i) (X2 := []) (Y := [(p, dXo P w K (2000 * i + (lvlI A B i).length) (ksA (ksI A B i) (lvlI A B i)) (fK A B))]) (P := isD (.list ((lvlI A B (i + 1)).map itD))) (as := [isLs ((lvlI A B i).map (itT K)), isD (.list (wps A B)), isV (.ref p)])
      (sa_im (sv_var rfl) (sa_im (sv_var rfl) (sa_im (sv_var rfl) sa_nil))) ⟨⟨m, A, B, lvlI A B i, p, ksI A B i, 2000 * i⟩, ⟨h.two, lvl_st h hi60, hlen, by show 2000 * i + 2000 ≤ 1000000; omega, fun r hr => by have := (hlv r hr).2.2.2; omega⟩⟩ rfl rfl (by
        show (if (longI A B (lvlI A B i)).length ≤ 2000 then _ else _) = _
        exact if_pos hlen1) rfl (Nat.le_of_ble_eq_true rfl)
    refine sg_seq (sg_gle (X1 := []) call (dXo_le (m := 2000 * (i + 1)) (by omega))) ?_
    refine sg_tyle (n := 5) (P := isD (.list ((lvlI A B (i + 1)).map itD))) (G1 := Gc (fndI A B (i + 1)) (.im (isD (.list ((lvlI A B (i + 1)).map itD)))) .no .no .no .no) (sg_nx (ss_nxLe (G1 := Gc (fndI A B (i + 1)) (.im (isD (.list ((lvlI A B (i + 1)).map itD)))) (.im (isD (.int (i : Int)))) .no .no .no) ?_ (by repeat first | exact Le.nil | refine Le.eq ?_ | refine Le.no ?_)) rfl) rfl (ty_it _)
    show Ss _ _ (Gc (fndI A B i) (.im (isD (.list ((lvlI A B (i + 1)).map itD)))) (.im (isD (.int (i : Int)))) .no .no .no) (.nx [.im PT, .im (isD (.int (n : Int))), .im (isD (.list (wps A B))), .im (isV (.ref p)), .ow (isL ((fndI A B (i + 1)).map fpD)), .im (isD (.list ((lvlI A B (i + 1)).map itD))), .im (isD (.int (i : Int))), .no, .no, .no])
    rw [fndI_succ, List.map_append, ← filt_it (fun r hr => ⟨(hlv1 r hr).1, (hlv1 r hr).2.1⟩)]
    refine ss_extend (n := 4) (ds := (fndI A B i).map fpD) rfl (rl_svl (svl_lcG (vs := [8, 9, 7]) (js := [8] ++ ([9] ++ [7])) (rl_sv (sv_var rfl)) (set3 8 9 7) bgD fpF (by rw [List.length_map]; omega) (fun d hd => ?_) (by decide) (fun d hd => ?_) fun d hd _ => ?_)) ?_
    · obtain ⟨r, _, rfl⟩ := List.mem_map.mp hd
      exact tg_tup3 (tg_name (Nat.le_of_ble_eq_true rfl)) (tg_name (Nat.le_of_ble_eq_true rfl)) (tg_name (Nat.le_of_ble_eq_true rfl)) (fun G => List.length_set ..) (fun G => List.length_set ..)
    · obtain ⟨r, hr, rfl⟩ := List.mem_map.mp hd
      obtain ⟨r1, r2, _⟩ := hlv1 r hr
      exact st_is (st_B (sv_eqP (d := pairQ true r.2.1.1 r.2.1.2) (sv_pD (sv_var rfl)) (sv_bg T) (shaped_pair _ _) (shaped_pair [] []))) rfl
    · obtain ⟨r, _, rfl⟩ := List.mem_map.mp hd
      exact sv_tt (sv_var rfl) (sv_var rfl)
    · rw [List.length_map, List.length_map]
      have := List.length_filter_le bgD ((lvlI A B (i + 1)).map itD)
      rw [List.length_map] at this
      omega
  · rcases hc with ⟨z, e⟩ | ⟨z, e1, e2⟩
    · exact .inl ⟨by omega, if_pos z⟩
    · have eo : o = .bad cTL ((Xi N).map fun y => (y.1, anyO)) := if_neg z
      rw [eo]
      refine .inr ⟨by omega, trivial, sg_seqBad ?_⟩
      have hlv := lvl_ok h N
      exact sg_setMbad (E := E) (n := 5) (S := S_one_longer P w K cTL) (tas := tCons (tVar 5) (tCons (tVar 2) (tCons (tVar 3) tNil))) (G := Gc (fndI A B N) (.im (isLs ((lvlI A B N).map (itT K)))) (.im (isD (.int (N : Int)))) .no .no .no) (X1 := Xi N) (X2 := []) (as := [isLs ((lvlI A B N).map (itT K)), isD (.list (wps A B)), isV (.ref p)])
        (sa_im (sv_var rfl) (sa_im (sv_var rfl) (sa_im (sv_var rfl) sa_nil))) ⟨⟨m, A, B, lvlI A B N, p, ksI A B N, 2000 * N⟩, ⟨h.two, lvl_st h (by omega), hpre N (Nat.le_refl _), by show 2000 * N + 2000 ≤ 1000000; omega, fun r hr => by have := (hlv r hr).2.2.2; omega⟩⟩ rfl rfl (by
          show (if (longI A B (lvlI A B N)).length ≤ 2000 then _ else _) = _
          exact if_neg (show ¬ (lvlI A B (N + 1)).length ≤ 2000 by omega))
  · rcases hc with ⟨z, e1⟩ | ⟨z, _⟩
    · have eo : o = .nx (Gi N) (Xi N) := if_pos z
      rw [eo] at e
      cases e
      subst e1
      rw [if_pos z]
      exact sg_rt (ss_freeze (n := 4) rfl (ss_ret (sv_var rfl)))
    · have eo : o = .bad cTL ((Xi N).map fun y => (y.1, anyO)) := if_neg z
      rw [eo] at e; cases e
  · rcases hc with ⟨z, e1⟩ | ⟨z, _⟩
    · have eo : o = .nx (Gi N) (Xi N) := if_pos z
      rw [eo] at hlv; cases hlv
    · rw [if_neg z]
      exact (if_neg z).symm
end
end K58

namespace K58
open PySem L2 Evl Mini PyProof.Rows
def rwD (r : It) : PyData := .tuple (r.1.map .int)
def fst2 (d : PyData) : PyData := match d with
  | .tuple [a, _] => a
  | _ => .none
def snd2 (d : PyData) : Bool := match d with
  | .tuple [_, .bool b] => b
  | _ => false
theorem fnd_len {A B : List (List Int)} {n : Nat} (h : fitI A B n = true) : (fndI A B n).length ≤ 2000 * n := by
  have : ∀ j, j ≤ n → (fndI A B j).length ≤ 2000 * j := fun j => by
    induction j with
    | zero => intro _; exact Nat.le_refl _
    | succ j ih =>
      intro hj
      have h1 := ih (by omega)
      have h2 := fitI_iff.mp h j (by omega)
      rw [fndI_succ, List.length_append]
      have := List.length_filter_le (fun r : It => isBg r.2.1) (lvlI A B (j + 1))
      omega
  exact this n (Nat.le_refl _)
def rowsI (A B : List (List Int)) (n : Nat) : List (List Int) := (fndI A B n).map (·.1)
def primI (A B : List (List Int)) (n : Nat) : List (List Int) := ((fndI A B n).filter (·.2.2)).map (·.1)
section
variable {P : Program} {w : World} {K : PySem.W.Frag} {mg : Str → Option Value} {base : Heap} {cAE cBB cBN cBR cTL cBk cPr aBG : Addr}
/-! ### alike_rows, prime_rows -/
def S_alike (cBk cPr cTL : Addr) : Fs := ⟨{x : (Int × List (List Int) × List (List Int)) × Nat // Small x.1.2.1 x.1.2.2 x.1.1 ∧ x.2 ≤ 60}, 2, fun x => [.im (isI cPr (pairF cBk x.1.1.1 (wD x.1.1.2.1) x.1.1.1 (wD x.1.1.2.2))), .im (isD (.int (x.1.2 : Int)))], fun _ => rfl,
  fun x => if fitI x.1.1.2.1 x.1.1.2.2 x.1.2 = true then .ok (isD (.list (wD (rowsI x.1.1.2.1 x.1.1.2.2 x.1.2)))) else .bad cTL⟩
abbrev st_alike_rows : Stmt := top 27
theorem sc_alike_rows : FnScope ["pair", "length", "_", "row"] ["pair", "length"] (defScope st_alike_rows) := ⟨rfl, rfl, rfl, by decide +kernel, rfl, by decide +kernel, by decide +kernel⟩
theorem ok_alike_rows {f : Addr} {fd : FuncData} (T : Txt K mg cAE cBB cBN cBR cTL cBk cPr aBG) (F__rows_up_to : FnC P w K mg base 6 "_rows_up_to" (spF (S_rows_up_to cBk cPr cTL))) (F : Fun K "alike_rows" "alike_rows" st_alike_rows f fd) : FnOk P w K mg base (L2.CX P w) 7 f fd ["pair", "length"] (spF (S_alike cBk cPr cTL)) := by
  refine fn_ok F sc_alike_rows rfl fun cdv A outer s H E hr => ?_
  have tk : Takes (cxD P w K mg base ["pair", "length", "_", "row"] "alike_rows" st_alike_rows f cdv A outer s H E) (fun cls d _ H => E cls d H) := takes_of rfl rfl rfl rfl
  have hx := pxM tk
  have nd := sc_alike_rows.nd
  refine ⟨_, (pss_one (ps_ret (pe_lc (own := [("row", 3), ("_", 2)]) (g := (gTup K 2 (gCons (gName 3) (gCons (gName 2) gNil)))) (tt := tYes) rfl nd (pi_list (pe_fn F__rows_up_to hr hx (pa_cons (pv 0) (pa_cons (pv 1) pa_nil)))) (blkOk_by (N := ["pair", "length", "_", "row"]) (sc := defScope st_alike_rows) (by decide +kernel)) (fun _ _ _ _ _ => (pg_tupK (K := K) rfl (pgs_cons (pg_name (i := 3) nd rfl (Or.inl rfl)) (pgs_cons (pg_name (i := 2) nd rfl (Or.inl rfl)) pgs_nil)))) (fun _ _ _ _ _ => pts_nil) (fun _ _ _ _ _ => (pv 3))))), ?_⟩
  intro x
  obtain ⟨⟨⟨m, A, B⟩, n⟩, h, hn⟩ := x
  have hn : n ≤ 60 := hn
  show Mini.Ans _ _ [.im (isI cPr (pairF cBk m (wD A) m (wD B))), .im (isD (.int (n : Int))), .no, .no] (if fitI A B n = true then .ok (isD (.list (wD (rowsI A B n)))) else .bad cTL)
  have sa : Sa (tCons (tVar 0) (tCons (tVar 1) tNil)) [.im (isI cPr (pairF cBk m (wD A) m (wD B))), .im (isD (.int (n : Int))), .no, .no] ((S_rows_up_to cBk cPr cTL).ars ⟨((m, A, B), n), h, hn⟩) := sa_im (sv_var rfl) (sa_im (sv_var rfl) sa_nil)
  by_cases c : fitI A B n = true
  · rw [if_pos c]
    have hl := fnd_len c
    refine .ok (ss_ret (sv_svl (svl_is (svl_lcGm (vs := [3, 2]) (js := [3] ++ [2]) (rl_sv (sv_call (S := S_rows_up_to cBk cPr cTL) sa ⟨((m, A, B), n), h, hn⟩ rfl (by show (if fitI A B n = true then _ else _) = _; exact if_pos c))) (set2 3 2) fst2 (by rw [List.length_map]; show (fndI A B n).length < 10000000; omega) (fun d hd => ?_) (by decide) fun d hd => ?_) ?_)))
    · obtain ⟨r, _, rfl⟩ := List.mem_map.mp hd
      exact tg_set2 (Nat.le_of_ble_eq_true rfl) (Nat.le_of_ble_eq_true rfl)
    · obtain ⟨r, _, rfl⟩ := List.mem_map.mp hd
      exact sv_var rfl
    · unfold rowsI wD
      rw [List.map_map, List.map_map]
      exact List.map_congr_left fun r _ => rfl
  · rw [if_neg c]
    exact .bad (ss_retBad (sb_lc (sb_call (S := S_rows_up_to cBk cPr cTL) sa ⟨((m, A, B), n), h, hn⟩ rfl (by show (if fitI A B n = true then _ else _) = _; exact if_neg c))))
def S_prime (cBk cPr cTL : Addr) : Fs := ⟨{x : (Int × List (List Int) × List (List Int)) × Nat // Small x.1.2.1 x.1.2.2 x.1.1 ∧ x.2 ≤ 60}, 2, fun x => [.im (isI cPr (pairF cBk x.1.1.1 (wD x.1.1.2.1) x.1.1.1 (wD x.1.1.2.2))), .im (isD (.int (x.1.2 : Int)))], fun _ => rfl,
  fun x => if fitI x.1.1.2.1 x.1.1.2.2 x.1.2 = true then .ok (isD (.list (wD (primI x.1.1.2.1 x.1.1.2.2 x.1.2)))) else .bad cTL⟩
abbrev st_prime_rows : Stmt := top 28
theorem sc_prime_rows : FnScope ["pair", "length", "is_prime", "row"] ["pair", "length"] (defScope st_prime_rows) := ⟨rfl, rfl, rfl, by decide +kernel, rfl, by decide +kernel, by decide +kernel⟩
theorem ok_prime_rows {f : Addr} {fd : FuncData} (T : Txt K mg cAE cBB cBN cBR cTL cBk cPr aBG) (F__rows_up_to : FnC P w K mg base 6 "_rows_up_to" (spF (S_rows_up_to cBk cPr cTL))) (F : Fun K "prime_rows" "prime_rows" st_prime_rows f fd) : FnOk P w K mg base (L2.CX P w) 7 f fd ["pair", "length"] (spF (S_prime cBk cPr cTL)) := by
  refine fn_ok F sc_prime_rows rfl fun cdv A outer s H E hr => ?_
  have tk : Takes (cxD P w K mg base ["pair", "length", "is_prime", "row"] "prime_rows" st_prime_rows f cdv A outer s H E) (fun cls d _ H => E cls d H) := takes_of rfl rfl rfl rfl
  have hx := pxM tk
  have nd := sc_prime_rows.nd
  refine ⟨_, (pss_one (ps_ret (pe_lc (own := [("row", 3), ("is_prime", 2)]) (g := (gTup K 2 (gCons (gName 3) (gCons (gName 2) gNil)))) rfl nd (pi_list (pe_fn F__rows_up_to hr hx (pa_cons (pv 0) (pa_cons (pv 1) pa_nil)))) (blkOk_by (N := ["pair", "length", "is_prime", "row"]) (sc := defScope st_prime_rows) (by decide +kernel)) (fun _ _ _ _ _ => (pg_tupK (K := K) rfl (pgs_cons (pg_name (i := 3) nd rfl (Or.inl rfl)) (pgs_cons (pg_name (i := 2) nd rfl (Or.inl rfl)) pgs_nil)))) (fun _ _ _ _ _ => (pts_one (pt_val (pv 2)))) (fun _ _ _ _ _ => (pv 3))))), ?_⟩
  intro x
  obtain ⟨⟨⟨m, A, B⟩, n⟩, h, hn⟩ := x
  have hn : n ≤ 60 := hn
  show Mini.Ans _ _ [.im (isI cPr (pairF cBk m (wD A) m (wD B))), .im (isD (.int (n : Int))), .no, .no] (if fitI A B n = true then .ok (isD (.list (wD (primI A B n)))) else .bad cTL)
  have sa : Sa (tCons (tVar 0) (tCons (tVar 1) tNil)) [.im (isI cPr (pairF cBk m (wD A) m (wD B))), .im (isD (.int (n : Int))), .no, .no] ((S_rows_up_to cBk cPr cTL).ars ⟨((m, A, B), n), h, hn⟩) := sa_im (sv_var rfl) (sa_im (sv_var rfl) sa_nil)
  by_cases c : fitI A B n = true
  · rw [if_pos c]
    have hl := fnd_len c
    refine .ok (ss_ret (sv_svl (svl_is (svl_lcG (vs := [3, 2]) (js := [3] ++ [2]) (rl_sv (sv_call (S := S_rows_up_to cBk cPr cTL) sa ⟨((m, A, B), n), h, hn⟩ rfl (by show (if fitI A B n = true then _ else _) = _; exact if_pos c))) (set2 3 2) snd2 fst2 (by rw [List.length_map]; show (fndI A B n).length < 10000000; omega) (fun d hd => ?_) (by decide) (fun d hd => ?_) fun d hd _ => ?_) ?_)))
    · obtain ⟨r, _, rfl⟩ := List.mem_map.mp hd
      exact tg_set2 (Nat.le_of_ble_eq_true rfl) (Nat.le_of_ble_eq_true rfl)
    · obtain ⟨r, _, rfl⟩ := List.mem_map.mp hd
      exact st_test (sv_var rfl)
    · obtain ⟨r, _, rfl⟩ := List.mem_map.mp hd
      exact sv_var rfl
    · unfold primI wD
      rw [List.filter_map, List.map_map, List.map_map]
      rfl
  · rw [if_neg c]
    exact .bad (ss_retBad (sb_lc (sb_call (S := S_rows_up_to cBk cPr cTL) sa ⟨((m, A, B), n), h, hn⟩ rfl (by show (if fitI A B n = true then _ else _) = _; exact if_neg c))))
end
end K58

namespace K58
open PySem L2 Evl Mini PyProof.Rows
def sdS (s : St2) : Str := if s.1 ≠ [] then "first" else if s.2 ≠ [] then "second" else "even"
def restQ (s : St2) : PyData := .tuple [.str (sdS s), SqD false (s.1 ++ s.2)]
theorem sd_ok (s : St2) : PyData.strOk (sdS s) = true := by
  unfold sdS
  split
  · decide +kernel
  · split <;> decide +kernel
theorem shS {s : Str} (h : PyData.strOk s = true) : SeqAt.shaped (.str s) = true := by
  unfold SeqAt.shaped
  rw [Bool.and_eq_true]
  exact ⟨by rw [PyData.canLay0]; exact h, decide_eq_true (by rw [PyData.depth]; omega)⟩
theorem sd_first (s : St2) : (sdS s == "first") = decide (s.1 ≠ []) := by
  unfold sdS
  by_cases c : s.1 ≠ []
  · rw [if_pos c, decide_eq_true c]; decide +kernel
  · rw [if_neg c, decide_eq_false c]; split <;> decide +kernel
theorem sd_second (s : St2) : (sdS s == "second") = (!decide (s.1 ≠ []) && decide (s.2 ≠ [])) := by
  unfold sdS
  by_cases c : s.1 ≠ []
  · rw [if_pos c, decide_eq_true c]; show _ = false; decide +kernel
  · rw [if_neg c, decide_eq_false c]
    by_cases d : s.2 ≠ []
    · rw [if_pos d, decide_eq_true d]; decide +kernel
    · rw [if_neg d, decide_eq_false d]; decide +kernel
def restO (o : Option St2) : PyData := match o with
  | none => .none
  | some p => restQ p
theorem behF_one {x y f g : List Int} {p : St2} (h : behF x y f g = some p) : p.1 = [] ∨ p.2 = [] := by
  unfold behF at h
  split at h
  · cases h
    by_cases c : (x ++ f).length ≤ (y ++ g).length
    · exact .inl (List.drop_eq_nil_of_le (by omega))
    · exact .inr (List.drop_eq_nil_of_le (by omega))
  · cases h
theorem len_min (a b : Nat) : (if (b : Int) < (a : Int) then (b : Int) else (a : Int)) = ((min a b : Nat) : Int) := by split <;> omega
section
variable {P : Program} {w : World} {K : PySem.W.Frag} {mg : Str → Option Value} {base : Heap} {cAE cBB cBN cBR cTL cBk cPr aBG : Addr}
/-! ### _law_step -/
structure LsOk (A B : List (List Int)) (s : St2) (k : Nat) : Prop where
  one : s.1 = [] ∨ s.2 = []
  ka : k < A.length
  kb : k < B.length
  z1 : s.1.length ≤ 100000 ∧ s.2.length ≤ 100000
  z2 : (wAt A k).length ≤ 100000 ∧ (wAt B k).length ≤ 100000
def S_lstep : Fs := ⟨{x : (List (List Int) × List (List Int)) × St2 × Nat // LsOk x.1.1 x.1.2 x.2.1 x.2.2}, 4, fun x => [.im (isD (.list (wD x.1.1.1))), .im (isD (.list (wD x.1.1.2))), .im (isD (restQ x.1.2.1)), .im (isD (.int (x.1.2.2 : Int)))], fun _ => rfl,
  fun x => .ok (isD (restO (behF x.1.2.1.1 x.1.2.1.2 (wAt x.1.1.1 x.1.2.2) (wAt x.1.1.2 x.1.2.2))))⟩
abbrev st__law_step : Stmt := top 40
theorem sc__law_step : FnScope ["first", "second", "rest", "number", "one", "two", "size"] ["first", "second", "rest", "number"] (defScope st__law_step) := ⟨rfl, rfl, rfl, by decide +kernel, rfl, by decide +kernel, by decide +kernel⟩
theorem ok__law_step {f : Addr} {fd : FuncData} (T : Txt K mg cAE cBB cBN cBR cTL cBk cPr aBG)  (F : Fun K "_law_step" "_law_step" st__law_step f fd) : FnOk P w K mg base (L2.CX P w) 1 f fd ["first", "second", "rest", "number"] (spF (S_lstep)) := by
  refine fn_ok F sc__law_step rfl fun cdv A outer s H E hr => ?_
  have tk : Takes (cxD P w K mg base ["first", "second", "rest", "number", "one", "two", "size"] "_law_step" st__law_step f cdv A outer s H E) (fun cls d _ H => E cls d H) := takes_of rfl rfl rfl rfl
  have hx := pxM tk
  have nd := sc__law_step.nd
  refine ⟨_, (pss_cons (ps_par (i := 4) (j := 5) rfl nd rfl rfl (by decide) rfl rfl (pa_cons (pe_ix ix_seq (pv 0) (pv 3) (fun _ _ => rfl)) (pa_cons (pe_ix ix_seq (pv 1) (pv 3) (fun _ _ => rfl)) pa_nil)) (by rfl))
 (pss_cons (ps_if (pt_cmpR (op_eqD hr.units) (pe_ix ix_seq (pv 2) pe_int (fun _ _ => rfl)) pe_str (nomark _)) (pss_one (ps_set (i := 4) nd rfl (Or.inl rfl) (pe_op op_uAdd (pe_ix ix_seq (pv 2) pe_int (fun _ _ => rfl)) (pv 4)))) pss_nil)
 (pss_cons (ps_if (pt_cmpR (op_eqD hr.units) (pe_ix ix_seq (pv 2) pe_int (fun _ _ => rfl)) pe_str (nomark _)) (pss_one (ps_set (i := 5) nd rfl (Or.inl rfl) (pe_op op_uAdd (pe_ix ix_seq (pv 2) pe_int (fun _ _ => rfl)) (pv 5)))) pss_nil)
 (pss_cons (ps_set (i := 6) nd rfl (Or.inl rfl) (pe_callB (call_min2 rfl) (by rfl) T.no_min (by decide +kernel) (pa_cons (pe_callB call_len (by rfl) T.no_len (by decide +kernel) (pa_cons (pv 4) pa_nil)) (pa_cons (pe_callB call_len (by rfl) T.no_len (by decide +kernel) (pa_cons (pv 5) pa_nil)) pa_nil))))
 (pss_cons (ps_if (pt_cmpR (op_neD hr.units) (pe_slice (r := uSlS K) sl_uSlS (pv 4) po_none (po_some (pv 6))) (pe_slice (r := uSlS K) sl_uSlS (pv 5) po_none (po_some (pv 6))) (nomark _)) (pss_one (ps_ret pe_non)) pss_nil)
 (pss_cons (ps_if (pt_cmpR (op_eqD hr.units) (pe_callB call_len (by rfl) T.no_len (by decide +kernel) (pa_cons (pv 4) pa_nil)) (pe_callB call_len (by rfl) T.no_len (by decide +kernel) (pa_cons (pv 5) pa_nil)) (nomark _)) (pss_one (ps_ret (pe_tup (pa_cons pe_str (pa_cons (pe_tup pa_nil) pa_nil))))) pss_nil)
 (pss_one (ps_ret (pe_ifExp (pt_cmpR op_gt (pe_callB call_len (by rfl) T.no_len (by decide +kernel) (pa_cons (pv 4) pa_nil)) (pv 6) (nomark _)) (pe_tup (pa_cons pe_str (pa_cons (pe_slice (r := uSlS K) sl_uSlS (pv 4) (po_some (pv 6)) po_none) pa_nil))) (pe_tup (pa_cons pe_str (pa_cons (pe_slice (r := uSlS K) sl_uSlS (pv 5) (po_some (pv 6)) po_none) pa_nil)))))))))))), ?_⟩
  intro x
  obtain ⟨⟨⟨A, B⟩, s, k⟩, h⟩ := x
  have h : LsOk A B s k := h
  have hz : (sizeLine : Nat) = 16777216 := sizeLine_eq
  obtain ⟨h1, hka, hkb, ⟨z1, z2⟩, z3, z4⟩ := h
  have aA : atI (wD A) (k : Int) = some (SqD false (wAt A k)) := atI_nat (by rw [wD_get hka]; rfl)
  have aB : atI (wD B) (k : Int) = some (SqD false (wAt B k)) := atI_nat (by rw [wD_get hkb]; rfl)
  show Mini.Ans _ _ [.im (isD (.list (wD A))), .im (isD (.list (wD B))), .im (isD (restQ s)), .im (isD (.int (k : Int))), .no, .no, .no] (.ok (isD (restO (behF s.1 s.2 (wAt A k) (wAt B k)))))
  generalize wAt A k = f at aA z3 ⊢
  generalize wAt B k = g at aB z4 ⊢
  let Gc : List Int → List Int → Sl → Gm := fun u v x6 => [.im (isD (.list (wD A))), .im (isD (.list (wD B))), .im (isD (restQ s)), .im (isD (.int (k : Int))), .im (isD (SqD false u)), .im (isD (SqD false v)), x6]
  refine .ok (ss_seq (G1 := Gc f g .no) (ss_par (sv_ixL (rl_sv (sv_var rfl)) (sv_var rfl) aA) (sv_ixL (rl_sv (sv_var rfl)) (sv_var rfl) aB)) ?_)
  have r0 : ∀ {u v : List Int} {x6 : Sl}, Sv (tOp (rIx K) (tVar 2) (tC (.int 0))) (Gc u v x6) (isD (.str (sdS s))) := fun {u v x6} => sv_ixT (ds := [.str (sdS s), SqD false (s.1 ++ s.2)]) (i := ((0 : Nat) : Int)) (sv_var rfl) sv_int (atI_nat rfl)
  have r1 : ∀ {u v : List Int} {x6 : Sl}, Sv (tOp (rIx K) (tVar 2) (tC (.int 1))) (Gc u v x6) (isD (SqD false (s.1 ++ s.2))) := fun {u v x6} => sv_ixT (ds := [.str (sdS s), SqD false (s.1 ++ s.2)]) (i := ((1 : Nat) : Int)) (sv_var rfl) sv_int (atI_nat rfl)
  have lit : ∀ {G : Gm} {z : Str}, PyData.strOk z = true → Sv (tC (.str z)) G (isD (.str z)) := fun {G z} _ => sv_str
  refine ss_seq (G1 := Gc (s.1 ++ f) g .no) (ss_if (b := decide (s.1 ≠ [])) (st_is (st_test (sv_eq (d := .str (sdS s)) (e := .str "first") r0 sv_str (shS (sd_ok s)) (shS (by decide +kernel)))) (by rw [PyData.eqv, sd_first])) (fun z => ?_) fun z => ?_) ?_
  · have z := of_decide_eq_true z
    have e2 : s.2 = [] := h1.resolve_left z
    refine ss_set (P := isD (SqD false (s.1 ++ f))) (sv_catQ (b := false) (sv_is r1 (by rw [e2, List.append_nil])) (sv_var rfl) (by omega))
  · have z : s.1 = [] := by
      have := of_decide_eq_false z
      exact Classical.byContradiction this
    rw [z]; exact ss_next
  refine ss_seq (G1 := Gc (s.1 ++ f) (s.2 ++ g) .no) (ss_if (b := !decide (s.1 ≠ []) && decide (s.2 ≠ [])) (st_is (st_test (sv_eq (d := .str (sdS s)) (e := .str "second") r0 sv_str (shS (sd_ok s)) (shS (by decide +kernel)))) (by rw [PyData.eqv, sd_second])) (fun z => ?_) fun z => ?_) ?_
  · rw [Bool.and_eq_true] at z
    have e1 : s.1 = [] := by
      have := of_decide_eq_true z.2
      exact h1.resolve_right this
    refine ss_set (P := isD (SqD false (s.2 ++ g))) (sv_catQ (b := false) (sv_is r1 (by rw [e1, List.nil_append])) (sv_var rfl) (by omega))
  · have z : s.2 = [] := by
      by_cases e1 : s.1 = []
      · by_cases e2 : s.2 = []
        · exact e2
        · simp [e1, e2] at z
      · exact h1.resolve_left e1
    rw [z]; exact ss_next
  have y1 : (s.1 ++ f).length ≤ sizeLine := by rw [List.length_append]; omega
  have y2 : (s.2 ++ g).length ≤ sizeLine := by rw [List.length_append]; omega
  unfold behF
  generalize s.1 ++ f = u at y1 ⊢
  generalize s.2 ++ g = v at y2 ⊢
  have lu : ∀ {x6 : Sl}, Sv (tCB (fun xs H Q => ∃ x n, xs = [x] ∧ LenV K x H n ∧ Q (.int n) H) (tCons (tVar 4) tNil)) (Gc u v x6) (isD (.int ((u.length : Nat) : Int))) := fun {x6} => sv_lenQ (b := false) (w := u) (sv_pD (sv_var rfl)) y1
  have lv : ∀ {x6 : Sl}, Sv (tCB (fun xs H Q => ∃ x n, xs = [x] ∧ LenV K x H n ∧ Q (.int n) H) (tCons (tVar 5) tNil)) (Gc u v x6) (isD (.int ((v.length : Nat) : Int))) := fun {x6} => sv_lenQ (b := false) (w := v) (sv_pD (sv_var rfl)) y2
  refine ss_seq (G1 := Gc u v (.im (isD (.int ((min u.length v.length : Nat) : Int))))) (ss_set (sv_is (sv_min2 lu lv) (by congr 1; exact len_min _ _))) ?_
  have t : St' (tTest (tOp (rNeD K) (tSl (uSlS K) (tVar 4) tNoPart (tPart (tVar 6))) (tSl (uSlS K) (tVar 5) tNoPart (tPart (tVar 6))))) (Gc u v (.im (isD (.int ((min u.length v.length : Nat) : Int))))) (!decide (u.take (min u.length v.length) = v.take (min u.length v.length))) :=
    st_test (sv_neQ (b := false) (sv_takeQ (sv_var rfl) (sv_var rfl) y1) (sv_takeQ (sv_var rfl) (sv_var rfl) y2) fun h => by cases h)
  by_cases c : u.take (min u.length v.length) = v.take (min u.length v.length)
  · rw [if_pos c]
    refine ss_seq (ss_if0 (st_is t (by rw [decide_eq_true c]; rfl)) ss_next) ?_
    have te : St' (tTest (tOp (rEqD K) (tCB (fun xs H Q => ∃ x n, xs = [x] ∧ LenV K x H n ∧ Q (.int n) H) (tCons (tVar 4) tNil)) (tCB (fun xs H Q => ∃ x n, xs = [x] ∧ LenV K x H n ∧ Q (.int n) H) (tCons (tVar 5) tNil)))) (Gc u v (.im (isD (.int ((min u.length v.length : Nat) : Int))))) (decide ((u.length : Int) = (v.length : Int))) := st_test (sv_eqI lu lv)
    by_cases ce : u.length = v.length
    · refine ss_seqRt (ss_if1 (st_is te (decide_eq_true (by rw [ce]))) (ss_ret (sv_is (sv_tt (e := .tuple []) sv_str (sv_tup (ds := []) sa_nil (Nat.zero_le _))) ?_)))
      have e1 : u.drop (min u.length v.length) = [] := List.drop_eq_nil_of_le (by omega)
      have e2 : v.drop (min u.length v.length) = [] := List.drop_eq_nil_of_le (by omega)
      show _ = restQ (u.drop _, v.drop _)
      rw [e1, e2]; rfl
    · refine ss_seq (ss_if0 (st_is te (decide_eq_false (by omega))) ss_next) (ss_ret (sv_ite (b := decide ((v.length : Int) < (u.length : Int))) (st_is (st_test (sv_cmp (g := fun i j => decide (j < i)) lu (sv_var rfl))) ?_) (fun z => ?_) fun z => ?_))
      · exact decide_eq_decide.mpr ⟨fun z => by omega, fun z => by omega⟩
      · have z := of_decide_eq_true z
        refine sv_is (sv_tt sv_str (sv_dropQ (b := false) (sv_var rfl) (sv_var rfl) y1)) ?_
        have e2 : v.drop (min u.length v.length) = [] := List.drop_eq_nil_of_le (by omega)
        have e1 : u.drop (min u.length v.length) ≠ [] := fun q => by
          have := congrArg List.length q
          rw [List.length_drop] at this
          simp at this
          omega
        show _ = restQ (u.drop _, v.drop _)
        rw [e2]
        unfold restQ sdS
        rw [if_pos e1, List.append_nil]
      · have z := of_decide_eq_false z
        refine sv_is (sv_tt sv_str (sv_dropQ (b := false) (sv_var rfl) (sv_var rfl) y2)) ?_
        have e1 : u.drop (min u.length v.length) = [] := List.drop_eq_nil_of_le (by omega)
        have e2 : v.drop (min u.length v.length) ≠ [] := fun q => by
          have := congrArg List.length q
          rw [List.length_drop] at this
          simp at this
          omega
        show _ = restQ (u.drop _, v.drop _)
        rw [e1]
        unfold restQ sdS
        rw [if_neg (fun q => q rfl), if_pos e2, List.nil_append]
  · rw [if_neg c]
    exact ss_seqRt (ss_if1 (st_is t (by rw [decide_eq_false c]; rfl)) (ss_ret sv_non))
end
end K58

namespace K58
open PySem L2 Evl Mini PyProof.Rows
theorem sg_forR' {K : PySem.W.Frag} {E : XK} {X : Gx} {G : Gm} {tu : TS} {te : TE} {o : Og} {j : Nat} {n : Int} (h : Sv te G (isD (.int n))) (hn : n ≤ 2 ^ 60) (Gi : Nat → Gm) (Xi : Nat → Gx) (oi : Nat → Og) (N : Nat) (hN : N ≤ n.toNat) (h0 : G = Gi 0) (x0 : X = Xi 0) (hj : ∀ i, i ≤ N → j < (Gi i).length)
    (hs : ∀ i : Nat, i < n.toNat → i ≤ N → Sg E tu ((Gi i).set j (.im (isD (.int (i : Int))))) (Xi i) (oi i)) (hx : ∀ i, i < N → oi i = .nx (Gi (i + 1)) (Xi (i + 1))) (hd : (N = n.toNat ∧ o = .nx (Gi N) (Xi N)) ∨ (N < n.toNat ∧ o.leaves ∧ oi N = o))
    (hlo : -(2 ^ 60) ≤ n := by first | omega | decide) : Sg E (tFor (iRng1 (tCons te tNil)) (gName j) tu) G X o :=
  sg_forR h hn Gi Xi N hN h0 x0 hj (fun i hi => hx i hi ▸ hs i (by omega) (by omega)) (hd.imp id fun ⟨a, b, c⟩ => ⟨a, b, c ▸ hs N a (Nat.le_refl _)⟩) hlo
def lvD (r : It) : PyData := .tuple [.tuple (r.1.map .int), restQ r.2.1]
def extK (A B : List (List Int)) (r : It) (k : Nat) : List It := (stepsQ A B r.2.1 k).map fun q => (r.1 ++ [(q.1 : Int)], q.2, stayB r)
theorem extK_len (A B : List (List Int)) (r : It) (k : Nat) : (extK A B r k).length ≤ k := by
  unfold extK; rw [List.length_map]; exact stepsQ_len ..
def evnD : PyData := .tuple [.str "even", .tuple []]
def evD (d : PyData) : Bool := match d with
  | .tuple [_, s] => PyData.eqv s evnD
  | _ => false
theorem sd_even (s : St2) : (sdS s == "even") = isBg s := by
  obtain ⟨x, y⟩ := s
  unfold sdS isBg
  by_cases c : x = []
  · rw [if_neg (fun q => q c)]
    by_cases d : y = []
    · rw [if_neg (fun q => q d), c, d]; decide +kernel
    · rw [if_pos d, decide_eq_false (fun q => d (congrArg Prod.snd q))]; decide +kernel
  · rw [if_pos c, decide_eq_false (fun q => c (congrArg Prod.fst q))]; decide +kernel
theorem eqv_rest (s : St2) : PyData.eqv (restQ s) evnD = isBg s := by
  show PyData.eqv (.tuple [.str (sdS s), .tuple ((s.1 ++ s.2).map .int)]) (.tuple [.str "even", .tuple []]) = _
  simp only [PyData.eqv, PyData.eqvAll]
  rw [sd_even]
  cases z : isBg s with
  | false => rfl
  | true =>
    have : s = ([], []) := of_decide_eq_true z
    rw [this]; rfl
theorem shaped_rest (s : St2) : SeqAt.shaped (restQ s) = true := by
  have h1 := SeqAt.canLay_of_shaped (shaped_tints (s.1 ++ s.2))
  have h0 := shaped_tints (s.1 ++ s.2)
  unfold SeqAt.shaped at h0 ⊢
  rw [Bool.and_eq_true] at h0 ⊢
  have h2 := sd_ok s
  refine ⟨?_, decide_eq_true ?_⟩
  · show PyData.canLay0 (.tuple [.str (sdS s), .tuple ((s.1 ++ s.2).map .int)]) = true
    have h3 := h0.1
    rw [PyData.canLay0] at h3
    simp only [PyData.canLay0, PyData.canLayAll0, h2, h3, Bool.and_true, Bool.true_and]
  · have h4 := of_decide_eq_true h0.2
    have e : ∀ ns : List Int, PyData.depthAll (ns.map .int) = 0 := fun ns => by
      induction ns with
      | nil => rfl
      | cons n ns ih => simp [PyData.depthAll, PyData.depth, ih]
    have e2 : PyData.depth (.tuple ((s.1 ++ s.2).map .int)) = 1 := by rw [PyData.depth, e]
    show PyData.depth (.tuple [.str (sdS s), .tuple ((s.1 ++ s.2).map .int)]) ≤ _
    rw [PyData.depth, PyData.depthAll, PyData.depthAll, PyData.depthAll, e2, PyData.depth]
    decide
theorem shaped_evn : SeqAt.shaped evnD = true := shaped_rest ([], [])
theorem filt_lv (R : List It) : ((R.map lvD).filter evD).map fst2 = wD ((R.filter fun r => isBg r.2.1).map (·.1)) := by
  induction R with
  | nil => rfl
  | cons r R ih =>
    have e : evD (lvD r) = isBg r.2.1 := eqv_rest r.2.1
    rw [List.map_cons]
    cases z : isBg r.2.1 with
    | true => rw [List.filter_cons_of_pos (by rw [e]; exact z), List.filter_cons_of_pos (p := fun r : It => isBg r.2.1) z, List.map_cons, ih]; rfl
    | false => rw [List.filter_cons_of_neg (by rw [e, z]; exact Bool.false_ne_true), List.filter_cons_of_neg (p := fun r : It => isBg r.2.1) (by show ¬ isBg r.2.1 = true; rw [z]; exact Bool.false_ne_true), ih]
theorem rowsI_succ (A B : List (List Int)) (n : Nat) : rowsI A B (n + 1) = rowsI A B n ++ ((lvlI A B (n + 1)).filter fun r => isBg r.2.1).map (·.1) := by
  unfold rowsI
  rw [fndI_succ, List.map_append]
theorem lvl_one {A B : List (List Int)} : ∀ i, ∀ r ∈ lvlI A B i, r.2.1.1 = [] ∨ r.2.1.2 = []
  | 0, r, hr => by obtain rfl := List.mem_singleton.mp hr; exact .inl rfl
  | i + 1, r, hr => by
    obtain ⟨r0, h0, hr⟩ := List.mem_flatMap.mp hr
    obtain ⟨q, hq, rfl⟩ := List.mem_map.mp hr
    exact behF_one (stepsQ_mem hq).2
def dueD (A B : List (List Int)) (n : Nat) : PyData := if fitI A B n = true then .list (wD (rowsI A B n)) else .none
theorem longI_len {A B : List (List Int)} {R : List It} (hA : A.length ≤ 60) (j : Nat) : (longI A B (R.take j)).length ≤ R.length * 60 := by
  have h : ∀ R : List It, (longI A B R).length ≤ R.length * 60 := fun R => by
    induction R with
    | nil => exact Nat.le_refl _
    | cons r R ih =>
      have e : longI A B (r :: R) = extI A B r ++ longI A B R := rfl
      have := extK_len A B r A.length
      have e2 : extI A B r = extK A B r A.length := rfl
      rw [e, List.length_append, e2, List.length_cons]
      omega
  have h1 := h (R.take j)
  have h2 : (R.take j).length ≤ R.length := by rw [List.length_take]; omega
  omega
section
variable {P : Program} {w : World} {K : PySem.W.Frag} {mg : Str → Option Value} {base : Heap} {cAE cBB cBN cBR cTL cBk cPr aBG : Addr}
/-! ### _law_rows -/
def S_lrows : Fs := ⟨{x : (Int × List (List Int) × List (List Int)) × Nat // Small x.1.2.1 x.1.2.2 x.1.1 ∧ x.2 ≤ 60}, 3, fun x => [.im (isD (.list (wD x.1.1.2.1))), .im (isD (.list (wD x.1.1.2.2))), .im (isD (.int (x.1.2 : Int)))], fun _ => rfl, fun x => .ok (isD (dueD x.1.1.2.1 x.1.1.2.2 x.1.2))⟩
abbrev st__law_rows : Stmt := top 41
theorem sc__law_rows : FnScope ["first", "second", "length", "found", "level", "turn", "longer", "row", "rest", "number", "after"] ["first", "second", "length"] (defScope st__law_rows) := ⟨rfl, rfl, rfl, by decide +kernel, rfl, by decide +kernel, by decide +kernel⟩
theorem ok__law_rows {f : Addr} {fd : FuncData} (T : Txt K mg cAE cBB cBN cBR cTL cBk cPr aBG) (F__law_step : FnC P w K mg base 1 "_law_step" (spF (S_lstep))) (F : Fun K "_law_rows" "_law_rows" st__law_rows f fd) : FnOk P w K mg base (L2.CX P w) 2 f fd ["first", "second", "length"] (spF (S_lrows)) := by
  refine fn_ok F sc__law_rows rfl fun cdv A outer s H E hr => ?_
  have tk : Takes (cxD P w K mg base ["first", "second", "length", "found", "level", "turn", "longer", "row", "rest", "number", "after"] "_law_rows" st__law_rows f cdv A outer s H E) (fun cls d _ H => E cls d H) := takes_of rfl rfl rfl rfl
  have hx := pxM tk
  have nd := sc__law_rows.nd
  refine ⟨_, (pss_cons (ps_par (i := 3) (j := 4) rfl nd rfl rfl (by decide) rfl rfl (pa_cons (pe_lst pa_nil) (pa_cons (pe_lst (pa_cons (pe_tup (pa_cons (pe_tup pa_nil) (pa_cons (pe_tup (pa_cons pe_str (pa_cons (pe_tup pa_nil) pa_nil))) pa_nil))) pa_nil)) pa_nil)) (by rfl))
 (pss_cons (ps_for (passes_of rfl) rfl (pi_range1 (by rfl) T.no_range (pa_cons (pv 2) pa_nil)) (pg_name (i := 5) nd rfl (Or.inl rfl)) (pss_cons (ps_set (i := 6) nd rfl (Or.inl rfl) (pe_lst pa_nil))
 (pss_cons (ps_for (passes_of rfl) rfl (pi_list (pv 4)) (pg_tup rfl (pgs_cons (pg_name (i := 7) nd rfl (Or.inl rfl)) (pgs_cons (pg_name (i := 8) nd rfl (Or.inl rfl)) pgs_nil))) (pss_one (ps_for (passes_of rfl) rfl (pi_range1 (by rfl) T.no_range (pa_cons (pe_callB call_len (by rfl) T.no_len (by decide +kernel) (pa_cons (pv 0) pa_nil)) pa_nil)) (pg_name (i := 9) nd rfl (Or.inl rfl)) (pss_cons (ps_set (i := 10) nd rfl (Or.inl rfl) (pe_fn F__law_step hr hx (pa_cons (pv 0) (pa_cons (pv 1) (pa_cons (pv 8) (pa_cons (pv 9) pa_nil))))))
 (pss_one (ps_if (pt_cmpR op_notN (pv 10) pe_non (nomark _)) (pss_one (ps_expr (pe_bm PySem.F.plainAttrs_list PySem.F.slot_list_append PySem.F.type_list_append mt_append (pv 6) (pa_cons (pe_tup (pa_cons (pe_op op_uAdd (pv 7) (pe_tup (pa_cons (pv 9) pa_nil))) (pa_cons (pv 10) pa_nil))) pa_nil)))) pss_nil))))))
 (pss_cons (ps_if (pt_cmpR op_gt (pe_callB call_len (by rfl) T.no_len (by decide +kernel) (pa_cons (pv 6) pa_nil)) pe_int (nomark _)) (pss_one (ps_ret pe_non)) pss_nil)
 (pss_cons (ps_set (i := 4) nd rfl (Or.inl rfl) (pv 6))
 (pss_one (ps_set (i := 3) nd rfl (Or.inl rfl) (pe_op op_uAdd (pv 3) (pe_lc (own := [("row", 7), ("rest", 8)]) (g := (gTup K 2 (gCons (gName 7) (gCons (gName 8) gNil)))) rfl nd (pi_list (pv 4)) (blkOk_by (N := ["first", "second", "length", "found", "level", "turn", "longer", "row", "rest", "number", "after"]) (sc := defScope st__law_rows) (by decide +kernel)) (fun _ _ _ _ _ => (pg_tupK (K := K) rfl (pgs_cons (pg_name (i := 7) nd rfl (Or.inl rfl)) (pgs_cons (pg_name (i := 8) nd rfl (Or.inl rfl)) pgs_nil)))) (fun _ _ _ _ _ => (pts_one (pt_cmpR (r := rEqD K) (op_eqD hr.units) (pv 8) (pe_tup (pa_cons pe_str (pa_cons (pe_tup pa_nil) pa_nil))) (nomark _)))) (fun _ _ _ _ _ => (pv 7)))))))))))
 (pss_one (ps_ret (pv 3))))), ?_⟩
  intro x
  obtain ⟨⟨⟨m, A, B⟩, n⟩, h, hn⟩ := x
  have h : Small A B m := h
  have hn : n ≤ 60 := hn
  have hz : (sizeLine : Nat) = 16777216 := sizeLine_eq
  have hl := h.two.len
  have hA : A.length ≤ 60 := h.two.a.1
  have lA : (wD A).length = A.length := by unfold wD; rw [List.length_map]
  show Mini.Ans _ _ [.im (isD (.list (wD A))), .im (isD (.list (wD B))), .im (isD (.int (n : Int))), .no, .no, .no, .no, .no, .no, .no, .no] (.ok (isD (dueD A B n)))
  let Gc : List (List Int) → Sl → Sl → Sl → Sl → Sl → Sl → Sl → Gm := fun Fd x4 x5 x6 x7 x8 x9 x10 => [.im (isD (.list (wD A))), .im (isD (.list (wD B))), .im (isD (.int (n : Int))), .ow (isL (wD Fd)), x4, x5, x6, x7, x8, x9, x10]
  let Gi : Nat → Gm := fun i => Gc (rowsI A B i) (.im (isD (.list ((lvlI A B i).map lvD)))) .no .no .no .no .no .no
  let oi : Nat → Og := fun i => if (lvlI A B (i + 1)).length ≤ 2000 then .nx (Gi (i + 1)) [] else .rt (isD .none) []
  obtain ⟨N, hN, hpre, hc⟩ : ∃ N, N ≤ n ∧ (∀ i, i ≤ N → (lvlI A B i).length ≤ 2000) ∧ ((fitI A B n = true ∧ N = n) ∨ (¬ fitI A B n = true ∧ N < n ∧ 2000 < (lvlI A B (N + 1)).length)) := by
    by_cases z : fitI A B n = true
    · refine ⟨n, Nat.le_refl _, fun i hi => ?_, .inl ⟨z, rfl⟩⟩
      cases i with
      | zero => exact Nat.le_of_ble_eq_true rfl
      | succ i => exact fitI_iff.mp z i (by omega)
    · have z' : ∃ i, i < n ∧ 2000 < (lvlI A B (i + 1)).length := by
        apply Classical.byContradiction
        intro w
        exact z (fitI_iff.mpr fun i hi => Nat.le_of_not_lt fun q => w ⟨i, hi, q⟩)
      obtain ⟨i, hi, hi2⟩ := z'
      obtain ⟨N, h1, h2, h3⟩ := first_over (fun i => (lvlI A B i).length) 2000 (Nat.le_of_ble_eq_true rfl) (i + 1) hi2
      exact ⟨N, by omega, h2, .inr ⟨z, by omega, h3⟩⟩
  let o : Og := if fitI A B n = true then .nx (Gi N) [] else .rt (isD .none) []
  have evn : ∀ {G : Gm}, Sv (tTup (tCons (tC (.str "even")) (tCons (tTup tNil) tNil))) G (isD evnD) := fun {G} => sv_tt sv_str (sv_tup (ds := []) sa_nil (Nat.zero_le _))
  refine .ok (ss_seq (ss_parLL (ds := []) (es := [lvD ([], ([], []), true)]) (svl_lst (ds := []) sa_nil (Nat.zero_le _)) (svl_lst (ds := [lvD ([], ([], []), true)]) (sa_ims (sv_tt (e := evnD) (sv_tup (ds := []) sa_nil (Nat.zero_le _)) evn) sa_nil) (by show 1 ≤ sizeLine; omega))) (ss_freeze (n := 4) rfl (ss_sgRt (X := []) (sg_seqO (o := o) (sg_forR' (K := K) (n := (n : Int)) (j := 5) (sv_var rfl) (by omega) Gi (fun _ => []) oi N (by omega) rfl rfl (fun _ _ => Nat.le_of_ble_eq_true rfl) (fun i hi hiN => ?_) (fun i hi => if_pos (hpre (i + 1) (by omega))) ?_) (fun G1 X1 e => ?_) (fun hlv => ?_)))))
  · have hlen := hpre i hiN
    have hok := lvl_ok h i
    have hone := lvl_one (A := A) (B := B) i
    show Sg E _ (Gc (rowsI A B i) (.im (isD (.list ((lvlI A B i).map lvD)))) (.im (isD (.int (i : Int)))) .no .no .no .no .no) [] (if (lvlI A B (i + 1)).length ≤ 2000 then .nx (Gi (i + 1)) [] else .rt (isD .none) [])
    have hfl : (rowsI A B i).length ≤ 2000 * i := by
      have : ∀ j, j ≤ i → (rowsI A B j).length ≤ 2000 * j := fun j => by
        induction j with
        | zero => intro _; exact Nat.le_refl _
        | succ j ih =>
          intro hj
          have h1 := ih (by omega)
          have h2 := hpre (j + 1) (by omega)
          rw [rowsI_succ, List.length_append, List.length_map]
          have := List.length_filter_le (fun r : It => isBg r.2.1) (lvlI A B (j + 1))
          omega
      exact this i (Nat.le_refl _)
    have eN : lvlI A B (i + 1) = longI A B (lvlI A B i) := rfl
    have eR := rowsI_succ A B i
    rw [eN]
    have eG : Gi (i + 1) = Gc (rowsI A B i ++ ((longI A B (lvlI A B i)).filter fun r => isBg r.2.1).map (·.1)) (.im (isD (.list ((longI A B (lvlI A B i)).map lvD)))) .no .no .no .no .no .no := by
      show Gc (rowsI A B (i + 1)) _ _ _ _ _ _ _ = _
      rw [eR]; rfl
    rw [eG]
    have hi60 : i < 60 := by omega
    generalize rowsI A B i = Fd at hfl ⊢
    generalize lvlI A B i = R at hlen hok hone ⊢
    let Gj : Nat → Gm := fun j => Gc Fd (.im (isD (.list (R.map lvD)))) (.im (isD (.int (i : Int)))) (.ow (isL ((longI A B (R.take j)).map lvD))) .no .no .no .no
    refine sg_seq (sg_nx (ss_setL (svl_lst (ds := []) sa_nil (Nat.zero_le _))) rfl) (sg_seq (G1 := Gj (R.map lvD).length) (X1 := []) (sg_nx (ss_forLg (n := 11) (js := [7] ++ [8]) (sv_var rfl) (set2 7 8) Gj (R.map lvD).length (Nat.le_refl _) (Le.refl _) (fun _ _ => rfl) (fun d hd => ?_) (fun j d hd hj => ?_) (.inl ⟨rfl, rfl⟩)) rfl) ?_)
    · obtain ⟨r, _, rfl⟩ := List.mem_map.mp hd
      exact tg_set2 (by decide) (by decide)
    · have hj : j < R.length := by rw [List.length_map] at hj; exact hj
      rw [List.getElem?_map, List.getElem?_eq_getElem hj] at hd
      have hr : R[j]? = some R[j] := List.getElem?_eq_getElem hj
      generalize R[j] = r at hd hr
      cases hd
      have hm := List.mem_of_getElem? hr
      obtain ⟨_, _, hs, hrl⟩ := hok r hm
      have ho1 := hone r hm
      have hlj := longI_len (A := A) (B := B) (R := R) hA j
      refine .inl ?_
      show Ss _ _ (Gc Fd (.im (isD (.list (R.map lvD)))) (.im (isD (.int (i : Int)))) (.ow (isL ((longI A B (R.take j)).map lvD))) (.im (isD (.tuple (r.1.map .int)))) (.im (isD (restQ r.2.1))) .no .no) (.nx (Gc Fd (.im (isD (.list (R.map lvD)))) (.im (isD (.int (i : Int)))) (.ow (isL ((longI A B (R.take (j + 1))).map lvD))) .no .no .no .no))
      rw [longI_take hr]
      generalize longI A B (R.take j) = F0 at hlj ⊢
      let Gk : Nat → Gm := fun k => Gc Fd (.im (isD (.list (R.map lvD)))) (.im (isD (.int (i : Int)))) (.ow (isL ((F0 ++ extK A B r k).map lvD))) (.im (isD (.tuple (r.1.map .int)))) (.im (isD (restQ r.2.1))) .no .no
      have g0 : Le (Gc Fd (.im (isD (.list (R.map lvD)))) (.im (isD (.int (i : Int)))) (.ow (isL (F0.map lvD))) (.im (isD (.tuple (r.1.map .int)))) (.im (isD (restQ r.2.1))) .no .no) (Gk 0) := by
        show Le _ (Gc Fd (.im (isD (.list (R.map lvD)))) (.im (isD (.int (i : Int)))) (.ow (isL ((F0 ++ []).map lvD))) (.im (isD (.tuple (r.1.map .int)))) (.im (isD (restQ r.2.1))) .no .no)
        rw [List.append_nil]; exact Le.refl _
      refine ss_nxLe (G1 := Gk A.length) (ss_forR (n := (A.length : Int)) (j := 9) (sv_is (sv_lenL (ds := wD A) (rl_sv (sv_var rfl))) (by rw [lA])) (by omega) Gk A.length (by omega) g0 (fun _ _ => Nat.le_of_ble_eq_true rfl) (fun k hk => ?_) (.inl ⟨by omega, rfl⟩)) ?_
      · obtain ⟨s1, s2⟩ := h.sm k hk
        refine .inl ?_
        show Ss _ _ (Gc Fd (.im (isD (.list (R.map lvD)))) (.im (isD (.int (i : Int)))) (.ow (isL ((F0 ++ extK A B r k).map lvD))) (.im (isD (.tuple (r.1.map .int)))) (.im (isD (restQ r.2.1))) (.im (isD (.int (k : Int)))) .no) (.nx (Gc Fd (.im (isD (.list (R.map lvD)))) (.im (isD (.int (i : Int)))) (.ow (isL ((F0 ++ extK A B r (k + 1)).map lvD))) (.im (isD (.tuple (r.1.map .int)))) (.im (isD (restQ r.2.1))) .no .no))
        refine ss_seq (ss_set (P := isD (restO (behF r.2.1.1 r.2.1.2 (wAt A k) (wAt B k)))) (sv_call (S := S_lstep) (sa_im (sv_var rfl) (sa_im (sv_var rfl) (sa_im (sv_var rfl) (sa_im (sv_var rfl) sa_nil)))) ⟨((A, B), r.2.1, k), ho1, hk, by show k < B.length; omega, ⟨by show r.2.1.1.length ≤ 100000; omega, by show r.2.1.2.length ≤ 100000; omega⟩, by show (wAt A k).length ≤ 100000; omega, by show (wAt B k).length ≤ 100000; omega⟩ rfl rfl)) ?_
        cases hb : behF r.2.1.1 r.2.1.2 (wAt A k) (wAt B k) with
        | none =>
          have e : extK A B r (k + 1) = extK A B r k := by unfold extK; rw [stepsQ_none hb]
          rw [e]
          exact ss_if0 (st_is (st_B (sv_notNb (d := .none) (sv_var rfl))) rfl) (ss_nxLe ss_next (by repeat first | exact Le.nil | refine Le.eq ?_ | refine Le.no ?_))
        | some p =>
          have e : extK A B r (k + 1) = extK A B r k ++ [(r.1 ++ [(k : Int)], p, stayB r)] := by unfold extK; rw [stepsQ_some hb, List.map_append]; rfl
          rw [e, ← List.append_assoc]
          have hek := extK_len A B r k
          have hR60 : R.length * 60 ≤ 120000 := by omega
          refine ss_if1 (st_is (st_B (sv_notNb (d := restQ p) (sv_var rfl))) rfl) (ss_nxLe (G1 := Gc Fd (.im (isD (.list (R.map lvD)))) (.im (isD (.int (i : Int)))) (.ow (isL (((F0 ++ extK A B r k) ++ [(r.1 ++ [(k : Int)], p, stayB r)]).map lvD))) (.im (isD (.tuple (r.1.map .int)))) (.im (isD (restQ r.2.1))) (.im (isD (.int (k : Int)))) (.im (isD (restQ p)))) ?_ (by repeat first | exact Le.nil | refine Le.eq ?_ | refine Le.no ?_))
          show Ss _ _ _ (.nx [.im (isD (.list (wD A))), .im (isD (.list (wD B))), .im (isD (.int (n : Int))), .ow (isL (wD Fd)), .im (isD (.list (R.map lvD))), .im (isD (.int (i : Int))), .ow (isL (((F0 ++ extK A B r k) ++ [(r.1 ++ [(k : Int)], p, stayB r)]).map lvD)), .im (isD (.tuple (r.1.map .int))), .im (isD (restQ r.2.1)), .im (isD (.int (k : Int))), .im (isD (restQ p))])
          have em : ((F0 ++ extK A B r k) ++ [(r.1 ++ [(k : Int)], p, stayB r)]).map lvD = (F0 ++ extK A B r k).map lvD ++ [lvD (r.1 ++ [(k : Int)], p, stayB r)] := by rw [List.map_append]; rfl
          rw [em]
          refine ss_append (n := 6) (ds := (F0 ++ extK A B r k).map lvD) (d := lvD (r.1 ++ [(k : Int)], p, stayB r)) rfl (sv_tt (d := .tuple ((r.1 ++ [(k : Int)]).map .int)) (e := restQ p) (sv_is (sv_catT (ds := r.1.map .int) (es := [.int (k : Int)]) (sv_var rfl) (sv_tup (ds := [.int (k : Int)]) (sa_ims (sv_var rfl) sa_nil) (by show 1 ≤ sizeLine; omega)) (by rw [List.length_map]; show r.1.length + 1 ≤ sizeLine; omega)) (by rw [List.map_append]; rfl)) ?_) (by rw [List.length_map, List.length_append]; omega)
          exact sv_var rfl
      · show Le (Gc Fd (.im (isD (.list (R.map lvD)))) (.im (isD (.int (i : Int)))) (.ow (isL ((F0 ++ extK A B r A.length).map lvD))) (.im (isD (.tuple (r.1.map .int)))) (.im (isD (restQ r.2.1))) .no .no) (Gc Fd (.im (isD (.list (R.map lvD)))) (.im (isD (.int (i : Int)))) (.ow (isL ((F0 ++ extI A B r).map lvD))) .no .no .no .no)
        exact (by repeat first | exact Le.nil | refine Le.eq ?_ | refine Le.no ?_)
    · have ej : Gj (R.map lvD).length = Gc Fd (.im (isD (.list (R.map lvD)))) (.im (isD (.int (i : Int)))) (.ow (isL ((longI A B R).map lvD))) .no .no .no .no := by
        show Gc Fd _ _ (.ow (isL ((longI A B (R.take (R.map lvD).length)).map lvD))) _ _ _ _ = _
        rw [List.length_map, List.take_length]
      rw [ej]
      have tL : St' (tB (tOp (rI0 fun i j => .bl (decide (j < i))) (tCB (fun xs H Q => ∃ x n, xs = [x] ∧ LenV K x H n ∧ Q (.int n) H) (tCons (tVar 6) tNil)) (tC (.int 2000)))) (Gc Fd (.im (isD (.list (R.map lvD)))) (.im (isD (.int (i : Int)))) (.ow (isL ((longI A B R).map lvD))) .no .no .no .no) (decide (2000 < (((longI A B R).length : Nat) : Int))) :=
        st_B (sv_is (sv_cmp (g := fun i j => decide (j < i)) (sv_lenL (ds := (longI A B R).map lvD) (rl_ow rfl)) sv_int) (by rw [List.length_map]))
      by_cases c2 : (longI A B R).length ≤ 2000
      · rw [if_pos c2]
        generalize longI A B R = L at c2 tL ⊢
        refine sg_nx (ss_seq (ss_if0 (st_is tL (decide_eq_false (by omega))) ss_next) (ss_freeze (n := 6) rfl (ss_seq (ss_set (P := isD (.list (L.map lvD))) (sv_var rfl)) ?_))) rfl
        refine ss_nxLe (ss_setL (n := 3) (svl_cat (ds := wD Fd) (rl_ow rfl) (rl_svl (svl_is (svl_lcG (vs := [7, 8]) (js := [7] ++ [8]) (ds := L.map lvD) (rl_sv (sv_var rfl)) (set2 7 8) evD fst2 (by rw [List.length_map]; omega) (fun d hd => ?_) (by decide) (fun d hd => ?_) fun d hd _ => ?_) (filt_lv L))) ?_)) ?_
        · obtain ⟨r, _, rfl⟩ := List.mem_map.mp hd
          exact tg_set2 (Nat.le_of_ble_eq_true rfl) (Nat.le_of_ble_eq_true rfl)
        · obtain ⟨r, _, rfl⟩ := List.mem_map.mp hd
          exact st_test (sv_eq (sv_var rfl) evn (shaped_rest _) shaped_evn)
        · obtain ⟨r, _, rfl⟩ := List.mem_map.mp hd
          exact sv_var rfl
        · unfold wD
          rw [List.length_map, List.length_map, List.length_map]
          have := List.length_filter_le (fun r : It => isBg r.2.1) L
          omega
        · show Le [.im (isD (.list (wD A))), .im (isD (.list (wD B))), .im (isD (.int (n : Int))), .ow (isL (wD Fd ++ wD ((L.filter fun r => isBg r.2.1).map (·.1)))), .im (isD (.list (L.map lvD))), .im (isD (.int (i : Int))), .im (isD (.list (L.map lvD))), .no, .no, .no, .no] [.im (isD (.list (wD A))), .im (isD (.list (wD B))), .im (isD (.int (n : Int))), .ow (isL (wD (Fd ++ (L.filter fun r => isBg r.2.1).map (·.1)))), .im (isD (.list (L.map lvD))), .no, .no, .no, .no, .no, .no]
          have e : wD (Fd ++ (L.filter fun r => isBg r.2.1).map (·.1)) = wD Fd ++ wD ((L.filter fun r => isBg r.2.1).map (·.1)) := by unfold wD; rw [List.map_append]
          rw [e]
          exact (by repeat first | exact Le.nil | refine Le.eq ?_ | refine Le.no ?_)
      · rw [if_neg c2]
        exact sg_seqRt (sg_rt (ss_if1 (st_is tL (decide_eq_true (by omega))) (ss_ret sv_non)))
  · rcases hc with ⟨z, e⟩ | ⟨z, e, e2⟩
    · exact .inl ⟨by omega, if_pos z⟩
    · have e3 : o = .rt (isD .none) [] := if_neg z
      refine .inr ⟨by omega, by rw [e3]; trivial, ?_⟩
      rw [e3]
      exact if_neg (by omega)
  · rcases hc with ⟨z, e1⟩ | ⟨z, _⟩
    · have eo : o = .nx (Gi N) [] := if_pos z
      rw [eo] at e
      cases e
      subst e1
      have ed : dueD A B N = .list (wD (rowsI A B N)) := if_pos z
      rw [ed]
      exact sg_rt (ss_freeze (n := 3) rfl (ss_ret (sv_var rfl)))
    · have eo : o = .rt (isD .none) [] := if_neg z
      rw [eo] at e; cases e
  · rcases hc with ⟨z, e1⟩ | ⟨z, _⟩
    · have eo : o = .nx (Gi N) [] := if_pos z
      rw [eo] at hlv; cases hlv
    · have ed : dueD A B n = .none := if_neg z
      rw [ed]
      exact (if_neg z).symm
end
end K58

namespace K58
open PySem L2 Evl Mini PyProof.Rows
theorem map_erase {α β : Type} (f : α → β) : ∀ (l : List α) (i : Nat), (l.map f).eraseIdx i = (l.eraseIdx i).map f
  | [], i => rfl
  | a :: l, 0 => rfl
  | a :: l, i + 1 => by
    show f a :: (l.map f).eraseIdx i = f a :: (l.eraseIdx i).map f
    rw [map_erase f l i]
/-! ### a text cut into words -/
def cix (D : List Int) (l : Nat) : Int := atD D (l % D.length) % (l : Int)
def plc (L : Nat) (D : List Int) : Nat → List Int
  | 0 => (List.range (L - 1)).map fun i : Nat => 1 + (i : Int)
  | i + 1 => (plc L D i).eraseIdx (cix D (plc L D i).length).toNat
theorem cix_ok {D : List Int} {l : Nat} (h : 0 < l) : 0 ≤ cix D l ∧ cix D l < l := ⟨Int.emod_nonneg _ (by omega), Int.emod_lt_of_pos _ (by omega)⟩
theorem plc_len (L : Nat) (D : List Int) : ∀ i, i ≤ L - 1 → (plc L D i).length = L - 1 - i
  | 0, _ => by show (List.map _ (List.range (L - 1))).length = _; rw [List.length_map, List.length_range]; rfl
  | i + 1, h => by
    have ih := plc_len L D i (by omega)
    obtain ⟨h1, h2⟩ := cix_ok (D := D) (l := (plc L D i).length) (by omega)
    show ((plc L D i).eraseIdx _).length = _
    rw [List.length_eraseIdx_of_lt (by omega), ih]
    omega
theorem plc_up (L : Nat) (D : List Int) : ∀ i, (plc L D i).Pairwise (· < ·) ∧ ∀ v ∈ plc L D i, 1 ≤ v ∧ v < L
  | 0 => by
    refine ⟨?_, fun v hv => ?_⟩
    · show (List.map _ (List.range (L - 1))).Pairwise _
      rw [List.pairwise_map]
      exact List.pairwise_lt_range.imp fun h => by omega
    · obtain ⟨k, hk, rfl⟩ := List.mem_map.mp hv
      have := List.mem_range.mp hk
      omega
  | i + 1 => by
    obtain ⟨h1, h2⟩ := plc_up L D i
    exact ⟨h1.sublist (List.eraseIdx_sublist ..), fun v hv => h2 v ((List.eraseIdx_sublist ..).subset hv)⟩
def endL (L : Nat) (D : List Int) (c : Nat) : List Int := (0 :: plc L D (L - c)) ++ [(L : Int)]
def eA (L : Nat) (D : List Int) (c k : Nat) : Int := (endL L D c).getD k 0
theorem endL_len {L : Nat} {D : List Int} {c : Nat} (h1 : 1 ≤ c) (h2 : c ≤ L) : (endL L D c).length = c + 1 := by
  unfold endL
  rw [List.length_append, List.length_cons, plc_len L D (L - c) (by omega)]
  show L - 1 - (L - c) + 1 + 1 = c + 1
  omega
theorem endL_up {L : Nat} {D : List Int} {c : Nat} (h1 : 1 ≤ c) (h2 : c ≤ L) : (endL L D c).Pairwise (· < ·) := by
  obtain ⟨p1, p2⟩ := plc_up L D (L - c)
  unfold endL
  rw [List.pairwise_append]
  refine ⟨List.pairwise_cons.mpr ⟨fun v hv => by have := (p2 v hv).1; omega, p1⟩, List.pairwise_singleton _ _, fun v hv u hu => ?_⟩
  rw [List.mem_singleton] at hu
  subst hu
  rcases List.mem_cons.mp hv with rfl | z
  · omega
  · exact (p2 v z).2
theorem eA_ok {L : Nat} {D : List Int} {c k : Nat} (h1 : 1 ≤ c) (h2 : c ≤ L) (hk : k < c) : 0 ≤ eA L D c k ∧ eA L D c k < eA L D c (k + 1) ∧ eA L D c (k + 1) ≤ L := by
  have hl := endL_len (D := D) h1 h2
  have hp := List.pairwise_iff_getElem.mp (endL_up (D := D) h1 h2)
  have e : ∀ j, (hj : j < (endL L D c).length) → eA L D c j = (endL L D c)[j] := fun j hj => by unfold eA; rw [List.getD_eq_getElem?_getD, List.getElem?_eq_getElem hj]; rfl
  rw [e k (by omega), e (k + 1) (by omega)]
  have hm : ∀ v ∈ endL L D c, 0 ≤ v ∧ v ≤ L := fun v hv => by
    obtain ⟨_, p2⟩ := plc_up L D (L - c)
    unfold endL at hv
    rcases List.mem_append.mp hv with z | z
    · rcases List.mem_cons.mp z with rfl | z
      · omega
      · have := p2 v z; omega
    · rw [List.mem_singleton] at z; omega
  exact ⟨(hm _ (List.getElem_mem _)).1, hp k (k + 1) (by omega) (by omega) (by omega), (hm _ (List.getElem_mem _)).2⟩
def cutW (text D : List Int) (c : Nat) : List (List Int) := (List.range c).map fun k => (text.drop (eA text.length D c k).toNat).take (eA text.length D c (k + 1) - eA text.length D c k).toNat
theorem cutW_len (text D : List Int) (c : Nat) : (cutW text D c).length = c := by unfold cutW; rw [List.length_map, List.length_range]
theorem cutW_ok {text D : List Int} {c : Nat} (h1 : 1 ≤ c) (h2 : c ≤ text.length) : ∀ w ∈ cutW text D c, 1 ≤ w.length ∧ w.length ≤ text.length ∧ ∀ v ∈ w, v ∈ text := fun w hw => by
  obtain ⟨k, hk, rfl⟩ := List.mem_map.mp hw
  have hk := List.mem_range.mp hk
  obtain ⟨a, b, d⟩ := eA_ok (D := D) h1 h2 hk
  generalize eA text.length D c k = x at a b
  generalize eA text.length D c (k + 1) = y at b d
  refine ⟨?_, ?_, fun v hv => List.mem_of_mem_drop (List.mem_of_mem_take hv)⟩
  · rw [List.length_take, List.length_drop]; omega
  · rw [List.length_take, List.length_drop]; omega
structure CutOk (text D : List Int) (c : Nat) : Prop where
  c1 : 1 ≤ c
  c2 : c ≤ text.length
  few : text.length ≤ 1000
  d1 : 1 ≤ D.length
section
variable {P : Program} {w : World} {K : PySem.W.Frag} {mg : Str → Option Value} {base : Heap} {cAE cBB cBN cBR cTL cBk cPr aBG : Addr}
def S_lcut : Fs := ⟨{x : List Int × List Int × Nat // CutOk x.1 x.2.1 x.2.2}, 3, fun x => [.im (isD (.tuple (x.1.1.map .int))), .im (isD (.list (x.1.2.1.map .int))), .im (isD (.int (x.1.2.2 : Int)))], fun _ => rfl, fun x => .ol (wD (cutW x.1.1 x.1.2.1 x.1.2.2))⟩
abbrev st__law_cut : Stmt := top 42
theorem sc__law_cut : FnScope ["text", "draws", "many", "places", "ends", "k"] ["text", "draws", "many"] (defScope st__law_cut) := ⟨rfl, rfl, rfl, by decide +kernel, rfl, by decide +kernel, by decide +kernel⟩
theorem ok__law_cut {f : Addr} {fd : FuncData} (T : Txt K mg cAE cBB cBN cBR cTL cBk cPr aBG)  (F : Fun K "_law_cut" "_law_cut" st__law_cut f fd) : FnOk P w K mg base (L2.CX P w) 1 f fd ["text", "draws", "many"] (spF (S_lcut)) := by
  refine fn_ok F sc__law_cut rfl fun cdv A outer s H E hr => ?_
  have tk : Takes (cxD P w K mg base ["text", "draws", "many", "places", "ends", "k"] "_law_cut" st__law_cut f cdv A outer s H E) (fun cls d _ H => E cls d H) := takes_of rfl rfl rfl rfl
  have hx := pxM tk
  have nd := sc__law_cut.nd
  refine ⟨_, (pss_cons (ps_set (i := 3) nd rfl (Or.inl rfl) (pe_listRg rfl rfl T.no_list (prg_2 rfl T.no_range pe_int (pe_callB call_len (by rfl) T.no_len (by decide +kernel) (pa_cons (pv 0) pa_nil)))))
 (pss_cons (ps_while (passes_of rfl) (pt_cmpR op_gt (pe_callB call_len (by rfl) T.no_len (by decide +kernel) (pa_cons (pv 3) pa_nil)) (pe_op op_sub (pv 2) pe_int) (nomark _)) (pss_one (ps_expr (pe_bm PySem.F.plainAttrs_list PySem.F.slot_list_pop PySem.F.type_list_pop mt_popAt (pv 3) (pa_cons (pe_op op_mod (pe_callTy call_int1 (by rfl) T.no_int (by decide +kernel) (pa_cons (pe_ix ix_seq (pv 1) (pe_op op_mod (pe_callB call_len (by rfl) T.no_len (by decide +kernel) (pa_cons (pv 3) pa_nil)) (pe_callB call_len (by rfl) T.no_len (by decide +kernel) (pa_cons (pv 1) pa_nil))) (fun _ _ => rfl)) pa_nil)) (pe_callB call_len (by rfl) T.no_len (by decide +kernel) (pa_cons (pv 3) pa_nil))) pa_nil)))))
 (pss_cons (ps_set (i := 4) nd rfl (Or.inr rfl) (pe_op op_uAdd (pe_op op_uAdd (pe_lst (pa_cons pe_int pa_nil)) (pv 3)) (pe_lst (pa_cons (pe_callB call_len (by rfl) T.no_len (by decide +kernel) (pa_cons (pv 0) pa_nil)) pa_nil))))
 (pss_one (ps_ret (pe_lc (own := [("k", 5)]) (g := gName 5) (tt := tYes) rfl nd (pi_range1 (by rfl) T.no_range (pa_cons (pv 2) pa_nil)) (blkOk_by (N := ["text", "draws", "many", "places", "ends", "k"]) (sc := defScope st__law_cut) (by decide +kernel)) (fun _ _ _ _ _ => pg_name (i := 5) nd rfl (Or.inl rfl)) (fun _ _ _ _ _ => pts_nil) (fun _ _ _ _ _ => (pe_slice (r := uSl K) sl_uSl (pv 0) (po_some (pe_ix (r := rIx K) ix_seq (pv 4) (pv 5) (fun _ _ => rfl))) (po_some (pe_ix (r := rIx K) ix_seq (pv 4) (pe_op (r := uAdd K) op_uAdd (pv 5) pe_int) (fun _ _ => rfl))))))))))), ?_⟩
  intro x
  obtain ⟨⟨text, D, c⟩, h⟩ := x
  have h : CutOk text D c := h
  have hz : (sizeLine : Nat) = 16777216 := sizeLine_eq
  obtain ⟨c1, c2, hf, d1⟩ := h
  show Mini.Ans _ _ [.im (isD (.tuple (text.map .int))), .im (isD (.list (D.map .int))), .im (isD (.int (c : Int))), .no, .no, .no] (.ol (wD (cutW text D c)))
  let Gc : Sl → Sl → Sl → Gm := fun x3 x4 x5 => [.im (isD (.tuple (text.map .int))), .im (isD (.list (D.map .int))), .im (isD (.int (c : Int))), x3, x4, x5]
  let Gi : Nat → Gm := fun i => Gc (.ow (isL ((plc text.length D i).map .int))) .no .no
  have lT : ∀ {G : Gm}, G[0]? = some (.im (isD (.tuple (text.map .int)))) → Sv (tCB (fun xs H Q => ∃ x n, xs = [x] ∧ LenV K x H n ∧ Q (.int n) H) (tCons (tVar 0) tNil)) G (isD (.int (text.length : Int))) := fun {G} h => sv_is (sv_lenT (ds := text.map .int) (sv_var h)) (by rw [List.length_map])
  have lP : ∀ {G : Gm} {p : List Int}, G[3]? = some (.ow (isL (p.map .int))) → Sv (tCB (fun xs H Q => ∃ x n, xs = [x] ∧ LenV K x H n ∧ Q (.int n) H) (tCons (tVar 3) tNil)) G (isD (.int (p.length : Int))) := fun {G p} h => sv_is (sv_lenL (ds := p.map .int) (rl_ow h)) (by rw [List.length_map])
  have e0 : ((List.range ((text.length : Int) - 1).toNat).map fun k : Nat => PyData.int (1 + (k : Int))) = (plc text.length D 0).map .int := by
    show _ = (List.map _ (List.range (text.length - 1))).map PyData.int
    rw [List.map_map, show ((text.length : Int) - 1).toNat = text.length - 1 by omega]; rfl
  refine .ol (ss_seq (G1 := Gi 0) (ss_setL (svl_is (svl_range2 sv_int (lT rfl) (by decide) (by omega) (by decide) (by omega)) e0)) (ss_seq (G1 := Gi (text.length - c)) (ss_while Gi (text.length - c) (Le.refl _) (fun i hi => ?_) (fun i hi => ?_) (.inl ⟨?_, rfl⟩)) ?_))
  · have hl := plc_len text.length D i (by omega)
    exact st_is (st_test (sv_cmp (g := fun i j => decide (j < i)) (lP rfl) (sv_sub (sv_var rfl) sv_int))) (decide_eq_true (by omega))
  · have hl := plc_len text.length D i (by omega)
    show Mini.Turn _ _ (Gc (.ow (isL ((plc text.length D i).map .int))) .no .no) (Gc (.ow (isL (((plc text.length D i).eraseIdx (cix D (plc text.length D i).length).toNat).map .int))) .no .no)
    generalize plc text.length D i = p at hl ⊢
    have hp : 0 < p.length := by omega
    obtain ⟨b1, b2⟩ := cix_ok (D := D) (l := p.length) hp
    have hmod : p.length % D.length < D.length := Nat.mod_lt _ (by omega)
    have ix : Sv _ (Gc (.ow (isL (p.map .int))) .no .no) (isD (.int (cix D p.length))) := sv_mod (sv_int1 (sv_ixL (ds := D.map .int) (K := K) (rl_sv (sv_var (n := 1) rfl)) (sv_is (sv_mod (lP rfl) (sv_is (sv_lenL (K := K) (ds := D.map .int) (rl_sv (sv_var (n := 1) rfl))) (by rw [List.length_map])) (by omega)) (by rw [← Int.natCast_emod])) (atI_ints (ds := D) (k := p.length % D.length) hmod))) (lP rfl) (by omega)
    refine .inl (ss_nxIs (ss_popAt (n := 3) (ds := p.map .int) rfl ix ⟨b1, by rw [List.length_map]; exact b2⟩ (by rw [List.length_map]; omega)) ?_)
    show Gc (.ow (isL ((p.map PyData.int).eraseIdx (cix D p.length).toNat))) .no .no = _
    rw [map_erase]
  · have hl := plc_len text.length D (text.length - c) (by omega)
    exact st_is (st_test (sv_cmp (g := fun i j => decide (j < i)) (lP rfl) (sv_sub (sv_var rfl) sv_int))) (decide_eq_false (by omega))
  · have hl := plc_len text.length D (text.length - c) (by omega)
    have hel := endL_len (D := D) c1 c2
    have hE : [PyData.int 0] ++ (plc text.length D (text.length - c)).map .int ++ [PyData.int (text.length : Int)] = (endL text.length D c).map .int := by
      unfold endL
      rw [List.map_append]; rfl
    have hA : ∀ k, k < c → 0 ≤ eA text.length D c k ∧ eA text.length D c k < eA text.length D c (k + 1) ∧ eA text.length D c (k + 1) ≤ text.length := fun k hk => eA_ok (D := D) c1 c2 hk
    have eD : ∀ k, eA text.length D c k = atD (endL text.length D c) k := fun k => rfl
    unfold cutW
    simp only [eD] at hA ⊢
    refine ss_seq (ss_setL (ds := (endL text.length D c).map .int) (svl_is (svl_cat (ds := [PyData.int 0] ++ (plc text.length D (text.length - c)).map .int) (es := [.int (text.length : Int)]) (rl_svl (svl_cat (ds := [.int 0]) (rl_svl (svl_lst (ds := [.int 0]) (sa_ims sv_int sa_nil) (by show 1 ≤ sizeLine; omega))) (rl_ow rfl) (by rw [List.length_map]; show 1 + _ ≤ sizeLine; omega))) (rl_svl (svl_lst (ds := [.int (text.length : Int)]) (sa_ims (lT rfl) sa_nil) (by show 1 ≤ sizeLine; omega))) (by rw [List.length_append, List.length_map]; show 1 + _ + 1 ≤ sizeLine; omega)) hE)) ?_
    generalize endL text.length D c = ends at hel hA hE ⊢
    refine ss_retL (svl_is (svl_lcMapR (n := (c : Int)) (j := 5) (sv_var rfl) (fun k => .tuple (((text.drop (atD ends k).toNat).take (atD ends (k + 1) - atD ends k).toNat).map .int)) (Nat.le_of_ble_eq_true rfl) (by omega) (by omega) fun k hk => ?_) ?_)
    · have hk : k < c := by omega
      obtain ⟨a1, a2, a3⟩ := hA k hk
      refine sv_is (sv_sliceT (ds := text.map .int) (sv_var rfl) (so_some (sv_ixL (ds := ends.map .int) (rl_ow rfl) (sv_var rfl) (atI_ints (ds := ends) (k := k) (by omega)))) (so_some (sv_ixL (ds := ends.map .int) (i := ((k + 1 : Nat) : Int)) (rl_ow rfl) (sv_is (sv_add (sv_var rfl) sv_int) rfl) (atI_ints (ds := ends) (k := k + 1) (by omega))))) ?_
      rw [cut_mid _ a1 (by omega) (by rw [List.length_map]; omega), List.map_take, List.map_drop]
    · unfold wD
      rw [Int.toNat_natCast, List.map_map]; rfl
end
end K58

namespace K58
open PySem L2 Evl Mini PyProof.Rows
abbrev Bk := Int × List (List Int) × List (List Int)
def bkD (x : Bk) : PyData := .tuple [.int x.1, .list (wD x.2.1), .list (wD x.2.2)]
def BkQ (x : Bk) : Prop := Small x.2.1 x.2.2 x.1 ∧ 0 ≤ x.1
def isBk : Ty := isEx BkQ fun x => isD (.tuple [.int x.1, .list (wD x.2.1), .list (wD x.2.2)])
theorem wAt_in {W : List (List Int)} {k : Nat} (h : k < W.length) : wAt W k ∈ W := by
  unfold wAt
  rw [List.getD_eq_getElem?_getD, List.getElem?_eq_getElem (by omega)]
  exact List.getElem_mem _
def WOk (W : List (List Int)) (m : Int) : Prop := ∀ w ∈ W, 1 ≤ w.length ∧ w.length ≤ 80 ∧ ∀ v ∈ w, 0 ≤ v ∧ v < m
theorem bkQ_of {m : Int} {A B : List (List Int)} (h0 : 0 ≤ m) (h1 : m ≤ 60) (hl : A.length = B.length) (h60 : A.length ≤ 60) (hA : WOk A m) (hB : WOk B m) : BkQ (m, A, B) :=
  ⟨⟨⟨⟨h60, fun w hw => by obtain ⟨a, b, c⟩ := hA w hw; exact ⟨a, by omega, c⟩⟩, ⟨by show B.length ≤ 60; omega, fun w hw => by obtain ⟨a, b, c⟩ := hB w hw; exact ⟨a, by omega, c⟩⟩, h1, hl⟩,
    fun k hk => ⟨(hA _ (wAt_in hk)).2.1, (hB _ (wAt_in (by rw [← hl]; exact hk))).2.1⟩⟩, h0⟩
/-! the order drawn -/
def pix (D : List Int) (i l : Nat) : Int := atD D ((100 + i) % 120) % (l : Int)
def remN (D : List Int) (n : Nat) : Nat → List Nat
  | 0 => List.range n
  | i + 1 => (remN D n i).eraseIdx (pix D i (remN D n i).length).toNat
def outN (D : List Int) (n : Nat) : Nat → List Nat
  | 0 => []
  | i + 1 => outN D n i ++ [(remN D n i).getD (pix D i (remN D n i).length).toNat 0]
theorem pix_ok {D : List Int} {i l : Nat} (h : 0 < l) : 0 ≤ pix D i l ∧ pix D i l < l := ⟨Int.emod_nonneg _ (by omega), Int.emod_lt_of_pos _ (by omega)⟩
theorem remN_ok (D : List Int) (n : Nat) : ∀ i, i ≤ n → (remN D n i).length = n - i ∧ ∀ v ∈ remN D n i, v < n
  | 0, _ => ⟨List.length_range, fun v hv => List.mem_range.mp hv⟩
  | i + 1, h => by
    obtain ⟨h1, h2⟩ := remN_ok D n i (by omega)
    obtain ⟨a, b⟩ := pix_ok (D := D) (i := i) (l := (remN D n i).length) (by omega)
    refine ⟨?_, fun v hv => h2 v ((List.eraseIdx_sublist ..).subset hv)⟩
    show ((remN D n i).eraseIdx _).length = _
    rw [List.length_eraseIdx_of_lt (by omega), h1]
    omega
theorem outN_ok (D : List Int) (n : Nat) : ∀ i, i ≤ n → (outN D n i).length = i ∧ ∀ v ∈ outN D n i, v < n
  | 0, _ => ⟨rfl, fun v hv => absurd hv List.not_mem_nil⟩
  | i + 1, h => by
    obtain ⟨h1, h2⟩ := outN_ok D n i (by omega)
    obtain ⟨r1, r2⟩ := remN_ok D n i (by omega)
    obtain ⟨a, b⟩ := pix_ok (D := D) (i := i) (l := (remN D n i).length) (by omega)
    refine ⟨by show (_ ++ [_]).length = _; rw [List.length_append, h1]; rfl, fun v hv => ?_⟩
    rcases List.mem_append.mp hv with z | z
    · exact h2 v z
    · rw [List.mem_singleton] at z
      subst z
      have hlt : (pix D i (remN D n i).length).toNat < (remN D n i).length := by omega
      rw [List.getD_eq_getElem?_getD, List.getElem?_eq_getElem hlt]
      exact r2 _ (List.getElem_mem _)
def pickW (W : List (List Int)) (o : List Nat) : List (List Int) := o.map fun j => W.getD j []
theorem pickW_ok {W : List (List Int)} {o : List Nat} {m : Int} (h : WOk W m) (ho : ∀ v ∈ o, v < W.length) : WOk (pickW W o) m := fun w hw => by
  obtain ⟨j, hj, rfl⟩ := List.mem_map.mp hw
  refine h _ ?_
  rw [List.getD_eq_getElem?_getD, List.getElem?_eq_getElem (ho j hj)]
  exact List.getElem_mem _
def pickF (W : List (List Int)) (d : PyData) : PyData := match d with
  | .int j => .tuple ((W.getD j.toNat []).map .int)
  | _ => .none
theorem pick_eq (W : List (List Int)) (o : List Nat) : (o.map fun j : Nat => PyData.int (j : Int)).map (pickF W) = wD (pickW W o) := by
  unfold wD pickW
  rw [List.map_map, List.map_map]
  exact List.map_congr_left fun j _ => rfl
def txtF (D : List Int) (m : Int) (n : Nat) : List Int := (List.range n).map fun k : Nat => atD D (3 + k % 60) / (1 + (k : Int) / 60) % m
def exW (D : List Int) (m : Int) (t : List Int) (i : Nat) : List (List Int) := (List.range i).map fun k : Nat => (m + (k : Int)) :: t.take (atD D (96 + k) % 3).toNat
theorem exW_succ (D : List Int) (m : Int) (t : List Int) (i : Nat) : exW D m t (i + 1) = exW D m t i ++ [(m + (i : Int)) :: t.take (atD D (96 + i) % 3).toNat] := by
  unfold exW
  rw [List.range_succ, List.map_append]; rfl
theorem exW_len (D : List Int) (m : Int) (t : List Int) (i : Nat) : (exW D m t i).length = i := by unfold exW; rw [List.length_map, List.length_range]
theorem wD_app (a b : List (List Int)) : wD (a ++ b) = wD a ++ wD b := by unfold wD; rw [List.map_append]
section
variable {P : Program} {w : World} {K : PySem.W.Frag} {mg : Str → Option Value} {base : Heap} {cAE cBB cBN cBR cTL cBk cPr aBG : Addr}
def S_lbooks : Fs := ⟨{D : List Int // D.length = 125 ∧ ∀ v ∈ D, Dr v}, 1, fun x => [.im (isD (.list (x.1.map .int)))], fun _ => rfl, fun x => .ok isBk⟩
abbrev st__law_books : Stmt := top 43
theorem sc__law_books : FnScope ["draws", "kind", "word", "many", "letters", "text", "first", "second", "k", "order", "turned"] ["draws"] (defScope st__law_books) := ⟨rfl, rfl, rfl, by decide +kernel, rfl, by decide +kernel, by decide +kernel⟩
theorem ok__law_books {f : Addr} {fd : FuncData} (T : Txt K mg cAE cBB cBN cBR cTL cBk cPr aBG) (F__law_cut : FnC P w K mg base 1 "_law_cut" (spF (S_lcut))) (F : Fun K "_law_books" "_law_books" st__law_books f fd) : FnOk P w K mg base (L2.CX P w) 2 f fd ["draws"] (spF (S_lbooks)) := by
  refine fn_ok F sc__law_books rfl fun cdv A outer s H E hr => ?_
  have tk : Takes (cxD P w K mg base ["draws", "kind", "word", "many", "letters", "text", "first", "second", "k", "order", "turned"] "_law_books" st__law_books f cdv A outer s H E) (fun cls d _ H => E cls d H) := takes_of rfl rfl rfl rfl
  have hx := pxM tk
  have nd := sc__law_books.nd
  refine ⟨_, (pss_cons (ps_set (i := 1) nd rfl (Or.inl rfl) (pe_op op_mod (pe_callTy call_int1 (by rfl) T.no_int (by decide +kernel) (pa_cons (pe_ix ix_seq (pv 0) pe_int (fun _ _ => rfl)) pa_nil)) pe_int))
 (pss_cons (ps_if (pt_cmpR (op_eqD hr.units) (pv 1) pe_int (nomark _)) (pss_cons (ps_set (i := 2) nd rfl (Or.inl rfl) (pe_tupleOf (by rfl) T.no_tuple (pe_lc (own := [("k", 8)]) (g := gName 8) (tt := tYes) rfl nd (pi_range1 (by rfl) T.no_range (pa_cons (pe_op op_uAdd pe_int (pe_op op_mod (pe_callTy call_int1 (by rfl) T.no_int (by decide +kernel) (pa_cons (pe_ix ix_seq (pv 0) pe_int (fun _ _ => rfl)) pa_nil)) pe_int)) pa_nil)) (blkOk_by (N := ["draws", "kind", "word", "many", "letters", "text", "first", "second", "k", "order", "turned"]) (sc := defScope st__law_books) (by decide +kernel)) (fun _ _ _ _ _ => pg_name (i := 8) nd rfl (Or.inl rfl)) (fun _ _ _ _ _ => pts_nil) (fun _ _ _ _ _ => (pe_op op_mod (pe_callTy call_int1 (by rfl) T.no_int (by decide +kernel) (pa_cons (pe_ix (r := rIx K) ix_seq (pv 0) (pe_op (r := uAdd K) op_uAdd pe_int (pv 8)) (fun _ _ => rfl)) pa_nil)) pe_int)))))
 (pss_one (ps_ret (pe_tup (pa_cons pe_int (pa_cons (pe_lst (pa_cons (pv 2) pa_nil)) (pa_cons (pe_lst (pa_cons (pv 2) pa_nil)) pa_nil))))))) pss_nil)
 (pss_cons (ps_if (pt_cmpR (op_eqD hr.units) (pv 1) pe_int (nomark _)) (pss_one (ps_ret (pe_tup (pa_cons pe_int (pa_cons (pe_lst (pa_cons (pe_tup (pa_cons pe_int (pa_cons pe_int pa_nil))) (pa_cons (pe_tup (pa_cons pe_int pa_nil)) pa_nil))) (pa_cons (pe_lst (pa_cons (pe_tup (pa_cons pe_int pa_nil)) (pa_cons (pe_tup (pa_cons pe_int (pa_cons pe_int pa_nil))) pa_nil))) pa_nil)))))) pss_nil)
 (pss_cons (ps_asg (pe_tup (pa_cons (pe_op op_uAdd pe_int (pe_op op_mod (pe_callTy call_int1 (by rfl) T.no_int (by decide +kernel) (pa_cons (pe_ix ix_seq (pv 0) pe_int (fun _ _ => rfl)) pa_nil)) pe_int)) (pa_cons (pe_op op_uAdd pe_int (pe_op op_mod (pe_callTy call_int1 (by rfl) T.no_int (by decide +kernel) (pa_cons (pe_ix ix_seq (pv 0) pe_int (fun _ _ => rfl)) pa_nil)) pe_int)) pa_nil))) (pg_tup rfl (pgs_cons (pg_name (i := 3) nd rfl (Or.inl rfl)) (pgs_cons (pg_name (i := 4) nd rfl (Or.inr rfl)) pgs_nil))))
 (pss_cons (ps_set (i := 5) nd rfl (Or.inl rfl) (pe_tupleOf (by rfl) T.no_tuple (pe_lc (own := [("k", 8)]) (g := gName 8) (tt := tYes) rfl nd (pi_range1 (by rfl) T.no_range (pa_cons (pe_op op_uAdd (pe_op op_uMul (pv 3) pe_int) (pe_op op_mod (pe_callTy call_int1 (by rfl) T.no_int (by decide +kernel) (pa_cons (pe_ix ix_seq (pv 0) pe_int (fun _ _ => rfl)) pa_nil)) pe_int)) pa_nil)) (blkOk_by (N := ["draws", "kind", "word", "many", "letters", "text", "first", "second", "k", "order", "turned"]) (sc := defScope st__law_books) (by decide +kernel)) (fun _ _ _ _ _ => pg_name (i := 8) nd rfl (Or.inl rfl)) (fun _ _ _ _ _ => pts_nil) (fun _ _ _ _ _ => (pe_op op_mod (pe_op op_fdiv (pe_callTy call_int1 (by rfl) T.no_int (by decide +kernel) (pa_cons (pe_ix (r := rIx K) ix_seq (pv 0) (pe_op (r := uAdd K) op_uAdd pe_int (pe_op op_mod (pv 8) pe_int)) (fun _ _ => rfl)) pa_nil)) (pe_op (r := uAdd K) op_uAdd pe_int (pe_op op_fdiv (pv 8) pe_int))) (pv 4))))))
 (pss_cons (ps_asg (pe_tup (pa_cons (pe_fn F__law_cut hr hx (pa_cons (pv 5) (pa_cons (pe_slice sl_uSl (pv 0) (po_some pe_int) po_none) (pa_cons (pv 3) pa_nil)))) (pa_cons (pe_fn F__law_cut hr hx (pa_cons (pv 5) (pa_cons (pe_slice sl_uSl (pv 0) (po_some pe_int) po_none) (pa_cons (pv 3) pa_nil)))) pa_nil))) (pg_tup rfl (pgs_cons (pg_name (i := 6) nd rfl (Or.inr rfl)) (pgs_cons (pg_name (i := 7) nd rfl (Or.inr rfl)) pgs_nil))))
 (pss_cons (ps_for (passes_of rfl) rfl (pi_range1 (by rfl) T.no_range (pa_cons (pe_op op_mod (pe_callTy call_int1 (by rfl) T.no_int (by decide +kernel) (pa_cons (pe_ix ix_seq (pv 0) pe_int (fun _ _ => rfl)) pa_nil)) pe_int) pa_nil)) (pg_name (i := 8) nd rfl (Or.inl rfl)) (pss_cons (ps_set (i := 2) nd rfl (Or.inl rfl) (pe_op op_uAdd (pe_tup (pa_cons (pe_op op_uAdd (pv 4) (pv 8)) pa_nil)) (pe_slice sl_uSl (pv 5) po_none (po_some (pe_op op_mod (pe_callTy call_int1 (by rfl) T.no_int (by decide +kernel) (pa_cons (pe_ix ix_seq (pv 0) (pe_op op_uAdd pe_int (pv 8)) (fun _ _ => rfl)) pa_nil)) pe_int)))))
 (pss_cons (ps_expr (pe_bm PySem.F.plainAttrs_list PySem.F.slot_list_append PySem.F.type_list_append mt_append (pv 6) (pa_cons (pv 2) pa_nil)))
 (pss_one (ps_expr (pe_bm PySem.F.plainAttrs_list PySem.F.slot_list_append PySem.F.type_list_append mt_append (pv 7) (pa_cons (pv 2) pa_nil)))))))
 (pss_cons (ps_set (i := 9) nd rfl (Or.inr rfl) (pe_listRg rfl rfl T.no_list (prg_1 rfl T.no_range (pe_callB call_len (by rfl) T.no_len (by decide +kernel) (pa_cons (pv 6) pa_nil)))))
 (pss_cons (ps_setLc (i := 10) rfl nd rfl rfl (sw_true rfl rfl rfl (by decide +kernel)) (own := [("k", 8)]) (g := gName 8) (tt := tYes) (pi_range1 (by rfl) T.no_range (pa_cons (pe_callB call_len (by rfl) T.no_len (by decide +kernel) (pa_cons (pv 6) pa_nil)) pa_nil)) (blkOk_by (N := ["draws", "kind", "word", "many", "letters", "text", "first", "second", "k", "order", "turned"]) (sc := defScope st__law_books) (by decide +kernel)) (fun _ _ _ _ _ => pg_name (i := 8) nd rfl (Or.inl rfl)) (fun _ _ _ _ _ => pts_nil) (fun _ _ _ _ _ => (pe_bmK (K := K) PySem.F.plainAttrs_list PySem.F.slot_list_pop PySem.F.type_list_pop mt_popAt (pv 9) (pa_cons (pe_op op_mod (pe_callTy call_int1 (by rfl) T.no_int (by decide +kernel) (pa_cons (pe_ix (r := rIx K) ix_seq (pv 0) (pe_op op_mod (pe_op (r := uAdd K) op_uAdd pe_int (pv 8)) pe_int) (fun _ _ => rfl)) pa_nil)) (pe_callB (r := rLenK K) call_len (by rfl) T.no_len (by decide +kernel) (pa_cons (pv 9) pa_nil))) pa_nil))))
 (pss_one (ps_ret (pe_tup (pa_cons (pe_op op_uAdd (pv 4) pe_int) (pa_cons (pe_lc (own := [("k", 8)]) (g := gName 8) (tt := tYes) rfl nd (pi_list (pv 10)) (blkOk_by (N := ["draws", "kind", "word", "many", "letters", "text", "first", "second", "k", "order", "turned"]) (sc := defScope st__law_books) (by decide +kernel)) (fun _ _ _ _ _ => pg_name (i := 8) nd rfl (Or.inl rfl)) (fun _ _ _ _ _ => pts_nil) (fun _ _ _ _ _ => (pe_ix (r := rIx K) ix_seq (pv 6) (pv 8) (fun _ _ => rfl)))) (pa_cons (pe_lc (own := [("k", 8)]) (g := gName 8) (tt := tYes) rfl nd (pi_list (pv 10)) (blkOk_by (N := ["draws", "kind", "word", "many", "letters", "text", "first", "second", "k", "order", "turned"]) (sc := defScope st__law_books) (by decide +kernel)) (fun _ _ _ _ _ => pg_name (i := 8) nd rfl (Or.inl rfl)) (fun _ _ _ _ _ => pts_nil) (fun _ _ _ _ _ => (pe_ix (r := rIx K) ix_seq (pv 7) (pv 8) (fun _ _ => rfl)))) pa_nil))))))))))))))), ?_⟩
  intro x
  obtain ⟨D, hD, hDr⟩ := x
  have hz : (sizeLine : Nat) = 16777216 := sizeLine_eq
  have hdr := atD_dr hDr
  have mo : ∀ (k : Nat) {c : Int}, 0 < c → 0 ≤ atD D k % c ∧ atD D k % c < c := fun k {c} h => ⟨Int.emod_nonneg _ (by omega), Int.emod_lt_of_pos _ h⟩
  have dr : ∀ {G : Gm} {te : TE} {k : Nat}, G[0]? = some (.im (isD (.list (D.map .int)))) → k < 125 → Sv te G (isD (.int (k : Int))) → Sv (tCB cInt (tCons (tOp (rIx K) (tVar 0) te) tNil)) G (isD (.int (atD D k))) := fun {G te k} h hk ht => sv_int1 (sv_ixL (i := ((k : Nat) : Int)) (rl_sv (sv_var h)) ht (atI_ints (ds := D) (k := k) (by omega)))
  show Mini.Ans _ _ [.im (isD (.list (D.map .int))), .no, .no, .no, .no, .no, .no, .no, .no, .no, .no] (.ok isBk)
  have hk6 := mo 0 (c := 6) (by decide)
  refine .ok (ss_seq (ss_set (sv_mod (dr (k := 0) rfl (by omega) sv_int) sv_int (by decide))) ?_)
  generalize atD D 0 % 6 = kind at hk6 ⊢
  by_cases k0 : kind = 0
  · have h5 := mo 5 (c := 4) (by decide)
    refine ss_seqRt (ss_if1 (st_is (st_test (sv_eqI (sv_var rfl) sv_int)) (decide_eq_true k0)) ?_)
    have hw : ∀ w ∈ [(List.range (1 + atD D 5 % 4).toNat).map fun k : Nat => atD D (1 + k) % 3], 1 ≤ w.length ∧ w.length ≤ 80 ∧ ∀ v ∈ w, 0 ≤ v ∧ v < 3 := fun w h => by
      rw [List.mem_singleton] at h
      subst h
      rw [List.length_map, List.length_range]
      refine ⟨by omega, by omega, fun v hv => ?_⟩
      obtain ⟨k, _, rfl⟩ := List.mem_map.mp hv
      exact mo (1 + k) (by decide)
    have ew : ((List.range (1 + atD D 5 % 4).toNat).map fun k : Nat => PyData.int (atD D (1 + k) % 3)) = ((List.range (1 + atD D 5 % 4).toNat).map fun k : Nat => atD D (1 + k) % 3).map .int := by rw [List.map_map]; rfl
    refine ss_seq (ss_set (P := isD (.tuple (((List.range (1 + atD D 5 % 4).toNat).map fun k : Nat => atD D (1 + k) % 3).map .int))) (sv_tupleL (rl_svl (svl_is (svl_lcMapR (j := 8) (sv_add sv_int (sv_mod (dr (k := 5) rfl (by omega) sv_int) sv_int (by decide))) (fun k => .int (atD D (1 + k) % 3)) (Nat.le_of_ble_eq_true rfl) (by omega) (by omega) fun k hk => ?_) ew)))) ?_
    · exact sv_mod (dr (k := 1 + k) rfl (by omega) (sv_is (sv_add sv_int (sv_var rfl)) (by rw [Int.natCast_add]; rfl))) sv_int (by decide)
    · generalize (List.range (1 + atD D 5 % 4).toNat).map (fun k : Nat => atD D (1 + k) % 3) = w at hw ⊢
      refine ss_ret (sv_ex (Q := BkQ) (3, [w], [w]) (bkQ_of (by decide) (by decide) rfl (Nat.le_of_ble_eq_true rfl) hw hw) (sv_tup (ds := [.int 3, .list [.tuple (w.map .int)], .list [.tuple (w.map .int)]]) (sa_ims sv_int (sa_ims (sv_svl (svl_lst (ds := [.tuple (w.map .int)]) (sa_ims (sv_var rfl) sa_nil) (by show 1 ≤ sizeLine; omega))) (sa_ims (sv_svl (svl_lst (ds := [.tuple (w.map .int)]) (sa_ims (sv_var rfl) sa_nil) (by show 1 ≤ sizeLine; omega))) sa_nil))) (by show 3 ≤ sizeLine; omega)))
  refine ss_seq (ss_if0 (st_is (st_test (sv_eqI (sv_var rfl) sv_int)) (decide_eq_false k0)) ss_next) ?_
  by_cases k1 : kind = 1
  · refine ss_seqRt (ss_if1 (st_is (st_test (sv_eqI (sv_var rfl) sv_int)) (decide_eq_true k1)) ?_)
    have t1 : ∀ {G : Gm} {a : Int}, Sv (tTup (tCons (tC (.int a)) tNil)) G (isD (.tuple [.int a])) := fun {G a} => sv_tup (ds := [.int a]) (sa_ims sv_int sa_nil) (by show 1 ≤ sizeLine; omega)
    have t2 : ∀ {G : Gm} {a b : Int}, Sv (tTup (tCons (tC (.int a)) (tCons (tC (.int b)) tNil))) G (isD (.tuple [.int a, .int b])) := fun {G a b} => sv_tt sv_int sv_int
    refine ss_ret (sv_ex (Q := BkQ) (2, [[0, 1], [1]], [[0], [1, 1]]) (bkQ_of (by decide) (by decide) rfl (Nat.le_of_ble_eq_true rfl) (by unfold WOk; decide) (by unfold WOk; decide)) (sv_tup (ds := [.int 2, .list [.tuple [.int 0, .int 1], .tuple [.int 1]], .list [.tuple [.int 0], .tuple [.int 1, .int 1]]]) (sa_ims sv_int (sa_ims (sv_svl (svl_lst (ds := [.tuple [.int 0, .int 1], .tuple [.int 1]]) (sa_ims t2 (sa_ims t1 sa_nil)) (by show 2 ≤ sizeLine; omega))) (sa_ims (sv_svl (svl_lst (ds := [.tuple [.int 0], .tuple [.int 1, .int 1]]) (sa_ims t1 (sa_ims t2 sa_nil)) (by show 2 ≤ sizeLine; omega))) sa_nil))) (by show 3 ≤ sizeLine; omega)))
  refine ss_seq (ss_if0 (st_is (st_test (sv_eqI (sv_var rfl) sv_int)) (decide_eq_false k1)) ss_next) ?_
  have h1 := mo 1 (c := 17) (by decide)
  have h2 := mo 2 (c := 50) (by decide)
  have h64 := mo 64 (c := 30) (by decide)
  refine ss_seq (ss_tupN [3, 4] (sn_im (sv_add sv_int (sv_mod (dr (k := 1) rfl (by omega) sv_int) sv_int (by decide))) (sn_im (sv_add sv_int (sv_mod (dr (k := 2) rfl (by omega) sv_int) sv_int (by decide))) sn_nil))) ?_
  obtain ⟨c, hc, hc1, hc2⟩ : ∃ c : Nat, 4 + atD D 1 % 17 = (c : Int) ∧ 4 ≤ c ∧ c ≤ 20 := ⟨(4 + atD D 1 % 17).toNat, by omega, by omega, by omega⟩
  rw [hc]
  have hm1 : 8 ≤ 8 + atD D 2 % 50 := by omega
  have hm2 : 8 + atD D 2 % 50 ≤ 57 := by omega
  generalize 8 + atD D 2 % 50 = m at hm1 hm2 ⊢
  obtain ⟨n, hn, hn1, hn2⟩ : ∃ n : Nat, (c : Int) * 2 + atD D 64 % 30 = (n : Int) ∧ 2 * c ≤ n ∧ n ≤ 69 := ⟨((c : Int) * 2 + atD D 64 % 30).toNat, by omega, by omega, by omega⟩
  have et : ((List.range ((n : Int)).toNat).map fun k : Nat => PyData.int (atD D (3 + k % 60) / (1 + (k : Int) / 60) % m)) = (txtF D m n).map .int := by
    unfold txtF
    rw [List.map_map, Int.toNat_natCast]; rfl
  have ht : ∀ v ∈ txtF D m n, 0 ≤ v ∧ v < m := fun v hv => by
    obtain ⟨k, _, rfl⟩ := List.mem_map.mp hv
    exact ⟨Int.emod_nonneg _ (by omega), Int.emod_lt_of_pos _ (by omega)⟩
  have htl : (txtF D m n).length = n := by unfold txtF; rw [List.length_map, List.length_range]
  refine ss_seq (ss_set (P := isD (.tuple ((txtF D m n).map .int))) (sv_tupleL (rl_svl (svl_is (svl_lcMapR (n := (n : Int)) (j := 8) (sv_is (sv_add (sv_mul (sv_var rfl) sv_int (.inr ⟨by decide, by decide⟩)) (sv_mod (dr (k := 64) rfl (by omega) sv_int) sv_int (by decide))) (by rw [hn])) (fun k => .int (atD D (3 + k % 60) / (1 + (k : Int) / 60) % m)) (Nat.le_of_ble_eq_true rfl) (by omega) (by omega) fun k hk => ?_) et)))) ?_
  · have hk : k < 69 := by omega
    have hd := hdr (3 + k % 60)
    have hd := hd.1
    refine sv_mod (sv_div (dr (k := 3 + k % 60) rfl (by omega) (sv_is (sv_add sv_int (sv_mod (sv_var rfl) sv_int (by decide))) (by rw [Int.natCast_add, Int.natCast_emod]; rfl))) (sv_add sv_int (sv_div (sv_var rfl) sv_int ⟨by omega, by omega⟩)) ⟨by omega, by omega⟩) (sv_var rfl) (by omega)
  generalize txtF D m n = t at ht htl ⊢
  have hd65 : 1 ≤ (D.drop 65).length := by rw [List.length_drop]; omega
  have hd80 : 1 ≤ (D.drop 80).length := by rw [List.length_drop]; omega
  have sl : ∀ {G : Gm} (k : Nat), G[0]? = some (.im (isD (.list (D.map .int)))) → Sv (tSl (uSl K) (tVar 0) (tPart (tC (.int (k : Int)))) tNoPart) G (isD (.list ((D.drop k).map .int))) := fun {G} k h => sv_svl (svl_is (svl_slice (ds := D.map .int) (rl_sv (sv_var h)) (so_some (i := ((k : Nat) : Int)) sv_int) so_none) (by rw [cut_drop _ (by omega), Int.toNat_natCast, List.map_drop]))
  refine ss_seq (ss_tupN [6, 7] (sn_nl (svl_call (S := S_lcut) (sa_im (sv_var rfl) (sa_im (sl 65 rfl) (sa_im (sv_var rfl) sa_nil))) ⟨(t, D.drop 65, c), ⟨by show 1 ≤ c; omega, by show c ≤ t.length; omega, by show t.length ≤ 1000; omega, hd65⟩⟩ rfl rfl) (sn_nl (svl_call (S := S_lcut) (sa_im (sv_var rfl) (sa_im (sl 80 rfl) (sa_im (sv_var rfl) sa_nil))) ⟨(t, D.drop 80, c), ⟨by show 1 ≤ c; omega, by show c ≤ t.length; omega, by show t.length ≤ 1000; omega, hd80⟩⟩ rfl rfl) sn_nil))) ?_
  have wok : ∀ E : List Int, WOk (cutW t E c) (m + 3) := fun E w hw => by
    obtain ⟨a1, a2, a3⟩ := cutW_ok (D := E) (by omega) (by omega) w hw
    exact ⟨a1, by omega, fun v hv => by have := ht v (a3 v hv); omega⟩
  have hF := wok (D.drop 65)
  have hS := wok (D.drop 80)
  have hFl := cutW_len t (D.drop 65) c
  have hSl := cutW_len t (D.drop 80) c
  let Gc : List (List Int) → List (List Int) → Sl → Sl → Sl → Sl → Gm := fun F S x2 x8 x9 x10 => [.im (isD (.list (D.map .int))), .im (isD (.int kind)), x2, .im (isD (.int (c : Int))), .im (isD (.int m)), .im (isD (.tuple (t.map .int))), .ow (isL (wD F)), .ow (isL (wD S)), x8, x9, x10]
  show Ss _ _ (Gc (cutW t (D.drop 65) c) (cutW t (D.drop 80) c) .no .no .no .no) _
  generalize cutW t (D.drop 65) c = F at hF hFl ⊢
  generalize cutW t (D.drop 80) c = S at hS hSl ⊢
  have h95 := mo 95 (c := 3) (by decide)
  have hex : ∀ i : Nat, (i : Int) ≤ 2 → WOk (exW D m t i) (m + 3) := fun i hi w hw => by
    obtain ⟨k, hk, rfl⟩ := List.mem_map.mp hw
    have hk := List.mem_range.mp hk
    have h3 := mo (96 + k) (c := 3) (by decide)
    refine ⟨by rw [List.length_cons]; omega, by rw [List.length_cons, List.length_take]; omega, fun v hv => ?_⟩
    rcases List.mem_cons.mp hv with rfl | z
    · omega
    · have := ht v (List.mem_of_mem_take z); omega
  let Gi : Nat → Gm := fun i => Gc (F ++ exW D m t i) (S ++ exW D m t i) .no .no .no .no
  have g0 : Le (Gc F S .no .no .no .no) (Gi 0) := by
    show Le _ (Gc (F ++ []) (S ++ []) .no .no .no .no)
    rw [List.append_nil, List.append_nil]; exact Le.refl _
  refine ss_seq (ss_forR (n := atD D 95 % 3) (j := 8) (sv_mod (dr (k := 95) rfl (by omega) sv_int) sv_int (by decide)) (by omega) Gi (atD D 95 % 3).toNat (Nat.le_refl _) g0 (fun _ _ => Nat.le_of_ble_eq_true rfl) (fun i hi => ?_) (.inl ⟨rfl, rfl⟩)) ?_
  · have hi2 : i < 2 := by omega
    have h3 := mo (96 + i) (c := 3) (by decide)
    have hxl := exW_len D m t i
    refine .inl ?_
    show Ss _ _ (Gc (F ++ exW D m t i) (S ++ exW D m t i) .no (.im (isD (.int (i : Int)))) .no .no) (.nx (Gc (F ++ exW D m t (i + 1)) (S ++ exW D m t (i + 1)) .no .no .no .no))
    rw [exW_succ, ← List.append_assoc, ← List.append_assoc]
    have lF : (F ++ exW D m t i).length ≤ 100 := by rw [List.length_append]; omega
    have lS : (S ++ exW D m t i).length ≤ 100 := by rw [List.length_append]; omega
    generalize F ++ exW D m t i = F1 at lF ⊢
    generalize S ++ exW D m t i = S1 at lS ⊢
    refine ss_seq (ss_set (P := isD (.tuple (((m + (i : Int)) :: t.take (atD D (96 + i) % 3).toNat).map .int))) (sv_is (sv_catT (ds := [.int (m + (i : Int))]) (es := (t.take (atD D (96 + i) % 3).toNat).map .int) (sv_tup (ds := [.int (m + (i : Int))]) (sa_ims (sv_add (sv_var rfl) (sv_var rfl)) sa_nil) (by show 1 ≤ sizeLine; omega)) (sv_is (sv_sliceT (ds := t.map .int) (sv_var rfl) so_none (so_some (sv_mod (dr (k := 96 + i) rfl (by omega) (sv_is (sv_add sv_int (sv_var rfl)) (by rw [Int.natCast_add]; rfl))) sv_int (by decide)))) (by rw [cut_take _ h3.1, List.map_take])) (by rw [List.length_map, List.length_take]; show 1 + _ ≤ sizeLine; omega)) rfl)) ?_
    generalize (m + (i : Int)) :: t.take (atD D (96 + i) % 3).toNat = wd
    have l1 : ∀ W : List (List Int), (wD W).length = W.length := fun W => by unfold wD; rw [List.length_map]
    have ap : ∀ W : List (List Int), wD (W ++ [wd]) = wD W ++ [.tuple (wd.map .int)] := fun W => wD_app W [wd]
    refine ss_nxLe (G1 := Gc (F1 ++ [wd]) (S1 ++ [wd]) (.im (isD (.tuple (wd.map .int)))) (.im (isD (.int (i : Int)))) .no .no) ?_ (by repeat first | exact Le.nil | refine Le.eq ?_ | refine Le.no ?_)
    show Ss _ _ _ (.nx [.im (isD (.list (D.map .int))), .im (isD (.int kind)), .im (isD (.tuple (wd.map .int))), .im (isD (.int (c : Int))), .im (isD (.int m)), .im (isD (.tuple (t.map .int))), .ow (isL (wD (F1 ++ [wd]))), .ow (isL (wD (S1 ++ [wd]))), .im (isD (.int (i : Int))), .no, .no])
    rw [ap F1, ap S1]
    exact ss_seq (ss_append (n := 6) (ds := wD F1) (d := .tuple (wd.map .int)) rfl (sv_var rfl) (by rw [l1]; omega)) (ss_append (n := 7) (ds := wD S1) (d := .tuple (wd.map .int)) rfl (sv_var rfl) (by rw [l1]; omega))
  have hx := hex (atD D 95 % 3).toNat (by omega)
  have hxl := exW_len D m t (atD D 95 % 3).toNat
  show Ss _ _ (Gc (F ++ exW D m t (atD D 95 % 3).toNat) (S ++ exW D m t (atD D 95 % 3).toNat) .no .no .no .no) _
  have hF2 : WOk (F ++ exW D m t (atD D 95 % 3).toNat) (m + 3) := fun w hw => (List.mem_append.mp hw).elim (hF w) (hx w)
  have hS2 : WOk (S ++ exW D m t (atD D 95 % 3).toNat) (m + 3) := fun w hw => (List.mem_append.mp hw).elim (hS w) (hx w)
  have lF2 : (F ++ exW D m t (atD D 95 % 3).toNat).length = c + (atD D 95 % 3).toNat := by rw [List.length_append, hFl, hxl]
  have lS2 : (S ++ exW D m t (atD D 95 % 3).toNat).length = c + (atD D 95 % 3).toNat := by rw [List.length_append, hSl, hxl]
  have hn22 : c + (atD D 95 % 3).toNat ≤ 22 := by omega
  generalize F ++ exW D m t (atD D 95 % 3).toNat = F2 at hF2 lF2 ⊢
  generalize S ++ exW D m t (atD D 95 % 3).toNat = S2 at hS2 lS2 ⊢
  generalize c + (atD D 95 % 3).toNat = q at lF2 lS2 hn22
  have l1 : ∀ W : List (List Int), (wD W).length = W.length := fun W => by unfold wD; rw [List.length_map]
  have lenF : ∀ {G : Gm}, G[6]? = some (.ow (isL (wD F2))) → Sv (tCB (fun xs H Q => ∃ x n, xs = [x] ∧ LenV K x H n ∧ Q (.int n) H) (tCons (tVar 6) tNil)) G (isD (.int (q : Int))) := fun {G} h => sv_is (sv_lenL (ds := wD F2) (rl_ow h)) (by rw [l1, lF2])
  have er : ((List.range ((q : Int)).toNat).map fun k : Nat => PyData.int (k : Int)) = (remN D q 0).map fun j : Nat => PyData.int (j : Int) := by rw [Int.toNat_natCast]; rfl
  refine ss_seq (ss_setL (n := 9) (svl_is (svl_range1 (lenF rfl) (by omega) (by omega)) er)) ?_
  refine ss_seq (ss_setLcPop (N := (q : Int)) (n := 9) (m := 10) (j := 8) (fun i => (remN D q i).map fun j : Nat => PyData.int (j : Int)) (fun i => (outN D q i).map fun j : Nat => PyData.int (j : Int)) (fun i => pix D i (remN D q i).length) (fun i => .int (((remN D q i).getD (pix D i (remN D q i).length).toNat 0 : Nat) : Int)) rfl (lenF rfl) (by omega) (by omega) (fun i hi => ?_) (fun i hi => ?_) (fun i hi => ?_) (fun i hi => ?_) rfl (fun i hi => ?_) (Nat.le_of_ble_eq_true rfl) (by decide) (Nat.le_of_ble_eq_true rfl)) ?_
  · have hi : i < q := by omega
    obtain ⟨r1, _⟩ := remN_ok D q i (by omega)
    exact sv_mod (dr (k := (100 + i) % 120) rfl (by omega) (sv_is (sv_mod (sv_add sv_int (sv_var rfl)) sv_int (by decide)) (by rw [Int.natCast_emod, Int.natCast_add]; rfl))) (sv_is (sv_lenL (ds := (remN D q i).map fun j : Nat => PyData.int (j : Int)) (rl_ow rfl)) (by rw [List.length_map])) (by omega)
  · have hi : i < q := by omega
    obtain ⟨r1, _⟩ := remN_ok D q i (by omega)
    obtain ⟨a, b⟩ := pix_ok (D := D) (i := i) (l := (remN D q i).length) (by omega)
    rw [List.length_map]
    exact ⟨a, b, by omega⟩
  · have hi : i < q := by omega
    obtain ⟨r1, _⟩ := remN_ok D q i (by omega)
    obtain ⟨a, b⟩ := pix_ok (D := D) (i := i) (l := (remN D q i).length) (by omega)
    have hlt : (pix D i (remN D q i).length).toNat < (remN D q i).length := by omega
    rw [List.getElem?_map, List.getElem?_eq_getElem hlt, List.getD_eq_getElem?_getD, List.getElem?_eq_getElem hlt]; rfl
  · show (List.map _ ((remN D q i).eraseIdx _)) = _
    rw [map_erase]
  · show (List.map _ (outN D q i ++ [_])) = _
    rw [List.map_append]; rfl
  · obtain ⟨o1, o2⟩ := outN_ok D q q (Nat.le_refl _)
    rw [Int.toNat_natCast]
    generalize outN D q q = ou at o1 o2 ⊢
    have pick : ∀ {G : Gm} {W : List (List Int)} {a : Nat}, W.length = q → G[a]? = some (.ow (isL (wD W))) → a ≠ 8 → G[10]? = some (.ow (isL (ou.map fun j : Nat => PyData.int (j : Int)))) → 8 < G.length → Sv (tLc (iList K (tVar 10)) (gName 8) tYes (tOp (rIx K) (tVar a) (tVar 8)) [8]) G (isD (.list (wD (pickW W ou)))) := fun {G W a} lW h ha h10 h8 => by
      refine sv_svl (svl_is (svl_lcMap (ds := ou.map fun j : Nat => PyData.int (j : Int)) (rl_ow h10) (pickF W) h8 (by rw [List.length_map]; omega) fun d hd => ?_) (pick_eq W ou))
      obtain ⟨j, hj, rfl⟩ := List.mem_map.mp hd
      have hjq := o2 j hj
      have hs : (Gv G 8 (.int (j : Int)))[a]? = some (.ow (isL (wD W))) := by
        show ((G.set 8 .no).set 8 (.im (isD (.int (j : Int)))))[a]? = _
        rw [List.getElem?_set_ne (Ne.symm ha), List.getElem?_set_ne (Ne.symm ha)]; exact h
      have h8' : (Gv G 8 (.int (j : Int)))[8]? = some (.im (isD (.int (j : Int)))) := by
        show ((G.set 8 .no).set 8 (.im (isD (.int (j : Int)))))[8]? = _
        rw [List.getElem?_set_self (by rw [List.length_set]; exact h8)]
      exact sv_ixL (ds := wD W) (i := (j : Int)) (d := .tuple ((W.getD j []).map .int)) (rl_ow hs) (sv_var h8') (atI_nat (wD_get (by omega)))
    refine ss_ret (sv_ex (Q := BkQ) (m + 3, pickW F2 ou, pickW S2 ou) (bkQ_of (by omega) (by omega) (by unfold pickW; rw [List.length_map, List.length_map]) (by unfold pickW; rw [List.length_map]; omega) (pickW_ok hF2 fun v hv => by have := o2 v hv; omega) (pickW_ok hS2 fun v hv => by have := o2 v hv; omega)) (sv_tup (ds := [.int (m + 3), .list (wD (pickW F2 ou)), .list (wD (pickW S2 ou))]) (sa_ims (sv_add (sv_var rfl) sv_int) (sa_ims (pick lF2 rfl (by decide) rfl (Nat.le_of_ble_eq_true rfl)) (sa_ims (pick lS2 rfl (by decide) rfl (Nat.le_of_ble_eq_true rfl)) sa_nil))) (by show 3 ≤ sizeLine; omega)))
end
end K58

namespace K58
open PySem L2 Evl Mini PyProof.Rows
/-! ### the state behind a row -/
def runL (A B : List (List Int)) : St2 → List Int → Option St2
  | s, [] => some s
  | s, k :: r => match behF s.1 s.2 (wAt A k) (wAt B k) with
    | none => none
    | some p => runL A B p r
theorem runL_snoc (A B : List (List Int)) : ∀ (r : List Int) (s : St2) (k : Int), runL A B s (r ++ [k]) = (runL A B s r).bind fun p => behF p.1 p.2 (wAt A k) (wAt B k)
  | [], s, k => by
    show (match behF s.1 s.2 (wAt A k) (wAt B k) with | none => none | some p => runL A B p []) = behF s.1 s.2 (wAt A k) (wAt B k)
    cases behF s.1 s.2 (wAt A k) (wAt B k) <;> rfl
  | j :: r, s, k => by
    show (match behF s.1 s.2 (wAt A j) (wAt B j) with | none => none | some p => runL A B p (r ++ [k])) = _
    show _ = Option.bind (match behF s.1 s.2 (wAt A j) (wAt B j) with | none => none | some p => runL A B p r) _
    cases behF s.1 s.2 (wAt A j) (wAt B j) with
    | none => rfl
    | some p => exact runL_snoc A B r p k
abbrev bg0 : St2 := ([], [])
def InN (A : List (List Int)) (r : List Int) : Prop := ∀ k ∈ r, 0 ≤ k ∧ k < A.length
theorem lvl_run {A B : List (List Int)} : ∀ i, ∀ r ∈ lvlI A B i, runL A B bg0 r.1 = some r.2.1 ∧ r.1.length = i ∧ InN A r.1
  | 0, r, hr => by
    obtain rfl := List.mem_singleton.mp hr
    exact ⟨rfl, rfl, fun k hk => absurd hk List.not_mem_nil⟩
  | i + 1, r, hr => by
    obtain ⟨r0, h0, hr⟩ := List.mem_flatMap.mp hr
    obtain ⟨q, hq, rfl⟩ := List.mem_map.mp hr
    obtain ⟨a, b, c⟩ := lvl_run i r0 h0
    obtain ⟨hk, hb⟩ := stepsQ_mem hq
    refine ⟨?_, by show (r0.1 ++ [_]).length = _; rw [List.length_append, b]; rfl, fun k hk' => ?_⟩
    · show runL A B bg0 (r0.1 ++ [(q.1 : Int)]) = some q.2
      rw [runL_snoc, a]
      exact hb
    · rcases List.mem_append.mp hk' with z | z
      · exact c k z
      · rw [List.mem_singleton] at z; omega
theorem stepsQ_in {A B : List (List Int)} {s p : St2} {n k : Nat} (hk : k < n) (h : behF s.1 s.2 (wAt A k) (wAt B k) = some p) : (k, p) ∈ stepsQ A B s n := by
  unfold stepsQ
  refine List.mem_filterMap.mpr ⟨k, List.mem_range.mpr hk, ?_⟩
  rw [h]; rfl
theorem run_lvl {A B : List (List Int)} : ∀ (i : Nat) (r : List Int) (s : St2), r.length = i → InN A r → runL A B bg0 r = some s → ∃ fl, (r, s, fl) ∈ lvlI A B i
  | 0, r, s, hl, _, h => by
    obtain rfl : r = [] := List.eq_nil_of_length_eq_zero hl
    cases h
    exact ⟨true, List.mem_singleton.mpr rfl⟩
  | i + 1, r, s, hl, hn, h => by
    have hne : r ≠ [] := fun z => by rw [z] at hl; cases hl
    obtain ⟨r0, k, rfl⟩ : ∃ r0 k, r = r0 ++ [k] := ⟨r.dropLast, r.getLast hne, (List.dropLast_concat_getLast hne).symm⟩
    have hl0 : r0.length = i := by rw [List.length_append] at hl; simpa using hl
    rw [runL_snoc] at h
    obtain ⟨p, hp, h2⟩ := Option.bind_eq_some_iff.mp h
    obtain ⟨fl, hm⟩ := run_lvl i r0 p hl0 (fun j hj => hn j (List.mem_append_left _ hj)) hp
    obtain ⟨k0, k1⟩ := hn k (List.mem_append_right _ (List.mem_singleton.mpr rfl))
    obtain ⟨m, rfl⟩ := Int.eq_ofNat_of_zero_le k0
    refine ⟨stayB (r0, p, fl), List.mem_flatMap.mpr ⟨(r0, p, fl), hm, List.mem_map.mpr ⟨(m, s), stepsQ_in (by omega) h2, rfl⟩⟩⟩
/-- whether no proper beginning is alike -/
theorem lvl_flag {A B : List (List Int)} : ∀ i, ∀ r ∈ lvlI A B i, (r.2.2 = true ↔ ∀ a, 1 ≤ a → a < i → ∀ s, runL A B bg0 (r.1.take a) = some s → isBg s = false)
  | 0, r, hr => by
    obtain rfl := List.mem_singleton.mp hr
    exact ⟨fun _ a _ h2 => by omega, fun _ => rfl⟩
  | i + 1, r, hr => by
    obtain ⟨r0, h0, hr⟩ := List.mem_flatMap.mp hr
    obtain ⟨q, hq, rfl⟩ := List.mem_map.mp hr
    obtain ⟨a, b, c⟩ := lvl_run i r0 h0
    have ih := lvl_flag i r0 h0
    have tk : ∀ j, j ≤ i → (r0.1 ++ [(q.1 : Int)]).take j = r0.1.take j := fun j hj => List.take_append_of_le_length (by omega)
    show stayB r0 = true ↔ ∀ j, 1 ≤ j → j < i + 1 → ∀ s, runL A B bg0 ((r0.1 ++ [(q.1 : Int)]).take j) = some s → isBg s = false
    unfold stayB
    rw [Bool.and_eq_true, Bool.or_eq_true, ih]
    constructor
    · rintro ⟨h1, h2⟩ j hj1 hj2 s hs
      rw [tk j (by omega)] at hs
      by_cases e : j = i
      · subst e
        rw [← b, List.take_length, a] at hs
        cases hs
        rcases h2 with z | z
        · simpa using z
        · have := of_decide_eq_true z; omega
      · exact h1 j hj1 (by omega) s hs
    · intro h
      refine ⟨fun j hj1 hj2 s hs => h j hj1 (by omega) s (by rw [tk j (by omega)]; exact hs), ?_⟩
      by_cases e : i = 0
      · right; exact decide_eq_true (by omega)
      · left
        have := h i (by omega) (by omega) r0.2.1 (by rw [tk i (Nat.le_refl _)]; conv => lhs; rw [← b, List.take_length]
                                                     exact a)
        rw [this]; rfl
theorem fnd_mem {A B : List (List Int)} {n : Nat} {r : It} (h : r ∈ fndI A B n) : ∃ i, i < n ∧ r ∈ lvlI A B (i + 1) ∧ isBg r.2.1 = true := by
  unfold fndI at h
  obtain ⟨i, hi, h⟩ := List.mem_flatMap.mp h
  obtain ⟨h1, h2⟩ := List.mem_filter.mp h
  exact ⟨i, List.mem_range.mp hi, h1, h2⟩
theorem rows_mem {A B : List (List Int)} {n : Nat} {p : List Int} : p ∈ rowsI A B n ↔ 1 ≤ p.length ∧ p.length ≤ n ∧ InN A p ∧ runL A B bg0 p = some bg0 := by
  constructor
  · intro h
    obtain ⟨r, hr, rfl⟩ := List.mem_map.mp h
    obtain ⟨i, hi, h1, h2⟩ := fnd_mem hr
    obtain ⟨a, b, c⟩ := lvl_run _ r h1
    have e : r.2.1 = bg0 := of_decide_eq_true h2
    rw [e] at a
    exact ⟨by omega, by omega, c, a⟩
  · rintro ⟨h1, h2, h3, h4⟩
    obtain ⟨fl, hm⟩ := run_lvl p.length p bg0 rfl h3 h4
    refine List.mem_map.mpr ⟨(p, bg0, fl), ?_, rfl⟩
    unfold fndI
    refine List.mem_flatMap.mpr ⟨p.length - 1, List.mem_range.mpr (by omega), List.mem_filter.mpr ⟨?_, rfl⟩⟩
    rw [show p.length - 1 + 1 = p.length by omega]
    exact hm
def intKey (r : List Int) : List Key := r.map Sum.inl
theorem intKey_inj {a b : List Int} (h : intKey a = intKey b) : a = b := by
  unfold intKey at h
  induction a generalizing b with
  | nil => cases b with
    | nil => rfl
    | cons y b => cases h
  | cons x a ih => cases b with
    | nil => cases h
    | cons y b =>
      rw [List.map_cons, List.map_cons] at h
      injection h with h1 h2
      injection h1 with h1
      rw [h1, ih h2]
theorem keyT_int (r : List Int) : keyT (intKey r) = .tuple (r.map .int) := by unfold keyT intKey; rw [List.map_map]; rfl
def ksR (R : List (List Int)) (i : Nat) : List (List Key) := ((R.take i).map intKey).reverse
theorem ksR_succ {R : List (List Int)} {i : Nat} {r : List Int} (h : R[i]? = some r) : ksR R (i + 1) = intKey r :: ksR R i := by
  unfold ksR
  rw [List.take_succ, h, List.map_append, List.reverse_append]; rfl
theorem ksR_mem {R : List (List Int)} {p : List Int} : intKey p ∈ ksR R R.length ↔ p ∈ R := by
  unfold ksR
  rw [List.take_length, List.mem_reverse]
  constructor
  · intro h; obtain ⟨q, hq, e⟩ := List.mem_map.mp h; rw [← intKey_inj e]; exact hq
  · intro h; exact List.mem_map.mpr ⟨p, h, rfl⟩
/-- what the law asks of a row -/
def wholeB (R : List (List Int)) (r : List Int) : Bool := !(List.range (r.length - 1)).any fun j => memX (ksR R R.length) (intKey (r.take (j + 1)))
theorem whole_eq {A B : List (List Int)} {n : Nat} {r : It} (h : r ∈ fndI A B n) : wholeB (rowsI A B n) r.1 = r.2.2 := by
  obtain ⟨i, hi, h1, h2⟩ := fnd_mem h
  obtain ⟨a, b, c⟩ := lvl_run _ r h1
  have hf := lvl_flag _ r h1
  have e : (wholeB (rowsI A B n) r.1 = true) ↔ (r.2.2 = true) := by
    rw [hf]
    unfold wholeB
    rw [Bool.not_eq_true', List.any_eq_false]
    constructor
    · intro q j hj1 hj2 s hs
      cases z : isBg s with
      | false => rfl
      | true =>
        exfalso
        have es : s = bg0 := of_decide_eq_true z
        rw [es] at hs
        refine q (j - 1) (List.mem_range.mpr (by omega)) ?_
        rw [show j - 1 + 1 = j by omega, memX_iff, ksR_mem, rows_mem]
        refine ⟨by rw [List.length_take]; omega, by rw [List.length_take]; omega, fun k hk => c k (List.mem_of_mem_take hk), hs⟩
    · intro q j hj hm
      have hj := List.mem_range.mp hj
      rw [memX_iff, ksR_mem, rows_mem] at hm
      have := q (j + 1) (by omega) (by omega) bg0 hm.2.2.2
      cases this
  cases z : r.2.2 with
  | true => exact e.mpr z
  | false =>
    cases w : wholeB (rowsI A B n) r.1 with
    | false => rfl
    | true => rw [e.mp w] at z; cases z
theorem prim_eq (A B : List (List Int)) (n : Nat) : (rowsI A B n).filter (wholeB (rowsI A B n)) = primI A B n := by
  unfold primI
  conv => lhs; arg 2; unfold rowsI
  rw [List.filter_map]
  congr 1
  exact List.filter_congr fun r hr => whole_eq hr
def selR (b : Bool) (A B : List (List Int)) (n : Nat) : List (List Int) := if b then rowsI A B n else primI A B n
def toldK (b : Bool) (A B : List (List Int)) (n : Nat) : PyData := if fitI A B n = true then .list (wD (selR b A B n)) else .tuple [.str "refused", .bool true]
def wrd (b : Bool) : Str := if b then "alike" else "primes"
theorem wrd_ok (b : Bool) : PyData.strOk (wrd b) = true := by cases b <;> decide +kernel
section
variable {P : Program} {w : World} {K : PySem.W.Frag} {mg : Str → Option Value} {base : Heap} {cAE cBB cBN cBR cTL cBk cPr aBG : Addr}
def S_told (cBk cPr : Addr) : Fs := ⟨{x : ((Int × List (List Int) × List (List Int)) × Nat) × Bool // Small x.1.1.2.1 x.1.1.2.2 x.1.1.1 ∧ x.1.2 ≤ 60}, 3, fun x => [.im (isI cPr (pairF cBk x.1.1.1.1 (wD x.1.1.1.2.1) x.1.1.1.1 (wD x.1.1.1.2.2))), .im (isD (.int (x.1.1.2 : Int))), .im (isD (.str (wrd x.1.2)))], fun _ => rfl,
  fun x => .ok (isD (toldK x.1.2 x.1.1.1.2.1 x.1.1.1.2.2 x.1.1.2))⟩
abbrev tbT (K : PySem.W.Frag) (cBk cPr cTL : Addr) : WX → TS := fun W => tRet (tIf (tTest (tOp (rEqD K) (tVar 2) (tC (.str "alike")))) (tCallS (spF (S_alike cBk cPr cTL)) (WE W) (tCons (tVar 0) (tCons (tVar 1) tNil))) (tCallS (spF (S_prime cBk cPr cTL)) (WE W) (tCons (tVar 0) (tCons (tVar 1) tNil))))
abbrev st__law_told : Stmt := top 44
theorem sc__law_told : FnScope ["pair", "length", "word", "e"] ["pair", "length", "word"] (defScope st__law_told) := ⟨rfl, rfl, rfl, by decide +kernel, rfl, by decide +kernel, by decide +kernel⟩
theorem ok__law_told {f : Addr} {fd : FuncData} (T : Txt K mg cAE cBB cBN cBR cTL cBk cPr aBG) (F_alike_rows : FnC P w K mg base 7 "alike_rows" (spF (S_alike cBk cPr cTL))) (F_prime_rows : FnC P w K mg base 7 "prime_rows" (spF (S_prime cBk cPr cTL))) (F : Fun K "_law_told" "_law_told" st__law_told f fd) : FnOk P w K mg base (L2.CX P w) 8 f fd ["pair", "length", "word"] (spF (S_told cBk cPr)) := by
  refine fn_ok F sc__law_told rfl fun cdv A outer s H E hr => ?_
  have tk : Takes (cxD P w K mg base ["pair", "length", "word", "e"] "_law_told" st__law_told f cdv A outer s H E) (fun cls d _ H => E cls d H) := takes_of rfl rfl rfl rfl
  have hx := pxM tk
  have nd := sc__law_told.nd
  refine ⟨_, (pss_one (ps_try_as (i := 3) rfl rfl nd rfl rfl ⟨rfl, by decide, .inl T.e_AlikeError.g⟩ takes0 (fun W pn xe tkW po => (pss_one (ps_ret (pe_ifExp (pt_cmpR (r := rEqD K) (op_eqD hr.units) (pv 2) pe_str (nomark _)) (pe_fn F_alike_rows hr (fun σ => passAt tkW σ) (pa_cons (pv 0) (pa_cons (pv 1) pa_nil))) (pe_fn F_prime_rows hr (fun σ => passAt tkW σ) (pa_cons (pv 0) (pa_cons (pv 1) pa_nil))))))) (fun a oe cls dd pn hz hf => (pss_one (ps_ret (pe_tup (pa_cons pe_str (pa_cons (pe_callB (r := rIsX K a cls dd) (call_isX hz hf) (by rfl) T.no_isinstance (by decide +kernel) (pa_cons (pv 3) (pa_cons (pe_err T.e_TooLong.g) pa_nil))) pa_nil)))))))), ?_⟩
  intro x
  obtain ⟨⟨⟨⟨m, A, B⟩, n⟩, b⟩, h, hn⟩ := x
  show Mini.Ans _ _ [.im (isI cPr (pairF cBk m (wD A) m (wD B))), .im (isD (.int (n : Int))), .im (isD (.str (wrd b))), .no] (.ok (isD (toldK b A B n)))
  have sa : Sa (tCons (tVar 0) (tCons (tVar 1) tNil)) [.im (isI cPr (pairF cBk m (wD A) m (wD B))), .im (isD (.int (n : Int))), .im (isD (.str (wrd b))), .no] ((S_alike cBk cPr cTL).ars ⟨((m, A, B), n), h, hn⟩) := sa_im (sv_var rfl) (sa_im (sv_var rfl) sa_nil)
  have tw : St' (tTest (tOp (rEqD K) (tVar 2) (tC (.str "alike")))) [.im (isI cPr (pairF cBk m (wD A) m (wD B))), .im (isD (.int (n : Int))), .im (isD (.str (wrd b))), .no] b := st_is (st_test (sv_eq (d := .str (wrd b)) (e := .str "alike") (sv_var rfl) sv_str (shS (wrd_ok b)) (shS (by decide +kernel)))) (by cases b <;> decide +kernel)
  by_cases c : fitI A B n = true
  · have ed : toldK b A B n = .list (wD (selR b A B n)) := if_pos c
    rw [ed]
    refine .ok (ss_tryOk (tb := tbT K cBk cPr cTL) (o := .rt _) (fun W => ss_ret (sv_ite tw (fun z => ?_) fun z => ?_)) (fun _ _ z => by cases z))
    · subst z
      exact sv_call (S := S_alike cBk cPr cTL) sa ⟨((m, A, B), n), h, hn⟩ rfl (if_pos c)
    · subst z
      exact sv_call (S := S_prime cBk cPr cTL) sa ⟨((m, A, B), n), h, hn⟩ rfl (if_pos c)
  · have ed : toldK b A B n = .tuple [.str "refused", .bool true] := if_neg c
    rw [ed]
    cases b with
    | true => exact .ok (ss_tryBad (tb := tbT K cBk cPr cTL) (o := .rt _) (fun W => ss_retBad (sb_ite1 tw (sb_call (S := S_alike cBk cPr cTL) sa ⟨((m, A, B), n), h, hn⟩ rfl (if_neg c)))) T.m_cTL (Nat.le_of_ble_eq_true rfl) (fun a => ss_ret (sv_tt sv_str (sv_isX (sv_var rfl) sv_val T.x_cTL T.k_cTL_cTL))) (fun _ _ z => by cases z))
    | false => exact .ok (ss_tryBad (tb := tbT K cBk cPr cTL) (o := .rt _) (fun W => ss_retBad (sb_ite0 tw (sb_call (S := S_prime cBk cPr cTL) sa ⟨((m, A, B), n), h, hn⟩ rfl (if_neg c)))) T.m_cTL (Nat.le_of_ble_eq_true rfl) (fun a => ss_ret (sv_tt sv_str (sv_isX (sv_var rfl) sv_val T.x_cTL T.k_cTL_cTL))) (fun _ _ z => by cases z))
end
end K58

namespace K58
open PySem L2 Evl Mini PyProof.Rows
def wholeD (R : List (List Int)) (d : PyData) : Bool := match d with
  | .tuple ds => !((List.range (((ds.length : Nat) : Int) - 1).toNat).map fun j => memX (ksR R R.length) ((ds.take (j + 1)).map fun e => match e with | .int i => Sum.inl i | _ => Sum.inl 0)).any id
  | _ => false
theorem any_map_id {α : Type} (f : α → Bool) : ∀ l : List α, (l.map f).any id = l.any f
  | [] => rfl
  | a :: l => by simp [any_map_id f l]
theorem wholeD_eq (R : List (List Int)) (r : List Int) : wholeD R (.tuple (r.map .int)) = wholeB R r := by
  unfold wholeD wholeB
  dsimp only
  rw [any_map_id, List.length_map, show ((r.length : Int) - 1).toNat = r.length - 1 by omega]
  congr 2
  funext j
  rw [← List.map_take, List.map_map]; rfl
theorem filt_whole (R Q : List (List Int)) : (wD Q).filter (wholeD R) = wD (Q.filter (wholeB R)) := by
  unfold wD
  rw [List.filter_map]
  congr 1
  exact List.filter_congr fun r _ => wholeD_eq R r
section
variable {P : Program} {w : World} {K : PySem.W.Frag} {mg : Str → Option Value} {base : Heap} {cAE cBB cBN cBR cTL cBk cPr aBG : Addr}
def S_law (K : PySem.W.Frag) : Fs := ⟨{x : List Int // x.length ≤ 63}, 1, fun x => [.im (isS K x.1)], fun _ => rfl, fun _ => .ok (isD (.bool true))⟩
abbrev st_law : Stmt := top 45
theorem sc_law : FnScope ["script", "draws", "letters", "first", "second", "pair", "length", "due", "told", "known", "row", "at"] ["script"] (defScope st_law) := ⟨rfl, rfl, rfl, by decide +kernel, rfl, by decide +kernel, by decide +kernel⟩
theorem ok_law {f : Addr} {fd : FuncData} (T : Txt K mg cAE cBB cBN cBR cTL cBk cPr aBG) (F__law_draws : FnC P w K mg base 1 "_law_draws" (spF (S_law_draws K))) (F__law_books : FnC P w K mg base 2 "_law_books" (spF (S_lbooks))) (K_Pair : MkC P w K mg base 1 cPr "Pair" (spN cPr (S_Pair cBk cBB))) (K_Book : MkC P w K mg base 4 cBk "Book" (spN cBk (S_Book cBB))) (F__law_rows : FnC P w K mg base 2 "_law_rows" (spF (S_lrows))) (F__law_told : FnC P w K mg base 8 "_law_told" (spF (S_told cBk cPr))) (F : Fun K "law" "law" st_law f fd) : FnOk P w K mg base (L2.CX P w) 9 f fd ["script"] (spF (S_law K)) := by
  refine fn_ok F sc_law rfl fun cdv A outer s H E hr => ?_
  have tk : Takes (cxD P w K mg base ["script", "draws", "letters", "first", "second", "pair", "length", "due", "told", "known", "row", "at"] "law" st_law f cdv A outer s H E) (fun cls d _ H => E cls d H) := takes_of rfl rfl rfl rfl
  have hx := pxM tk
  have nd := sc_law.nd
  refine ⟨_, (pss_cons (ps_set (i := 1) nd rfl (Or.inl rfl) (pe_fn F__law_draws hr hx (pa_cons (pv 0) (pa_cons pe_int pa_nil))))
 (pss_cons (ps_asg (pe_fn F__law_books hr hx (pa_cons (pv 1) pa_nil)) (pg_tup rfl (pgs_cons (pg_name (i := 2) nd rfl (Or.inl rfl)) (pgs_cons (pg_name (i := 3) nd rfl (Or.inl rfl)) (pgs_cons (pg_name (i := 4) nd rfl (Or.inl rfl)) pgs_nil)))))
 (pss_cons (ps_par (i := 5) (j := 6) rfl nd rfl rfl (by decide) rfl rfl (pa_cons (pe_mk K_Pair hr hx (pa_cons (pe_mk K_Book hr hx (pa_cons (pv 2) (pa_cons (pe_callTy call_list_of (by rfl) T.no_list (by decide +kernel) (pa_cons (pv 3) pa_nil)) pa_nil))) (pa_cons (pe_mk K_Book hr hx (pa_cons (pv 2) (pa_cons (pe_callTy call_list_of (by rfl) T.no_list (by decide +kernel) (pa_cons (pv 4) pa_nil)) pa_nil))) pa_nil))) (pa_cons (pe_op op_sub (pe_ix ix_seq (pe_lst (pa_cons pe_int (pa_cons pe_int (pa_cons pe_int pa_nil)))) (pe_op op_mod (pe_callTy call_int1 (by rfl) T.no_int (by decide +kernel) (pa_cons (pe_ix ix_seq (pv 1) pe_int (fun _ _ => rfl)) pa_nil)) pe_int) (fun _ _ => rfl)) (pe_op op_mod (pe_callTy call_int1 (by rfl) T.no_int (by decide +kernel) (pa_cons (pe_ix ix_seq (pv 1) pe_int (fun _ _ => rfl)) pa_nil)) pe_int)) pa_nil)) (by rfl))
 (pss_cons (ps_set (i := 7) nd rfl (Or.inl rfl) (pe_fn F__law_rows hr hx (pa_cons (pv 3) (pa_cons (pv 4) (pa_cons (pv 6) pa_nil)))))
 (pss_cons (ps_if (pt_cmpR op_isN (pv 7) pe_non (nomark _)) (pss_one (ps_ret (pe_and (pe_cmpR (op_eqD hr.units) (pe_fn F__law_told hr hx (pa_cons (pv 5) (pa_cons (pv 6) (pa_cons pe_str pa_nil)))) (pe_tup (pa_cons pe_str (pa_cons pe_bl pa_nil))) (nomark _)) (pe_one (pe_cmpR (op_eqD hr.units) (pe_fn F__law_told hr hx (pa_cons (pv 5) (pa_cons (pv 6) (pa_cons pe_str pa_nil)))) (pe_tup (pa_cons pe_str (pa_cons pe_bl pa_nil))) (nomark _)))))) pss_nil)
 (pss_cons (ps_set (i := 8) nd rfl (Or.inl rfl) (pe_fn F__law_told hr hx (pa_cons (pv 5) (pa_cons (pv 6) (pa_cons pe_str pa_nil)))))
 (pss_cons (ps_if (PW.pt (pw_or (pt_not (pt_val (pe_callB call_isi (by rfl) T.no_isinstance (by decide +kernel) (pa_cons (pv 8) (pa_cons (pe_bltn (by rfl) T.no_list (by decide +kernel) (v := .ty "list") rfl) pa_nil))))) (pw_or1 (pt_cmpR (op_neD hr.units) (pv 8) (pv 7) (nomark _))))) (pss_one (ps_ret pe_bl)) pss_nil)
 (pss_cons (ps_set (i := 9) nd rfl (Or.inr rfl) pe_xnew)
 (pss_cons (ps_for (passes_of rfl) rfl (pi_list (pv 7)) (pg_name (i := 10) nd rfl (Or.inl rfl)) (pss_one (ps_xput (K := K) (Nat.lt_of_le_of_lt (Nat.add_le_add_left (show 1 ≤ 64 by decide) _) hr.units) (pv 9) (pv 10) pe_bl (by rfl))))
 (pss_one (ps_ret (pe_cmpR (op_eqD hr.units) (pe_fn F__law_told hr hx (pa_cons (pv 5) (pa_cons (pv 6) (pa_cons pe_str pa_nil)))) (pe_lc (own := [("row", 10)]) (g := gName 10) rfl nd (pi_list (pv 7)) (blkOk_by (N := ["script", "draws", "letters", "first", "second", "pair", "length", "due", "told", "known", "row", "at"]) (sc := defScope st_law) (by decide +kernel)) (fun _ _ _ _ _ => pg_name (i := 10) nd rfl (Or.inr rfl)) (fun _ _ _ _ _ => (pts_one (pt_not (pt_val (pe_callB (r := rAny K) (cr_any rfl) (by rfl) T.no_any (by decide +kernel) (pa_cons (pe_lc (own := [("at", 11)]) (g := gName 11) (tt := tYes) rfl nd (pi_range2 (by rfl) T.no_range (pa_cons pe_int (pa_cons (pe_callB (r := rLenK K) call_len (by rfl) T.no_len (by decide +kernel) (pa_cons (pv 10) pa_nil)) pa_nil))) (blkOk_in (N := ["script", "draws", "letters", "first", "second", "pair", "length", "due", "told", "known", "row", "at"]) (scD := defScope st_law) rfl (by decide +kernel)) (fun _ _ _ _ _ => pg_name (i := 11) nd rfl (Or.inl rfl)) (fun _ _ _ _ _ => pts_nil) (fun _ _ _ _ _ => (pe_xin (K := K) (Nat.lt_of_le_of_lt (Nat.add_le_add_left (show 1 ≤ 64 by decide) _) hr.units) (pe_slice (r := uSl K) sl_uSl (pv 10) po_none (po_some (pv 11))) (pv 9)))) pa_nil)))))) (fun _ _ _ _ _ => (pv 10))) (nomark _))))))))))))), ?_⟩
  intro x
  obtain ⟨ns, hns⟩ := x
  have hns : ns.length ≤ 63 := hns
  have hz : (sizeLine : Nat) = 16777216 := sizeLine_eq
  refine .ok ?_
  have hDl : (drawsF ns 125).length = 125 := drawsF_len (by decide)
  have hDr0 : ∀ v ∈ drawsF ns 125, Dr v := drawsF_dr (by decide)
  refine ss_seq (ss_set (P := isD (.list ((drawsF ns 125).map .int))) (sv_svl (svl_call (S := S_law_draws K) (sa_im (sv_var rfl) (sa_im sv_int sa_nil)) ⟨(ns, 125), hns, by show (0 : Int) ≤ 125; decide, by show (125 : Int) ≤ 1000; decide⟩ rfl rfl))) ?_
  generalize drawsF ns 125 = D at hDl hDr0 ⊢
  have mo : ∀ (k : Nat) {c : Int}, 0 < c → 0 ≤ atD D k % c ∧ atD D k % c < c := fun k {c} h => ⟨Int.emod_nonneg _ (by omega), Int.emod_lt_of_pos _ h⟩
  have dr : ∀ {G : Gm} {te : TE} {k : Nat}, G[1]? = some (.im (isD (.list (D.map .int)))) → k < 125 → Sv te G (isD (.int (k : Int))) → Sv (tCB cInt (tCons (tOp (rIx K) (tVar 1) te) tNil)) G (isD (.int (atD D k))) := fun {G te k} h hk ht => sv_int1 (sv_ixL (i := ((k : Nat) : Int)) (rl_sv (sv_var h)) ht (atI_ints (ds := D) (k := k) (by omega)))
  refine ss_unpEx3 (Q := BkQ) (d1 := fun x => .int x.1) (d2 := fun x => .list (wD x.2.1)) (d3 := fun x => .list (wD x.2.2)) (sv_call (S := S_lbooks) (sa_im (sv_var rfl) sa_nil) ⟨D, hDl, hDr0⟩ rfl rfl) (Nat.le_of_ble_eq_true rfl) (Nat.le_of_ble_eq_true rfl) (Nat.le_of_ble_eq_true rfl) fun x hq => ?_
  obtain ⟨m, A, B⟩ := x
  obtain ⟨hS, hm0⟩ := hq
  have hS : Small A B m := hS
  have hm0 : 0 ≤ m := hm0
  have hT := hS.two
  have hm60 := hT.m60
  have mkB : ∀ {G : Gm} {a b : TE} {W : List (List Int)}, Sv a G (isD (.int m)) → Sv b G (isD (.list (wD W))) → GoodW W m → Sv (tMk cBk (spN cBk (S_Book cBB)) (fun _ => E) (tCons a (tCons b tNil))) G (isI cBk (bookF (.int m) (wD W))) := fun {G a b W} h h' hW =>
    sv_mk (S := S_Book cBB) (sa_im h (sa_im h' sa_nil)) ⟨(.int m, .inl (.list (wD W))), hW.fits⟩ rfl (res_good _ rfl rfl (good_wD (by omega) (by omega) hW))
  have mkP : ∀ {G : Gm} {a b : TE} {X Y : List (List Int)}, Sv a G (isI cBk (bookF (.int m) (wD X))) → Sv b G (isI cBk (bookF (.int m) (wD Y))) → Sv (tMk cPr (spN cPr (S_Pair cBk cBB)) (fun _ => E) (tCons a (tCons b tNil))) G (isI cPr (pairF cBk m (wD X) m (wD Y))) := fun {G a b X Y} h h' =>
    sv_mk (S := S_Pair cBk cBB) (sa_im h (sa_im h' sa_nil)) ((m, wD X), (m, wD Y)) rfl (if_pos rfl)
  have h3 := mo 123 (c := 3) (by decide)
  have h4 := mo 124 (c := 3) (by decide)
  obtain ⟨g, hg1, hg2, hat⟩ : ∃ g : Int, 20 ≤ g ∧ g ≤ 60 ∧ atI [PyData.int 20, .int 60, .int 60] (atD D 123 % 3) = some (.int g) := by
    generalize atD D 123 % 3 = i at h3
    have : i = ((0 : Nat) : Int) ∨ i = ((1 : Nat) : Int) ∨ i = ((2 : Nat) : Int) := by omega
    rcases this with rfl | rfl | rfl
    · exact ⟨20, by decide, by decide, atI_nat rfl⟩
    · exact ⟨60, by decide, by decide, atI_nat rfl⟩
    · exact ⟨60, by decide, by decide, atI_nat rfl⟩
  refine ss_seq (ss_par (P := isI cPr (pairF cBk m (wD A) m (wD B))) (P' := isD (.int (g - atD D 124 % 3))) (mkP (mkB (sv_var rfl) (sv_svl (svl_list (rl_sv (sv_var rfl)))) hT.a) (mkB (sv_var rfl) (sv_svl (svl_list (rl_sv (sv_var rfl)))) hT.b))
    (sv_sub (sv_ixL (rl_svl (svl_lst (ds := [.int 20, .int 60, .int 60]) (sa_ims sv_int (sa_ims sv_int (sa_ims sv_int sa_nil))) (by show 3 ≤ sizeLine; omega))) (sv_mod (dr (k := 123) rfl (by omega) sv_int) sv_int (by decide)) hat) (sv_mod (dr (k := 124) rfl (by omega) sv_int) sv_int (by decide)))) ?_
  obtain ⟨n, hn, hn60⟩ : ∃ n : Nat, g - atD D 124 % 3 = (n : Int) ∧ n ≤ 60 := ⟨(g - atD D 124 % 3).toNat, by omega, by omega⟩
  rw [hn]
  clear hn hat hg1 hg2 h3 h4
  refine ss_seq (ss_set (P := isD (dueD A B n)) (sv_call (S := S_lrows) (sa_im (sv_var rfl) (sa_im (sv_var rfl) (sa_im (sv_var rfl) sa_nil))) ⟨((m, A, B), n), hS, hn60⟩ rfl rfl)) ?_
  have told : ∀ (b : Bool) {G : Gm}, G[5]? = some (.im (isI cPr (pairF cBk m (wD A) m (wD B)))) → G[6]? = some (.im (isD (.int (n : Int)))) → Sv (tCallS (spF (S_told cBk cPr)) (fun _ => E) (tCons (tVar 5) (tCons (tVar 6) (tCons (tC (.str (wrd b))) tNil)))) G (isD (toldK b A B n)) := fun b {G} e1 e2 =>
    sv_call (S := S_told cBk cPr) (sa_im (sv_var e1) (sa_im (sv_var e2) (sa_im sv_str sa_nil))) ⟨(((m, A, B), n), b), hS, hn60⟩ rfl rfl
  by_cases c : fitI A B n = true
  · have ed : dueD A B n = .list (wD (rowsI A B n)) := if_pos c
    have ek : ∀ b, toldK b A B n = .list (wD (selR b A B n)) := fun b => if_pos c
    rw [ed]
    have hl : (rowsI A B n).length ≤ 120000 := by
      have := fnd_len c
      unfold rowsI
      rw [List.length_map]
      omega
    refine ss_seq (ss_if0 (st_is (st_B (sv_isNb (d := .list (wD (rowsI A B n))) (sv_var rfl))) rfl) ss_next) ?_
    refine ss_seq (ss_set (P := isD (.list (wD (rowsI A B n)))) (sv_is (told true rfl rfl) (ek true))) ?_
    refine ss_seq (ss_if0 (st_is (st_or (b := false) (c := false) (st_is (st_not (st_B (sv_isLst (d := .list (wD (rowsI A B n))) (sv_var rfl)))) rfl) fun _ => neD (sv_var rfl) (sv_var rfl) (shaped_wD _)) rfl) ss_next) ?_
    have hlr : ∀ r ∈ rowsI A B n, r.length ≤ 60 := fun r hr => by have := (rows_mem.mp hr).2.1; omega
    have epr := prim_eq A B n
    have ekp : toldK false A B n = .list (wD ((rowsI A B n).filter (wholeB (rowsI A B n)))) := by rw [epr]; exact ek false
    generalize rowsI A B n = R at hl hlr ekp ⊢
    have lR : (wD R).length = R.length := by unfold wD; rw [List.length_map]
    let Gi : Nat → Gm := fun i => [.im (isS K ns), .im (isD (.list (D.map .int))), .im (isD (.int m)), .im (isD (.list (wD A))), .im (isD (.list (wD B))), .im (isI cPr (pairF cBk m (wD A) m (wD B))), .im (isD (.int (n : Int))), .im (isD (.list (wD R))), .im (isD (.list (wD R))), .ow (dXo P w K i (ksR R i) (fun _ => .bool true)), .no, .no]
    refine ss_seq (G1 := Gi 0) (ss_xnew (K := K) (n := 9) (fun _ => .bool true)) ?_
    refine ss_seq (ss_forL (j := 10) (ds := wD R) (sv_var rfl) Gi (wD R).length (Nat.le_refl _) (Le.refl _) (fun _ _ => Nat.le_of_ble_eq_true rfl) (fun i d hd hi => ?_) (.inl ⟨rfl, rfl⟩)) ?_
    · have hi : i < R.length := by rw [← lR]; exact hi
      have hr : R[i]? = some R[i] := List.getElem?_eq_getElem hi
      have hdw : (wD R)[i]? = some (.tuple (R[i].map .int)) := by unfold wD; rw [List.getElem?_map, hr]; rfl
      rw [hdw] at hd
      cases hd
      refine .inl (ss_nxLe (ss_xput (n := 9) (k := intKey R[i]) (f := fun _ => .bool true) rfl sv_bl (sv_pD (sv_is (sv_var rfl) (keyT_int _).symm)) (by omega)) ?_)
      show Le _ [.im (isS K ns), .im (isD (.list (D.map .int))), .im (isD (.int m)), .im (isD (.list (wD A))), .im (isD (.list (wD B))), .im (isI cPr (pairF cBk m (wD A) m (wD B))), .im (isD (.int (n : Int))), .im (isD (.list (wD R))), .im (isD (.list (wD R))), .ow (dXo P w K (i + 1) (ksR R (i + 1)) (fun _ => .bool true)), .no, .no]
      rw [ksR_succ hr]
      exact (by repeat first | exact Le.nil | refine Le.eq ?_ | refine Le.no ?_)
    · show Ss _ _ (Gi (wD R).length) _
      rw [lR]
      have hlast : Sv (tLc (iList K (tVar 7)) (gName 10) (tNot (tB (tCB (rAny K) (tCons (tLc (iRng2 (tCons (tC (.int 1)) (tCons (tCB (fun xs H Q => ∃ x n, xs = [x] ∧ LenV K x H n ∧ Q (.int n) H) (tCons (tVar 10) tNil)) tNil))) (gName 11) tYes (tXIn P w K (tSl (uSl K) (tVar 10) tNoPart (tPart (tVar 11))) (tVar 9)) [11]) tNil)))) (tVar 10) [10]) (Gi R.length) (isD (.list (wD (R.filter (wholeB R))))) := by
        refine sv_svl (svl_is (svl_lcG (K := K) (js := [10]) (ds := wD R) (rl_sv (sv_var rfl)) (fun d G => G.set 10 (.im (isD d))) (wholeD R) (fun d => d) (by rw [lR]; omega) (fun d hd => tg_name (Nat.le_of_ble_eq_true rfl)) (by decide) (fun d hd => ?_) fun d hd _ => ?_) (by rw [filt_whole, List.map_id']))
        · obtain ⟨r, hr, rfl⟩ := List.mem_map.mp hd
          have hr60 := hlr r hr
          rw [wholeD_eq]
          unfold wholeB
          rw [← any_map_id]
          refine st_not (st_B (sv_any (rl_svl (svl_is (svl_lcMapR2 (lo := 1) (hi := (r.length : Int)) sv_int (sv_is (sv_lenT (ds := r.map .int) (sv_var rfl)) (by rw [List.length_map])) ⟨by decide, by decide, by omega, by omega⟩ (fun j => .bool (memX (ksR R R.length) (intKey (r.take (j + 1))))) (Nat.le_of_ble_eq_true rfl) (by omega) fun j hj => ?_) ?_))))
          · refine sv_xin (k := intKey (r.take (j + 1))) (m := R.length) (f := fun _ => .bool true) (sv_pD (sv_is (sv_sliceT (ds := r.map .int) (sv_var rfl) so_none (so_some (sv_var rfl))) ?_)) (rx_ow rfl)
            rw [cut_take _ (by omega), keyT_int, List.map_take, show ((1 : Int) + (j : Int)).toNat = j + 1 by omega]
          · rw [List.map_map, show ((r.length : Int) - 1).toNat = r.length - 1 by omega]; rfl
        · exact sv_var rfl
      exact ss_ret (sv_is (sv_eq (sv_is (told false rfl rfl) ekp) hlast (shaped_wD _) (shaped_wD _)) (by rw [SeqAt.eqv_refl _ (SeqAt.canLay_of_shaped (shaped_wD _))]))
  · have ed : dueD A B n = .none := if_neg c
    have ek : ∀ b, toldK b A B n = .tuple [.str "refused", .bool true] := fun b => if_neg c
    rw [ed]
    have shr : SeqAt.shaped (.tuple [.str "refused", .bool true]) = true := by decide +kernel
    have eq : ∀ (b : Bool) {G : Gm}, G[5]? = some (.im (isI cPr (pairF cBk m (wD A) m (wD B)))) → G[6]? = some (.im (isD (.int (n : Int)))) → Sv (tOp (rEqD K) (tCallS (spF (S_told cBk cPr)) (fun _ => E) (tCons (tVar 5) (tCons (tVar 6) (tCons (tC (.str (wrd b))) tNil)))) (tTup (tCons (tC (.str "refused")) (tCons (tC (.bl true)) tNil)))) G (isD (.bool true)) := fun b {G} e1 e2 => sv_is (sv_eq (d := .tuple [.str "refused", .bool true]) (e := .tuple [.str "refused", .bool true]) (sv_is (told b e1 e2) (ek b)) (sv_tt sv_str sv_bl) shr shr) (by rw [SeqAt.eqv_refl _ (SeqAt.canLay_of_shaped shr)])
    exact ss_seqRt (ss_if1 (st_is (st_B (sv_isNb (d := .none) (sv_var rfl))) rfl) (ss_ret (sv_is (sv_and (b := true) (c := true) (eq true rfl rfl) fun _ => eq false rfl rfl) rfl)))
end
end K58

namespace K58
open PySem L2 Evl Mini PyProof.Rows
theorem all_mk {l : PySem.W.OpenLaw} {w : World} {K : PySem.W.Frag} {h : Heap} {mg : Str → Option Value} {fa : Addr} {cAE cBB cBN cBR cTL cBk cPr aBG : Addr} {f_law_draws f_law_cut f_law_books fPair_init fis_count fis_below fare_below f_is_word f_are_words fBook_init f_law_step f_law_rows fPair_is_even f_check_books fsigns_of fBook_word f_word_pair f_word_pairs f_behind f_size f_check_state f_steps_from f_one_longer f_rows_up_to falike_rows fprime_rows f_law_told flaw : Addr} (X : K.In h) (G : h.Ns mainGlobals mg) (hfa : mg "law" = some (.ref fa))
    {od_law_draws an_law_draws od_law_cut an_law_cut od_law_books an_law_books odPair_init anPair_init odis_count anis_count odis_below anis_below odare_below anare_below od_is_word an_is_word od_are_words an_are_words odBook_init anBook_init od_law_step an_law_step od_law_rows an_law_rows odPair_is_even anPair_is_even od_check_books an_check_books odsigns_of ansigns_of odBook_word anBook_word od_word_pair an_word_pair od_word_pairs an_word_pairs od_behind an_behind od_size an_size od_check_state an_check_state od_steps_from an_steps_from od_one_longer an_one_longer od_rows_up_to an_rows_up_to odalike_rows analike_rows odprime_rows anprime_rows od_law_told an_law_told odlaw anlaw : Option Addr} {sl_law_draws sl_law_cut sl_law_books slPair_init slis_count slis_below slare_below sl_is_word sl_are_words slBook_init sl_law_step sl_law_rows slPair_is_even sl_check_books slsigns_of slBook_word sl_word_pair sl_word_pairs sl_behind sl_size sl_check_state sl_steps_from sl_one_longer sl_rows_up_to slalike_rows slprime_rows sl_law_told sllaw : Array (Option Value)} {oc_law_draws kV_law_draws dc_law_draws pm_law_draws cd_law_draws ct_law_draws oc_law_cut kV_law_cut dc_law_cut pm_law_cut cd_law_cut ct_law_cut oc_law_books kV_law_books dc_law_books pm_law_books cd_law_books ct_law_books ocPair_init kVPair_init dcPair_init pmPair_init cdPair_init ctPair_init ocis_count kVis_count dcis_count pmis_count cdis_count ctis_count ocis_below kVis_below dcis_below pmis_below cdis_below ctis_below ocare_below kVare_below dcare_below pmare_below cdare_below ctare_below oc_is_word kV_is_word dc_is_word pm_is_word cd_is_word ct_is_word oc_are_words kV_are_words dc_are_words pm_are_words cd_are_words ct_are_words ocBook_init kVBook_init dcBook_init pmBook_init cdBook_init ctBook_init oc_law_step kV_law_step dc_law_step pm_law_step cd_law_step ct_law_step oc_law_rows kV_law_rows dc_law_rows pm_law_rows cd_law_rows ct_law_rows ocPair_is_even kVPair_is_even dcPair_is_even pmPair_is_even cdPair_is_even ctPair_is_even oc_check_books kV_check_books dc_check_books pm_check_books cd_check_books ct_check_books ocsigns_of kVsigns_of dcsigns_of pmsigns_of cdsigns_of ctsigns_of ocBook_word kVBook_word dcBook_word pmBook_word cdBook_word ctBook_word oc_word_pair kV_word_pair dc_word_pair pm_word_pair cd_word_pair ct_word_pair oc_word_pairs kV_word_pairs dc_word_pairs pm_word_pairs cd_word_pairs ct_word_pairs oc_behind kV_behind dc_behind pm_behind cd_behind ct_behind oc_size kV_size dc_size pm_size cd_size ct_size oc_check_state kV_check_state dc_check_state pm_check_state cd_check_state ct_check_state oc_steps_from kV_steps_from dc_steps_from pm_steps_from cd_steps_from ct_steps_from oc_one_longer kV_one_longer dc_one_longer pm_one_longer cd_one_longer ct_one_longer oc_rows_up_to kV_rows_up_to dc_rows_up_to pm_rows_up_to cd_rows_up_to ct_rows_up_to ocalike_rows kValike_rows dcalike_rows pmalike_rows cdalike_rows ctalike_rows ocprime_rows kVprime_rows dcprime_rows pmprime_rows cdprime_rows ctprime_rows oc_law_told kV_law_told dc_law_told pm_law_told cd_law_told ct_law_told oclaw kVlaw dclaw pmlaw cdlaw ctlaw : Value}
    {t_c_MOST_LETTERS t_c_MOST_WORDS t_c_LONGEST_WORD t_c_LONGEST_LISTED t_c_MOST_LISTED t_c_SIGNS : _}
    {t_aBG0 t_aBG1 : Tok} {n_aBG : Nat} {s_aBG : Array (Option Value)} (g_aBG : PySem.W.nsIn K mainGlobals "BEGIN" = some (some (.ref aBG)))
    (l_aBG : K.lookup aBG = some ⟨.type "tuple", none, .seq #[.str "" t_aBG0, .str "" t_aBG1] n_aBG, s_aBG⟩)
    (a_cAE : PySem.W.nsIn K mainGlobals "AlikeError" = some (some (.ref cAE)))
    (a_cBB : PySem.W.nsIn K mainGlobals "BadBook" = some (some (.ref cBB)))
    (a_cBN : PySem.W.nsIn K mainGlobals "BadNumber" = some (some (.ref cBN)))
    (a_cBR : PySem.W.nsIn K mainGlobals "BadRow" = some (some (.ref cBR)))
    (a_cTL : PySem.W.nsIn K mainGlobals "TooLong" = some (some (.ref cTL)))
    (a_cBk : PySem.W.nsIn K mainGlobals "Book" = some (some (.ref cBk)))
    (a_cPr : PySem.W.nsIn K mainGlobals "Pair" = some (some (.ref cPr)))
    (k_c_MOST_LETTERS : PySem.W.nsIn K mainGlobals "MOST_LETTERS" = some (some (.int 60 t_c_MOST_LETTERS)))
    (k_c_MOST_WORDS : PySem.W.nsIn K mainGlobals "MOST_WORDS" = some (some (.int 60 t_c_MOST_WORDS)))
    (k_c_LONGEST_WORD : PySem.W.nsIn K mainGlobals "LONGEST_WORD" = some (some (.int 5000 t_c_LONGEST_WORD)))
    (k_c_LONGEST_LISTED : PySem.W.nsIn K mainGlobals "LONGEST_LISTED" = some (some (.int 60 t_c_LONGEST_LISTED)))
    (k_c_MOST_LISTED : PySem.W.nsIn K mainGlobals "MOST_LISTED" = some (some (.int 2000 t_c_MOST_LISTED)))
    (k_c_SIGNS : PySem.W.nsIn K mainGlobals "SIGNS" = some (some (.str "0123456789ABCDEFGHIJKLMNOPQRSTUVWXYZabcdefghijklmnopqrstuvwx" t_c_SIGNS)))
    (z_isinstance : PySem.W.nsIn K mainGlobals "isinstance" = some none)
    (z_int : PySem.W.nsIn K mainGlobals "int" = some none)
    (z_bool : PySem.W.nsIn K mainGlobals "bool" = some none)
    (z_tuple : PySem.W.nsIn K mainGlobals "tuple" = some none)
    (z_list : PySem.W.nsIn K mainGlobals "list" = some none)
    (z_all : PySem.W.nsIn K mainGlobals "all" = some none)
    (z_any : PySem.W.nsIn K mainGlobals "any" = some none)
    (z_len : PySem.W.nsIn K mainGlobals "len" = some none)
    (z_abs : PySem.W.nsIn K mainGlobals "abs" = some none)
    (z_range : PySem.W.nsIn K mainGlobals "range" = some none)
    (z_min : PySem.W.nsIn K mainGlobals "min" = some none)
    (z_max : PySem.W.nsIn K mainGlobals "max" = some none)
    (z_enumerate : PySem.W.nsIn K mainGlobals "enumerate" = some none)
    (z_sum : PySem.W.nsIn K mainGlobals "sum" = some none)
    (x_cAE : PySem.W.excIn K cAE veT "ValueError.__new__" = true)
    (p_cAE : PySem.W.keepIn K (.ref cAE) = true)
    (b_cAE : PySem.W.subIn K (.ref cAE) (.type "BaseException") = some true)
    (t_cAE : PySem.W.typeIn K (.ref cAE) = some (.type "type"))
    (x_cBB : PySem.W.excIn K cBB veT "ValueError.__new__" = true)
    (p_cBB : PySem.W.keepIn K (.ref cBB) = true)
    (b_cBB : PySem.W.subIn K (.ref cBB) (.type "BaseException") = some true)
    (t_cBB : PySem.W.typeIn K (.ref cBB) = some (.type "type"))
    (x_cBN : PySem.W.excIn K cBN veT "ValueError.__new__" = true)
    (p_cBN : PySem.W.keepIn K (.ref cBN) = true)
    (b_cBN : PySem.W.subIn K (.ref cBN) (.type "BaseException") = some true)
    (t_cBN : PySem.W.typeIn K (.ref cBN) = some (.type "type"))
    (x_cBR : PySem.W.excIn K cBR veT "ValueError.__new__" = true)
    (p_cBR : PySem.W.keepIn K (.ref cBR) = true)
    (b_cBR : PySem.W.subIn K (.ref cBR) (.type "BaseException") = some true)
    (t_cBR : PySem.W.typeIn K (.ref cBR) = some (.type "type"))
    (x_cTL : PySem.W.excIn K cTL veT "ValueError.__new__" = true)
    (p_cTL : PySem.W.keepIn K (.ref cTL) = true)
    (b_cTL : PySem.W.subIn K (.ref cTL) (.type "BaseException") = some true)
    (t_cTL : PySem.W.typeIn K (.ref cTL) = some (.type "type"))
    (e6 : PySem.W.specialIn K (.builtin "object.__class__") "__get__" = some (some (.builtin "getset_descriptor.__get__")))
    (e7 : PySem.W.takesIn K (.builtin "object.__class__") = some true)
    (e1_cBB : PySem.W.findIn K (.ref cBB) "__getattribute__" = some (some (.builtin "BaseException.__getattribute__")))
    (e2_cBB : PySem.W.findIn K (.ref cBB) "__getattr__" = some none)
    (e4_cBB : PySem.W.hasDictIn K cBB = true)
    (e5_cBB : PySem.W.findIn K (.ref cBB) "__class__" = some (some (.builtin "object.__class__")))
    (e8_cBB : PySem.W.mroIn K cBB (.type "object") = some true)
    (e1_cBN : PySem.W.findIn K (.ref cBN) "__getattribute__" = some (some (.builtin "BaseException.__getattribute__")))
    (e2_cBN : PySem.W.findIn K (.ref cBN) "__getattr__" = some none)
    (e4_cBN : PySem.W.hasDictIn K cBN = true)
    (e5_cBN : PySem.W.findIn K (.ref cBN) "__class__" = some (some (.builtin "object.__class__")))
    (e8_cBN : PySem.W.mroIn K cBN (.type "object") = some true)
    (e1_cBR : PySem.W.findIn K (.ref cBR) "__getattribute__" = some (some (.builtin "BaseException.__getattribute__")))
    (e2_cBR : PySem.W.findIn K (.ref cBR) "__getattr__" = some none)
    (e4_cBR : PySem.W.hasDictIn K cBR = true)
    (e5_cBR : PySem.W.findIn K (.ref cBR) "__class__" = some (some (.builtin "object.__class__")))
    (e8_cBR : PySem.W.mroIn K cBR (.type "object") = some true)
    (e1_cTL : PySem.W.findIn K (.ref cTL) "__getattribute__" = some (some (.builtin "BaseException.__getattribute__")))
    (e2_cTL : PySem.W.findIn K (.ref cTL) "__getattr__" = some none)
    (e4_cTL : PySem.W.hasDictIn K cTL = true)
    (e5_cTL : PySem.W.findIn K (.ref cTL) "__class__" = some (some (.builtin "object.__class__")))
    (e8_cTL : PySem.W.mroIn K cTL (.type "object") = some true)
    (e4_cAE : PySem.W.hasDictIn K cAE = true)
    (s_m_cBB : PySem.W.subIn K (.ref cBB) (.ref cAE) = some true)
    (s_m_cBN : PySem.W.subIn K (.ref cBN) (.ref cAE) = some true)
    (s_m_cBR : PySem.W.subIn K (.ref cBR) (.ref cAE) = some true)
    (s_m_cTL : PySem.W.subIn K (.ref cTL) (.ref cAE) = some true)
    (s_k_cBB_cTL : PySem.W.kitOne K (.ref cBB) (.ref cTL) = some false)
    (s_k_cBN_cTL : PySem.W.kitOne K (.ref cBN) (.ref cTL) = some false)
    (s_k_cBR_cTL : PySem.W.kitOne K (.ref cBR) (.ref cTL) = some false)
    (s_k_cTL_cTL : PySem.W.kitOne K (.ref cTL) (.ref cTL) = some true)
    (pg_cBk : PySem.W.plainGet K cBk Str.empty = true)
    (hd_cBk : PySem.W.hasDictIn K cBk = true)
    (po_cBk : PySem.W.plainOver K cBk = true)
    (sa_cBk : PySem.W.findIn K (.ref cBk) "__setattr__" = some (some (.builtin "object.__setattr__")))
    (mk_cBk : PySem.W.makesIn K cBk = true)
    (kc_cBk : PySem.W.keepIn K (.ref cBk) = true)
    (pg_cPr : PySem.W.plainGet K cPr Str.empty = true)
    (hd_cPr : PySem.W.hasDictIn K cPr = true)
    (po_cPr : PySem.W.plainOver K cPr = true)
    (sa_cPr : PySem.W.findIn K (.ref cPr) "__setattr__" = some (some (.builtin "object.__setattr__")))
    (mk_cPr : PySem.W.makesIn K cPr = true)
    (kc_cPr : PySem.W.keepIn K (.ref cPr) = true)
    (n_n_cBk_letters : PySem.W.findIn K (.ref cBk) "letters" = some none)
    (n_n_cBk_size : PySem.W.findIn K (.ref cBk) "size" = some none)
    (n_n_cBk__words : PySem.W.findIn K (.ref cBk) "_words" = some none)
    (n_n_cPr_first : PySem.W.findIn K (.ref cPr) "first" = some none)
    (n_n_cPr_second : PySem.W.findIn K (.ref cPr) "second" = some none)
    (n_n_cPr_letters : PySem.W.findIn K (.ref cPr) "letters" = some none)
    (a_law_draws : PySem.W.nsIn K mainGlobals "_law_draws" = some (some (.ref f_law_draws)))
    (l_law_draws : K.lookup f_law_draws = some ⟨oc_law_draws, od_law_draws, .func (PySem.W.fnOf "_law_draws" "_law_draws" (defArgs st__law_draws) (defBody st__law_draws) (defScope st__law_draws) .none kV_law_draws dc_law_draws pm_law_draws an_law_draws cd_law_draws ct_law_draws), sl_law_draws⟩)
    (c_law_draws : PySem.W.codeIn K cd_law_draws "_law_draws" = true)
    (p_law_draws : PySem.W.keepIn K (.ref f_law_draws) = true)
    (a_law_cut : PySem.W.nsIn K mainGlobals "_law_cut" = some (some (.ref f_law_cut)))
    (l_law_cut : K.lookup f_law_cut = some ⟨oc_law_cut, od_law_cut, .func (PySem.W.fnOf "_law_cut" "_law_cut" (defArgs st__law_cut) (defBody st__law_cut) (defScope st__law_cut) .none kV_law_cut dc_law_cut pm_law_cut an_law_cut cd_law_cut ct_law_cut), sl_law_cut⟩)
    (c_law_cut : PySem.W.codeIn K cd_law_cut "_law_cut" = true)
    (p_law_cut : PySem.W.keepIn K (.ref f_law_cut) = true)
    (a_law_books : PySem.W.nsIn K mainGlobals "_law_books" = some (some (.ref f_law_books)))
    (l_law_books : K.lookup f_law_books = some ⟨oc_law_books, od_law_books, .func (PySem.W.fnOf "_law_books" "_law_books" (defArgs st__law_books) (defBody st__law_books) (defScope st__law_books) .none kV_law_books dc_law_books pm_law_books an_law_books cd_law_books ct_law_books), sl_law_books⟩)
    (c_law_books : PySem.W.codeIn K cd_law_books "_law_books" = true)
    (p_law_books : PySem.W.keepIn K (.ref f_law_books) = true)
    (aPair_init : PySem.W.findIn K (.ref cPr) "__init__" = some (some (.ref fPair_init)))
    (iPair_init : PySem.W.isFn K (.ref fPair_init) = true)
    (lPair_init : K.lookup fPair_init = some ⟨ocPair_init, odPair_init, .func (PySem.W.fnOf "__init__" "Pair.__init__" (defArgs st_Pair_init) (defBody st_Pair_init) (defScope st_Pair_init) .none kVPair_init dcPair_init pmPair_init anPair_init cdPair_init ctPair_init), slPair_init⟩)
    (cPair_init : PySem.W.codeIn K cdPair_init "Pair.__init__" = true)
    (pPair_init : PySem.W.keepIn K (.ref fPair_init) = true)
    (ais_count : PySem.W.nsIn K mainGlobals "is_count" = some (some (.ref fis_count)))
    (lis_count : K.lookup fis_count = some ⟨ocis_count, odis_count, .func (PySem.W.fnOf "is_count" "is_count" (defArgs st_is_count) (defBody st_is_count) (defScope st_is_count) .none kVis_count dcis_count pmis_count anis_count cdis_count ctis_count), slis_count⟩)
    (cis_count : PySem.W.codeIn K cdis_count "is_count" = true)
    (pis_count : PySem.W.keepIn K (.ref fis_count) = true)
    (ais_below : PySem.W.nsIn K mainGlobals "is_below" = some (some (.ref fis_below)))
    (lis_below : K.lookup fis_below = some ⟨ocis_below, odis_below, .func (PySem.W.fnOf "is_below" "is_below" (defArgs st_is_below) (defBody st_is_below) (defScope st_is_below) .none kVis_below dcis_below pmis_below anis_below cdis_below ctis_below), slis_below⟩)
    (cis_below : PySem.W.codeIn K cdis_below "is_below" = true)
    (pis_below : PySem.W.keepIn K (.ref fis_below) = true)
    (aare_below : PySem.W.nsIn K mainGlobals "are_below" = some (some (.ref fare_below)))
    (lare_below : K.lookup fare_below = some ⟨ocare_below, odare_below, .func (PySem.W.fnOf "are_below" "are_below" (defArgs st_are_below) (defBody st_are_below) (defScope st_are_below) .none kVare_below dcare_below pmare_below anare_below cdare_below ctare_below), slare_below⟩)
    (care_below : PySem.W.codeIn K cdare_below "are_below" = true)
    (pare_below : PySem.W.keepIn K (.ref fare_below) = true)
    (a_is_word : PySem.W.nsIn K mainGlobals "_is_word" = some (some (.ref f_is_word)))
    (l_is_word : K.lookup f_is_word = some ⟨oc_is_word, od_is_word, .func (PySem.W.fnOf "_is_word" "_is_word" (defArgs st__is_word) (defBody st__is_word) (defScope st__is_word) .none kV_is_word dc_is_word pm_is_word an_is_word cd_is_word ct_is_word), sl_is_word⟩)
    (c_is_word : PySem.W.codeIn K cd_is_word "_is_word" = true)
    (p_is_word : PySem.W.keepIn K (.ref f_is_word) = true)
    (a_are_words : PySem.W.nsIn K mainGlobals "_are_words" = some (some (.ref f_are_words)))
    (l_are_words : K.lookup f_are_words = some ⟨oc_are_words, od_are_words, .func (PySem.W.fnOf "_are_words" "_are_words" (defArgs st__are_words) (defBody st__are_words) (defScope st__are_words) .none kV_are_words dc_are_words pm_are_words an_are_words cd_are_words ct_are_words), sl_are_words⟩)
    (c_are_words : PySem.W.codeIn K cd_are_words "_are_words" = true)
    (p_are_words : PySem.W.keepIn K (.ref f_are_words) = true)
    (aBook_init : PySem.W.findIn K (.ref cBk) "__init__" = some (some (.ref fBook_init)))
    (iBook_init : PySem.W.isFn K (.ref fBook_init) = true)
    (lBook_init : K.lookup fBook_init = some ⟨ocBook_init, odBook_init, .func (PySem.W.fnOf "__init__" "Book.__init__" (defArgs st_Book_init) (defBody st_Book_init) (defScope st_Book_init) .none kVBook_init dcBook_init pmBook_init anBook_init cdBook_init ctBook_init), slBook_init⟩)
    (cBook_init : PySem.W.codeIn K cdBook_init "Book.__init__" = true)
    (pBook_init : PySem.W.keepIn K (.ref fBook_init) = true)
    (a_law_step : PySem.W.nsIn K mainGlobals "_law_step" = some (some (.ref f_law_step)))
    (l_law_step : K.lookup f_law_step = some ⟨oc_law_step, od_law_step, .func (PySem.W.fnOf "_law_step" "_law_step" (defArgs st__law_step) (defBody st__law_step) (defScope st__law_step) .none kV_law_step dc_law_step pm_law_step an_law_step cd_law_step ct_law_step), sl_law_step⟩)
    (c_law_step : PySem.W.codeIn K cd_law_step "_law_step" = true)
    (p_law_step : PySem.W.keepIn K (.ref f_law_step) = true)
    (a_law_rows : PySem.W.nsIn K mainGlobals "_law_rows" = some (some (.ref f_law_rows)))
    (l_law_rows : K.lookup f_law_rows = some ⟨oc_law_rows, od_law_rows, .func (PySem.W.fnOf "_law_rows" "_law_rows" (defArgs st__law_rows) (defBody st__law_rows) (defScope st__law_rows) .none kV_law_rows dc_law_rows pm_law_rows an_law_rows cd_law_rows ct_law_rows), sl_law_rows⟩)
    (c_law_rows : PySem.W.codeIn K cd_law_rows "_law_rows" = true)
    (p_law_rows : PySem.W.keepIn K (.ref f_law_rows) = true)
    (aPair_is_even : PySem.W.findIn K (.ref cPr) "is_even" = some (some (.ref fPair_is_even)))
    (iPair_is_even : PySem.W.isFn K (.ref fPair_is_even) = true)
    (lPair_is_even : K.lookup fPair_is_even = some ⟨ocPair_is_even, odPair_is_even, .func (PySem.W.fnOf "is_even" "Pair.is_even" (defArgs st_Pair_is_even) (defBody st_Pair_is_even) (defScope st_Pair_is_even) .none kVPair_is_even dcPair_is_even pmPair_is_even anPair_is_even cdPair_is_even ctPair_is_even), slPair_is_even⟩)
    (cPair_is_even : PySem.W.codeIn K cdPair_is_even "Pair.is_even" = true)
    (pPair_is_even : PySem.W.keepIn K (.ref fPair_is_even) = true)
    (a_check_books : PySem.W.nsIn K mainGlobals "_check_books" = some (some (.ref f_check_books)))
    (l_check_books : K.lookup f_check_books = some ⟨oc_check_books, od_check_books, .func (PySem.W.fnOf "_check_books" "_check_books" (defArgs st__check_books) (defBody st__check_books) (defScope st__check_books) .none kV_check_books dc_check_books pm_check_books an_check_books cd_check_books ct_check_books), sl_check_books⟩)
    (c_check_books : PySem.W.codeIn K cd_check_books "_check_books" = true)
    (p_check_books : PySem.W.keepIn K (.ref f_check_books) = true)
    (asigns_of : PySem.W.nsIn K mainGlobals "signs_of" = some (some (.ref fsigns_of)))
    (lsigns_of : K.lookup fsigns_of = some ⟨ocsigns_of, odsigns_of, .func (PySem.W.fnOf "signs_of" "signs_of" (defArgs st_signs_of) (defBody st_signs_of) (defScope st_signs_of) .none kVsigns_of dcsigns_of pmsigns_of ansigns_of cdsigns_of ctsigns_of), slsigns_of⟩)
    (csigns_of : PySem.W.codeIn K cdsigns_of "signs_of" = true)
    (psigns_of : PySem.W.keepIn K (.ref fsigns_of) = true)
    (aBook_word : PySem.W.findIn K (.ref cBk) "word" = some (some (.ref fBook_word)))
    (iBook_word : PySem.W.isFn K (.ref fBook_word) = true)
    (lBook_word : K.lookup fBook_word = some ⟨ocBook_word, odBook_word, .func (PySem.W.fnOf "word" "Book.word" (defArgs st_Book_word) (defBody st_Book_word) (defScope st_Book_word) .none kVBook_word dcBook_word pmBook_word anBook_word cdBook_word ctBook_word), slBook_word⟩)
    (cBook_word : PySem.W.codeIn K cdBook_word "Book.word" = true)
    (pBook_word : PySem.W.keepIn K (.ref fBook_word) = true)
    (a_word_pair : PySem.W.nsIn K mainGlobals "_word_pair" = some (some (.ref f_word_pair)))
    (l_word_pair : K.lookup f_word_pair = some ⟨oc_word_pair, od_word_pair, .func (PySem.W.fnOf "_word_pair" "_word_pair" (defArgs st__word_pair) (defBody st__word_pair) (defScope st__word_pair) .none kV_word_pair dc_word_pair pm_word_pair an_word_pair cd_word_pair ct_word_pair), sl_word_pair⟩)
    (c_word_pair : PySem.W.codeIn K cd_word_pair "_word_pair" = true)
    (p_word_pair : PySem.W.keepIn K (.ref f_word_pair) = true)
    (a_word_pairs : PySem.W.nsIn K mainGlobals "_word_pairs" = some (some (.ref f_word_pairs)))
    (l_word_pairs : K.lookup f_word_pairs = some ⟨oc_word_pairs, od_word_pairs, .func (PySem.W.fnOf "_word_pairs" "_word_pairs" (defArgs st__word_pairs) (defBody st__word_pairs) (defScope st__word_pairs) .none kV_word_pairs dc_word_pairs pm_word_pairs an_word_pairs cd_word_pairs ct_word_pairs), sl_word_pairs⟩)
    (c_word_pairs : PySem.W.codeIn K cd_word_pairs "_word_pairs" = true)
    (p_word_pairs : PySem.W.keepIn K (.ref f_word_pairs) = true)
    (a_behind : PySem.W.nsIn K mainGlobals "_behind" = some (some (.ref f_behind)))
    (l_behind : K.lookup f_behind = some ⟨oc_behind, od_behind, .func (PySem.W.fnOf "_behind" "_behind" (defArgs st__behind) (defBody st__behind) (defScope st__behind) .none kV_behind dc_behind pm_behind an_behind cd_behind ct_behind), sl_behind⟩)
    (c_behind : PySem.W.codeIn K cd_behind "_behind" = true)
    (p_behind : PySem.W.keepIn K (.ref f_behind) = true)
    (a_size : PySem.W.nsIn K mainGlobals "_size" = some (some (.ref f_size)))
    (l_size : K.lookup f_size = some ⟨oc_size, od_size, .func (PySem.W.fnOf "_size" "_size" (defArgs st__size) (defBody st__size) (defScope st__size) .none kV_size dc_size pm_size an_size cd_size ct_size), sl_size⟩)
    (c_size : PySem.W.codeIn K cd_size "_size" = true)
    (p_size : PySem.W.keepIn K (.ref f_size) = true)
    (a_check_state : PySem.W.nsIn K mainGlobals "_check_state" = some (some (.ref f_check_state)))
    (l_check_state : K.lookup f_check_state = some ⟨oc_check_state, od_check_state, .func (PySem.W.fnOf "_check_state" "_check_state" (defArgs st__check_state) (defBody st__check_state) (defScope st__check_state) .none kV_check_state dc_check_state pm_check_state an_check_state cd_check_state ct_check_state), sl_check_state⟩)
    (c_check_state : PySem.W.codeIn K cd_check_state "_check_state" = true)
    (p_check_state : PySem.W.keepIn K (.ref f_check_state) = true)
    (a_steps_from : PySem.W.nsIn K mainGlobals "_steps_from" = some (some (.ref f_steps_from)))
    (l_steps_from : K.lookup f_steps_from = some ⟨oc_steps_from, od_steps_from, .func (PySem.W.fnOf "_steps_from" "_steps_from" (defArgs st__steps_from) (defBody st__steps_from) (defScope st__steps_from) .none kV_steps_from dc_steps_from pm_steps_from an_steps_from cd_steps_from ct_steps_from), sl_steps_from⟩)
    (c_steps_from : PySem.W.codeIn K cd_steps_from "_steps_from" = true)
    (p_steps_from : PySem.W.keepIn K (.ref f_steps_from) = true)
    (a_one_longer : PySem.W.nsIn K mainGlobals "_one_longer" = some (some (.ref f_one_longer)))
    (l_one_longer : K.lookup f_one_longer = some ⟨oc_one_longer, od_one_longer, .func (PySem.W.fnOf "_one_longer" "_one_longer" (defArgs st__one_longer) (defBody st__one_longer) (defScope st__one_longer) .none kV_one_longer dc_one_longer pm_one_longer an_one_longer cd_one_longer ct_one_longer), sl_one_longer⟩)
    (c_one_longer : PySem.W.codeIn K cd_one_longer "_one_longer" = true)
    (p_one_longer : PySem.W.keepIn K (.ref f_one_longer) = true)
    (a_rows_up_to : PySem.W.nsIn K mainGlobals "_rows_up_to" = some (some (.ref f_rows_up_to)))
    (l_rows_up_to : K.lookup f_rows_up_to = some ⟨oc_rows_up_to, od_rows_up_to, .func (PySem.W.fnOf "_rows_up_to" "_rows_up_to" (defArgs st__rows_up_to) (defBody st__rows_up_to) (defScope st__rows_up_to) .none kV_rows_up_to dc_rows_up_to pm_rows_up_to an_rows_up_to cd_rows_up_to ct_rows_up_to), sl_rows_up_to⟩)
    (c_rows_up_to : PySem.W.codeIn K cd_rows_up_to "_rows_up_to" = true)
    (p_rows_up_to : PySem.W.keepIn K (.ref f_rows_up_to) = true)
    (aalike_rows : PySem.W.nsIn K mainGlobals "alike_rows" = some (some (.ref falike_rows)))
    (lalike_rows : K.lookup falike_rows = some ⟨ocalike_rows, odalike_rows, .func (PySem.W.fnOf "alike_rows" "alike_rows" (defArgs st_alike_rows) (defBody st_alike_rows) (defScope st_alike_rows) .none kValike_rows dcalike_rows pmalike_rows analike_rows cdalike_rows ctalike_rows), slalike_rows⟩)
    (calike_rows : PySem.W.codeIn K cdalike_rows "alike_rows" = true)
    (palike_rows : PySem.W.keepIn K (.ref falike_rows) = true)
    (aprime_rows : PySem.W.nsIn K mainGlobals "prime_rows" = some (some (.ref fprime_rows)))
    (lprime_rows : K.lookup fprime_rows = some ⟨ocprime_rows, odprime_rows, .func (PySem.W.fnOf "prime_rows" "prime_rows" (defArgs st_prime_rows) (defBody st_prime_rows) (defScope st_prime_rows) .none kVprime_rows dcprime_rows pmprime_rows anprime_rows cdprime_rows ctprime_rows), slprime_rows⟩)
    (cprime_rows : PySem.W.codeIn K cdprime_rows "prime_rows" = true)
    (pprime_rows : PySem.W.keepIn K (.ref fprime_rows) = true)
    (a_law_told : PySem.W.nsIn K mainGlobals "_law_told" = some (some (.ref f_law_told)))
    (l_law_told : K.lookup f_law_told = some ⟨oc_law_told, od_law_told, .func (PySem.W.fnOf "_law_told" "_law_told" (defArgs st__law_told) (defBody st__law_told) (defScope st__law_told) .none kV_law_told dc_law_told pm_law_told an_law_told cd_law_told ct_law_told), sl_law_told⟩)
    (c_law_told : PySem.W.codeIn K cd_law_told "_law_told" = true)
    (p_law_told : PySem.W.keepIn K (.ref f_law_told) = true)
    (alaw : PySem.W.nsIn K mainGlobals "law" = some (some (.ref flaw)))
    (llaw : K.lookup flaw = some ⟨oclaw, odlaw, .func (PySem.W.fnOf "law" "law" (defArgs st_law) (defBody st_law) (defScope st_law) .none kVlaw dclaw pmlaw anlaw cdlaw ctlaw), sllaw⟩)
    (claw : PySem.W.codeIn K cdlaw "law" = true)
    (plaw : PySem.W.keepIn K (.ref flaw) = true) :
    ∃ fd : FuncData, (∀ (s : Shared) (u : Value), BindsTo s fd ⟨[u], []⟩ [("script", u)]) ∧ ∀ base : Heap, K.In base → base.Ns mainGlobals mg → FnOk l.prog w K mg base (L2.CX l.prog w) 9 fa fd ["script"] (spF (S_law K)) := by
  have e := hfa.symm.trans (PySem.W.mg_of X G alaw)
  cases e
  have T : Txt K mg cAE cBB cBN cBR cTL cBk cPr aBG := { no_isinstance := PySem.W.mg_none_of X G z_isinstance, no_int := PySem.W.mg_none_of X G z_int, no_bool := PySem.W.mg_none_of X G z_bool, no_tuple := PySem.W.mg_none_of X G z_tuple, no_list := PySem.W.mg_none_of X G z_list, no_all := PySem.W.mg_none_of X G z_all, no_any := PySem.W.mg_none_of X G z_any, no_len := PySem.W.mg_none_of X G z_len, no_abs := PySem.W.mg_none_of X G z_abs, no_range := PySem.W.mg_none_of X G z_range, no_min := PySem.W.mg_none_of X G z_min, no_max := PySem.W.mg_none_of X G z_max, no_enumerate := PySem.W.mg_none_of X G z_enumerate, no_sum := PySem.W.mg_none_of X G z_sum, c_MOST_LETTERS := ⟨_, PySem.W.mg_of X G k_c_MOST_LETTERS, ⟨_, rfl⟩⟩, c_MOST_WORDS := ⟨_, PySem.W.mg_of X G k_c_MOST_WORDS, ⟨_, rfl⟩⟩, c_LONGEST_WORD := ⟨_, PySem.W.mg_of X G k_c_LONGEST_WORD, ⟨_, rfl⟩⟩, c_LONGEST_LISTED := ⟨_, PySem.W.mg_of X G k_c_LONGEST_LISTED, ⟨_, rfl⟩⟩, c_MOST_LISTED := ⟨_, PySem.W.mg_of X G k_c_MOST_LISTED, ⟨_, rfl⟩⟩, c_SIGNS := ⟨_, PySem.W.mg_of X G k_c_SIGNS, ⟨_, rfl⟩⟩, e_AlikeError := ⟨PySem.W.mg_of X G a_cAE, x_cAE, p_cAE, b_cAE, t_cAE⟩, e_BadBook := ⟨PySem.W.mg_of X G a_cBB, x_cBB, p_cBB, b_cBB, t_cBB⟩, e_BadNumber := ⟨PySem.W.mg_of X G a_cBN, x_cBN, p_cBN, b_cBN, t_cBN⟩, e_BadRow := ⟨PySem.W.mg_of X G a_cBR, x_cBR, p_cBR, b_cBR, t_cBR⟩, e_TooLong := ⟨PySem.W.mg_of X G a_cTL, x_cTL, p_cTL, b_cTL, t_cTL⟩, x_cBB := ⟨e1_cBB, e2_cBB, b_cBB, e4_cBB, e5_cBB, e6, e7, e8_cBB⟩, x_cBN := ⟨e1_cBN, e2_cBN, b_cBN, e4_cBN, e5_cBN, e6, e7, e8_cBN⟩, x_cBR := ⟨e1_cBR, e2_cBR, b_cBR, e4_cBR, e5_cBR, e6, e7, e8_cBR⟩, x_cTL := ⟨e1_cTL, e2_cTL, b_cTL, e4_cTL, e5_cTL, e6, e7, e8_cTL⟩, m_cBB := PySem.W.exm_ref b_cAE e4_cAE t_cAE s_m_cBB, m_cBN := PySem.W.exm_ref b_cAE e4_cAE t_cAE s_m_cBN, m_cBR := PySem.W.exm_ref b_cAE e4_cAE t_cAE s_m_cBR, m_cTL := PySem.W.exm_ref b_cAE e4_cAE t_cAE s_m_cTL, k_cBB_cTL := s_k_cBB_cTL, k_cBN_cTL := s_k_cBN_cTL, k_cBR_cTL := s_k_cBR_cTL, k_cTL_cTL := s_k_cTL_cTL, cl_cBk := ⟨pg_cBk, hd_cBk, po_cBk, sa_cBk⟩, cl_cPr := ⟨pg_cPr, hd_cPr, po_cPr, sa_cPr⟩, c_BEGIN := ⟨_, PySem.W.mg_of X G g_aBG, rfl⟩, kt_aBG := ⟨_, _, _, l_aBG, Nat.le_of_ble_eq_true rfl, (.cons ⟨_, rfl⟩ (.cons ⟨_, rfl⟩ .nil))⟩, n_cBk_letters := n_n_cBk_letters, n_cBk_size := n_n_cBk_size, n_cBk__words := n_n_cBk__words, n_cPr_first := n_n_cPr_first, n_cPr_second := n_n_cPr_second, n_cPr_letters := n_n_cPr_letters }
  have F_law_draws := fun_mk (st := st__law_draws) l_law_draws c_law_draws p_law_draws
  have b_law_draws := F_law_draws.binds (ps := ["script", "many"]) fun _ _ _ _ _ _ us hl => match us, hl with | [_, _], _ => rfl
  have F_law_cut := fun_mk (st := st__law_cut) l_law_cut c_law_cut p_law_cut
  have b_law_cut := F_law_cut.binds (ps := ["text", "draws", "many"]) fun _ _ _ _ _ _ us hl => match us, hl with | [_, _, _], _ => rfl
  have F_law_books := fun_mk (st := st__law_books) l_law_books c_law_books p_law_books
  have b_law_books := F_law_books.binds (ps := ["draws"]) fun _ _ _ _ _ _ us hl => match us, hl with | [_], _ => rfl
  have FPair_init := fun_mk (st := st_Pair_init) lPair_init cPair_init pPair_init
  have bPair_init := FPair_init.binds (ps := ["self", "first", "second"]) fun _ _ _ _ _ _ us hl => match us, hl with | [_, _, _], _ => rfl
  have Fis_count := fun_mk (st := st_is_count) lis_count cis_count pis_count
  have bis_count := Fis_count.binds (ps := ["value"]) fun _ _ _ _ _ _ us hl => match us, hl with | [_], _ => rfl
  have Fis_below := fun_mk (st := st_is_below) lis_below cis_below pis_below
  have bis_below := Fis_below.binds (ps := ["value", "end"]) fun _ _ _ _ _ _ us hl => match us, hl with | [_, _], _ => rfl
  have Fare_below := fun_mk (st := st_are_below) lare_below care_below pare_below
  have bare_below := Fare_below.binds (ps := ["value", "end"]) fun _ _ _ _ _ _ us hl => match us, hl with | [_, _], _ => rfl
  have F_is_word := fun_mk (st := st__is_word) l_is_word c_is_word p_is_word
  have b_is_word := F_is_word.binds (ps := ["value", "letters"]) fun _ _ _ _ _ _ us hl => match us, hl with | [_, _], _ => rfl
  have F_are_words := fun_mk (st := st__are_words) l_are_words c_are_words p_are_words
  have b_are_words := F_are_words.binds (ps := ["value", "letters"]) fun _ _ _ _ _ _ us hl => match us, hl with | [_, _], _ => rfl
  have FBook_init := fun_mk (st := st_Book_init) lBook_init cBook_init pBook_init
  have bBook_init := FBook_init.binds (ps := ["self", "letters", "words"]) fun _ _ _ _ _ _ us hl => match us, hl with | [_, _, _], _ => rfl
  have F_law_step := fun_mk (st := st__law_step) l_law_step c_law_step p_law_step
  have b_law_step := F_law_step.binds (ps := ["first", "second", "rest", "number"]) fun _ _ _ _ _ _ us hl => match us, hl with | [_, _, _, _], _ => rfl
  have F_law_rows := fun_mk (st := st__law_rows) l_law_rows c_law_rows p_law_rows
  have b_law_rows := F_law_rows.binds (ps := ["first", "second", "length"]) fun _ _ _ _ _ _ us hl => match us, hl with | [_, _, _], _ => rfl
  have FPair_is_even := fun_mk (st := st_Pair_is_even) lPair_is_even cPair_is_even pPair_is_even
  have bPair_is_even := FPair_is_even.binds (ps := ["self"]) fun _ _ _ _ _ _ us hl => match us, hl with | [_], _ => rfl
  have F_check_books := fun_mk (st := st__check_books) l_check_books c_check_books p_check_books
  have b_check_books := F_check_books.binds (ps := ["pair"]) fun _ _ _ _ _ _ us hl => match us, hl with | [_], _ => rfl
  have Fsigns_of := fun_mk (st := st_signs_of) lsigns_of csigns_of psigns_of
  have bsigns_of := Fsigns_of.binds (ps := ["word"]) fun _ _ _ _ _ _ us hl => match us, hl with | [_], _ => rfl
  have FBook_word := fun_mk (st := st_Book_word) lBook_word cBook_word pBook_word
  have bBook_word := FBook_word.binds (ps := ["self", "number"]) fun _ _ _ _ _ _ us hl => match us, hl with | [_, _], _ => rfl
  have F_word_pair := fun_mk (st := st__word_pair) l_word_pair c_word_pair p_word_pair
  have b_word_pair := F_word_pair.binds (ps := ["pair", "number"]) fun _ _ _ _ _ _ us hl => match us, hl with | [_, _], _ => rfl
  have F_word_pairs := fun_mk (st := st__word_pairs) l_word_pairs c_word_pairs p_word_pairs
  have b_word_pairs := F_word_pairs.binds (ps := ["pair"]) fun _ _ _ _ _ _ us hl => match us, hl with | [_], _ => rfl
  have F_behind := fun_mk (st := st__behind) l_behind c_behind p_behind
  have b_behind := F_behind.binds (ps := ["state", "first", "second"]) fun _ _ _ _ _ _ us hl => match us, hl with | [_, _, _], _ => rfl
  have F_size := fun_mk (st := st__size) l_size c_size p_size
  have b_size := F_size.binds (ps := ["state"]) fun _ _ _ _ _ _ us hl => match us, hl with | [_], _ => rfl
  have F_check_state := fun_mk (st := st__check_state) l_check_state c_check_state p_check_state
  have b_check_state := F_check_state.binds (ps := ["state"]) fun _ _ _ _ _ _ us hl => match us, hl with | [_], _ => rfl
  have F_steps_from := fun_mk (st := st__steps_from) l_steps_from c_steps_from p_steps_from
  have b_steps_from := F_steps_from.binds (ps := ["state", "words"]) fun _ _ _ _ _ _ us hl => match us, hl with | [_, _], _ => rfl
  have F_one_longer := fun_mk (st := st__one_longer) l_one_longer c_one_longer p_one_longer
  have b_one_longer := F_one_longer.binds (ps := ["rows", "words", "steps"]) fun _ _ _ _ _ _ us hl => match us, hl with | [_, _, _], _ => rfl
  have F_rows_up_to := fun_mk (st := st__rows_up_to) l_rows_up_to c_rows_up_to p_rows_up_to
  have b_rows_up_to := F_rows_up_to.binds (ps := ["pair", "length"]) fun _ _ _ _ _ _ us hl => match us, hl with | [_, _], _ => rfl
  have Falike_rows := fun_mk (st := st_alike_rows) lalike_rows calike_rows palike_rows
  have balike_rows := Falike_rows.binds (ps := ["pair", "length"]) fun _ _ _ _ _ _ us hl => match us, hl with | [_, _], _ => rfl
  have Fprime_rows := fun_mk (st := st_prime_rows) lprime_rows cprime_rows pprime_rows
  have bprime_rows := Fprime_rows.binds (ps := ["pair", "length"]) fun _ _ _ _ _ _ us hl => match us, hl with | [_, _], _ => rfl
  have F_law_told := fun_mk (st := st__law_told) l_law_told c_law_told p_law_told
  have b_law_told := F_law_told.binds (ps := ["pair", "length", "word"]) fun _ _ _ _ _ _ us hl => match us, hl with | [_, _, _], _ => rfl
  have Flaw := fun_mk (st := st_law) llaw claw plaw
  refine ⟨PySem.W.fnOf "law" "law" (defArgs st_law) (defBody st_law) (defScope st_law) .none kVlaw dclaw pmlaw anlaw cdlaw ctlaw, fun s u => .of_eq rfl, fun base _ _ => ?_⟩
  have C_law_draws : FnC l.prog w K mg base 1 "_law_draws" (spF (S_law_draws K)) := ⟨⟨_, _, _, ok__law_draws T  F_law_draws, PySem.W.mg_of X G a_law_draws, p_law_draws, b_law_draws⟩⟩
  have C_law_cut : FnC l.prog w K mg base 1 "_law_cut" (spF (S_lcut)) := ⟨⟨_, _, _, ok__law_cut T  F_law_cut, PySem.W.mg_of X G a_law_cut, p_law_cut, b_law_cut⟩⟩
  have C_law_books : FnC l.prog w K mg base 2 "_law_books" (spF (S_lbooks)) := ⟨⟨_, _, _, ok__law_books T C_law_cut F_law_books, PySem.W.mg_of X G a_law_books, p_law_books, b_law_books⟩⟩
  have CPair_init : MkC l.prog w K mg base 1 cPr "Pair" (spN cPr (S_Pair cBk cBB)) := ⟨⟨_, _, _, ok_Pair_init T  FPair_init, ⟨mk_cPr, aPair_init, iPair_init, kc_cPr⟩, PySem.W.mg_of X G a_cPr, bPair_init⟩⟩
  have Cis_count : FnC l.prog w K mg base 1 "is_count" (spF (S_is_count)) := ⟨⟨_, _, _, ok_is_count T  Fis_count, PySem.W.mg_of X G ais_count, pis_count, bis_count⟩⟩
  have Cis_below : FnC l.prog w K mg base 2 "is_below" (spF (S_is_below)) := ⟨⟨_, _, _, ok_is_below T Cis_count Fis_below, PySem.W.mg_of X G ais_below, pis_below, bis_below⟩⟩
  have Care_below : FnC l.prog w K mg base 1 "are_below" (spF (S_are_below)) := ⟨⟨_, _, _, ok_are_below T  Fare_below, PySem.W.mg_of X G aare_below, pare_below, bare_below⟩⟩
  have C_is_word : FnC l.prog w K mg base 2 "_is_word" (spF (S_is_word)) := ⟨⟨_, _, _, ok__is_word T Care_below F_is_word, PySem.W.mg_of X G a_is_word, p_is_word, b_is_word⟩⟩
  have C_are_words : FnC l.prog w K mg base 3 "_are_words" (spF (S_are_words)) := ⟨⟨_, _, _, ok__are_words T C_is_word F_are_words, PySem.W.mg_of X G a_are_words, p_are_words, b_are_words⟩⟩
  have CBook_init : MkC l.prog w K mg base 4 cBk "Book" (spN cBk (S_Book cBB)) := ⟨⟨_, _, _, ok_Book_init T Cis_below C_are_words FBook_init, ⟨mk_cBk, aBook_init, iBook_init, kc_cBk⟩, PySem.W.mg_of X G a_cBk, bBook_init⟩⟩
  have C_law_step : FnC l.prog w K mg base 1 "_law_step" (spF (S_lstep)) := ⟨⟨_, _, _, ok__law_step T  F_law_step, PySem.W.mg_of X G a_law_step, p_law_step, b_law_step⟩⟩
  have C_law_rows : FnC l.prog w K mg base 2 "_law_rows" (spF (S_lrows)) := ⟨⟨_, _, _, ok__law_rows T C_law_step F_law_rows, PySem.W.mg_of X G a_law_rows, p_law_rows, b_law_rows⟩⟩
  have CPair_is_even : MtC l.prog w K mg base 1 cPr "is_even" (spF (S_is_even cBk cPr)) := ⟨⟨_, _, _, ok_Pair_is_even T  FPair_is_even, T.cl_cPr, ⟨aPair_is_even, iPair_is_even, pPair_is_even⟩, bPair_is_even⟩⟩
  have C_check_books : FnC l.prog w K mg base 2 "_check_books" (spF (S_check_books cBk cPr cBB)) := ⟨⟨_, _, _, ok__check_books T CPair_is_even F_check_books, PySem.W.mg_of X G a_check_books, p_check_books, b_check_books⟩⟩
  have Csigns_of : FnC l.prog w K mg base 1 "signs_of" (spF (S_signs_of)) := ⟨⟨_, _, _, ok_signs_of T  Fsigns_of, PySem.W.mg_of X G asigns_of, psigns_of, bsigns_of⟩⟩
  have CBook_word : MtC l.prog w K mg base 3 cBk "word" (spF (S_word cBk cBN)) := ⟨⟨_, _, _, ok_Book_word T Cis_below FBook_word, T.cl_cBk, ⟨aBook_word, iBook_word, pBook_word⟩, bBook_word⟩⟩
  have C_word_pair : FnC l.prog w K mg base 4 "_word_pair" (spF (S_word_pair cBk cPr)) := ⟨⟨_, _, _, ok__word_pair T Csigns_of CBook_word F_word_pair, PySem.W.mg_of X G a_word_pair, p_word_pair, b_word_pair⟩⟩
  have C_word_pairs : FnC l.prog w K mg base 5 "_word_pairs" (spF (S_word_pairs cBk cPr)) := ⟨⟨_, _, _, ok__word_pairs T C_word_pair F_word_pairs, PySem.W.mg_of X G a_word_pairs, p_word_pairs, b_word_pairs⟩⟩
  have C_behind : FnC l.prog w K mg base 1 "_behind" (spF (S_behind K)) := ⟨⟨_, _, _, ok__behind T  F_behind, PySem.W.mg_of X G a_behind, p_behind, b_behind⟩⟩
  have C_size : FnC l.prog w K mg base 1 "_size" (spF (S_size K)) := ⟨⟨_, _, _, ok__size T  F_size, PySem.W.mg_of X G a_size, p_size, b_size⟩⟩
  have C_check_state : FnC l.prog w K mg base 2 "_check_state" (spF (S_check_state K cTL)) := ⟨⟨_, _, _, ok__check_state T C_size F_check_state, PySem.W.mg_of X G a_check_state, p_check_state, b_check_state⟩⟩
  have C_steps_from : FnC l.prog w K mg base 3 "_steps_from" (spF (S_steps_from K)) := ⟨⟨_, _, _, ok__steps_from T C_behind C_check_state F_steps_from, PySem.W.mg_of X G a_steps_from, p_steps_from, b_steps_from⟩⟩
  have C_one_longer : FnC l.prog w K mg base 4 "_one_longer" (spM (S_one_longer l.prog w K cTL)) := ⟨⟨_, _, _, ok__one_longer T C_steps_from F_one_longer, PySem.W.mg_of X G a_one_longer, p_one_longer, b_one_longer⟩⟩
  have C_rows_up_to : FnC l.prog w K mg base 6 "_rows_up_to" (spF (S_rows_up_to cBk cPr cTL)) := ⟨⟨_, _, _, ok__rows_up_to T C_check_books Cis_below C_word_pairs C_one_longer F_rows_up_to, PySem.W.mg_of X G a_rows_up_to, p_rows_up_to, b_rows_up_to⟩⟩
  have Calike_rows : FnC l.prog w K mg base 7 "alike_rows" (spF (S_alike cBk cPr cTL)) := ⟨⟨_, _, _, ok_alike_rows T C_rows_up_to Falike_rows, PySem.W.mg_of X G aalike_rows, palike_rows, balike_rows⟩⟩
  have Cprime_rows : FnC l.prog w K mg base 7 "prime_rows" (spF (S_prime cBk cPr cTL)) := ⟨⟨_, _, _, ok_prime_rows T C_rows_up_to Fprime_rows, PySem.W.mg_of X G aprime_rows, pprime_rows, bprime_rows⟩⟩
  have C_law_told : FnC l.prog w K mg base 8 "_law_told" (spF (S_told cBk cPr)) := ⟨⟨_, _, _, ok__law_told T Calike_rows Cprime_rows F_law_told, PySem.W.mg_of X G a_law_told, p_law_told, b_law_told⟩⟩
  exact ok_law T C_law_draws C_law_books CPair_init CBook_init C_law_rows C_law_told Flaw
theorem walk {l : PySem.W.OpenLaw} {q : Program} {loose : List Str} {XP : (Str → Option Value) → Heap → Prop} {YP : World → Heap → Prop} {d : DefRec} {K : Params → PySem.W.Frag} (hn : l.most = some 63) (hdf : d.params.defaults = [])
    (hY : ∀ (w : World) (h : Heap), YP w h → (K w.params).In h)
    (F : ∀ (w : World) (mg : Str → Option Value) (fa : Addr) (h : Heap), (K w.params).In h → h.Ns mainGlobals mg → mg d.name = some (.ref fa) →
      ∃ fd : FuncData, (∀ (s : Shared) (u : Value), BindsTo s fd ⟨[u], []⟩ [("script", u)]) ∧ ∀ base : Heap, (K w.params).In base → base.Ns mainGlobals mg → FnOk l.prog w (K w.params) mg base (L2.CX l.prog w) 9 fa fd ["script"] (spF (S_law (K w.params)))) :
    PySem.W.WalkO q loose XP YP l.row.toRowW d [] (fun f vs => PySem.call f vs) := by
  refine L2.walk_of (n := 63) (k := 9) (x := "script") (CX := fun w => L2.CX l.prog w) (sp := fun w => spF (S_law (K w.params))) hn (by decide) hdf ⟨rfl, by decide, by decide⟩ hY F (fun w H a ns hl _ hS => ?_) fun w H s e s' z => ?_
  · exact ⟨⟨ns, hl⟩, H, fun _ => none, rfl, fun _ _ _ => rfl, .cons ⟨a, rfl, hS⟩ .nil, fun v B' _ _ hv => dp_bool hv⟩
  · obtain ⟨a, B, H', cls, d, _, _, _, _, _, _, _, q⟩ := z
    exact q
end K58

open PySem PySem.W PyProof.Rows in
set_option maxRecDepth 100000 in
set_option maxHeartbeats 0 in
theorem PySem.Challenge.cw_alikeread_k58_alike_rows_to_sixty_holds : PySem.Challenge.rw_alikeread_k58_alike_rows_to_sixty.Holds := by
  w_on; o_law; k_head; (case hw => w_witness2)
  k_fill
  refine K58.walk (l := PySem.Challenge.rw_alikeread_k58_alike_rows_to_sixty) rfl rfl (fun w h Y => PySem.W.kIn_of Y) ?F
  case F =>
    intro w mg fa h KX G hmg
    refine' K58.all_mk KX G hmg ?g_aBG ?l_aBG ?a_cAE ?a_cBB ?a_cBN ?a_cBR ?a_cTL ?a_cBk ?a_cPr ?k_c_MOST_LETTERS ?k_c_MOST_WORDS ?k_c_LONGEST_WORD ?k_c_LONGEST_LISTED ?k_c_MOST_LISTED ?k_c_SIGNS ?z_isinstance ?z_int ?z_bool ?z_tuple ?z_list ?z_all ?z_any ?z_len ?z_abs ?z_range ?z_min ?z_max ?z_enumerate ?z_sum ?x_cAE ?p_cAE ?b_cAE ?t_cAE ?x_cBB ?p_cBB ?b_cBB ?t_cBB ?x_cBN ?p_cBN ?b_cBN ?t_cBN ?x_cBR ?p_cBR ?b_cBR ?t_cBR ?x_cTL ?p_cTL ?b_cTL ?t_cTL ?e6 ?e7 ?e1_cBB ?e2_cBB ?e4_cBB ?e5_cBB ?e8_cBB ?e1_cBN ?e2_cBN ?e4_cBN ?e5_cBN ?e8_cBN ?e1_cBR ?e2_cBR ?e4_cBR ?e5_cBR ?e8_cBR ?e1_cTL ?e2_cTL ?e4_cTL ?e5_cTL ?e8_cTL ?e4_cAE ?s_m_cBB ?s_m_cBN ?s_m_cBR ?s_m_cTL ?s_k_cBB_cTL ?s_k_cBN_cTL ?s_k_cBR_cTL ?s_k_cTL_cTL ?pg_cBk ?hd_cBk ?po_cBk ?sa_cBk ?mk_cBk ?kc_cBk ?pg_cPr ?hd_cPr ?po_cPr ?sa_cPr ?mk_cPr ?kc_cPr ?n_n_cBk_letters ?n_n_cBk_size ?n_n_cBk__words ?n_n_cPr_first ?n_n_cPr_second ?n_n_cPr_letters ?a_law_draws ?l_law_draws ?c_law_draws ?p_law_draws ?a_law_cut ?l_law_cut ?c_law_cut ?p_law_cut ?a_law_books ?l_law_books ?c_law_books ?p_law_books ?aPair_init ?iPair_init ?lPair_init ?cPair_init ?pPair_init ?ais_count ?lis_count ?cis_count ?pis_count ?ais_below ?lis_below ?cis_below ?pis_below ?aare_below ?lare_below ?care_below ?pare_below ?a_is_word ?l_is_word ?c_is_word ?p_is_word ?a_are_words ?l_are_words ?c_are_words ?p_are_words ?aBook_init ?iBook_init ?lBook_init ?cBook_init ?pBook_init ?a_law_step ?l_law_step ?c_law_step ?p_law_step ?a_law_rows ?l_law_rows ?c_law_rows ?p_law_rows ?aPair_is_even ?iPair_is_even ?lPair_is_even ?cPair_is_even ?pPair_is_even ?a_check_books ?l_check_books ?c_check_books ?p_check_books ?asigns_of ?lsigns_of ?csigns_of ?psigns_of ?aBook_word ?iBook_word ?lBook_word ?cBook_word ?pBook_word ?a_word_pair ?l_word_pair ?c_word_pair ?p_word_pair ?a_word_pairs ?l_word_pairs ?c_word_pairs ?p_word_pairs ?a_behind ?l_behind ?c_behind ?p_behind ?a_size ?l_size ?c_size ?p_size ?a_check_state ?l_check_state ?c_check_state ?p_check_state ?a_steps_from ?l_steps_from ?c_steps_from ?p_steps_from ?a_one_longer ?l_one_longer ?c_one_longer ?p_one_longer ?a_rows_up_to ?l_rows_up_to ?c_rows_up_to ?p_rows_up_to ?aalike_rows ?lalike_rows ?calike_rows ?palike_rows ?aprime_rows ?lprime_rows ?cprime_rows ?pprime_rows ?a_law_told ?l_law_told ?c_law_told ?p_law_told ?alaw ?llaw ?claw ?plaw
    (case g_aBG => k_is)
    (case l_aBG => k_is)
    (case a_cAE => k_is)
    (case a_cBB => k_is)
    (case a_cBN => k_is)
    (case a_cBR => k_is)
    (case a_cTL => k_is)
    (case a_cBk => k_is)
    (case a_cPr => k_is)
    (case k_c_MOST_LETTERS => k_is)
    (case k_c_MOST_WORDS => k_is)
    (case k_c_LONGEST_WORD => k_is)
    (case k_c_LONGEST_LISTED => k_is)
    (case k_c_MOST_LISTED => k_is)
    (case k_c_SIGNS => k_is)
    (case z_isinstance => k_is)
    (case z_int => k_is)
    (case z_bool => k_is)
    (case z_tuple => k_is)
    (case z_list => k_is)
    (case z_all => k_is)
    (case z_any => k_is)
    (case z_len => k_is)
    (case z_abs => k_is)
    (case z_range => k_is)
    (case z_min => k_is)
    (case z_max => k_is)
    (case z_enumerate => k_is)
    (case z_sum => k_is)
    (case x_cAE => k_exc)
    (case p_cAE => k_is)
    (case b_cAE => k_is)
    (case t_cAE => k_is)
    (case x_cBB => k_exc)
    (case p_cBB => k_is)
    (case b_cBB => k_is)
    (case t_cBB => k_is)
    (case x_cBN => k_exc)
    (case p_cBN => k_is)
    (case b_cBN => k_is)
    (case t_cBN => k_is)
    (case x_cBR => k_exc)
    (case p_cBR => k_is)
    (case b_cBR => k_is)
    (case t_cBR => k_is)
    (case x_cTL => k_exc)
    (case p_cTL => k_is)
    (case b_cTL => k_is)
    (case t_cTL => k_is)
    (case e6 => k_is)
    (case e7 => k_is)
    (case e1_cBB => k_is)
    (case e2_cBB => k_is)
    (case e4_cBB => k_is)
    (case e5_cBB => k_is)
    (case e8_cBB => k_is)
    (case e1_cBN => k_is)
    (case e2_cBN => k_is)
    (case e4_cBN => k_is)
    (case e5_cBN => k_is)
    (case e8_cBN => k_is)
    (case e1_cBR => k_is)
    (case e2_cBR => k_is)
    (case e4_cBR => k_is)
    (case e5_cBR => k_is)
    (case e8_cBR => k_is)
    (case e1_cTL => k_is)
    (case e2_cTL => k_is)
    (case e4_cTL => k_is)
    (case e5_cTL => k_is)
    (case e8_cTL => k_is)
    (case e4_cAE => k_is)
    (case s_m_cBB => (first | rfl | k_is))
    (case s_m_cBN => (first | rfl | k_is))
    (case s_m_cBR => (first | rfl | k_is))
    (case s_m_cTL => (first | rfl | k_is))
    (case s_k_cBB_cTL => (first | rfl | k_is))
    (case s_k_cBN_cTL => (first | rfl | k_is))
    (case s_k_cBR_cTL => (first | rfl | k_is))
    (case s_k_cTL_cTL => (first | rfl | k_is))
    (case pg_cBk => k_is)
    (case hd_cBk => k_is)
    (case po_cBk => k_is)
    (case sa_cBk => k_is)
    (case mk_cBk => k_is)
    (case kc_cBk => k_is)
    (case pg_cPr => k_is)
    (case hd_cPr => k_is)
    (case po_cPr => k_is)
    (case sa_cPr => k_is)
    (case mk_cPr => k_is)
    (case kc_cPr => k_is)
    (case n_n_cBk_letters => k_is)
    (case n_n_cBk_size => k_is)
    (case n_n_cBk__words => k_is)
    (case n_n_cPr_first => k_is)
    (case n_n_cPr_second => k_is)
    (case n_n_cPr_letters => k_is)
    (case a_law_draws => k_is)
    (case l_law_draws => k_is)
    (case c_law_draws => k_is)
    (case p_law_draws => k_is)
    (case a_law_cut => k_is)
    (case l_law_cut => k_is)
    (case c_law_cut => k_is)
    (case p_law_cut => k_is)
    (case a_law_books => k_is)
    (case l_law_books => k_is)
    (case c_law_books => k_is)
    (case p_law_books => k_is)
    (case aPair_init => k_is)
    (case iPair_init => k_is)
    (case lPair_init => k_is)
    (case cPair_init => k_is)
    (case pPair_init => k_is)
    (case ais_count => k_is)
    (case lis_count => k_is)
    (case cis_count => k_is)
    (case pis_count => k_is)
    (case ais_below => k_is)
    (case lis_below => k_is)
    (case cis_below => k_is)
    (case pis_below => k_is)
    (case aare_below => k_is)
    (case lare_below => k_is)
    (case care_below => k_is)
    (case pare_below => k_is)
    (case a_is_word => k_is)
    (case l_is_word => k_is)
    (case c_is_word => k_is)
    (case p_is_word => k_is)
    (case a_are_words => k_is)
    (case l_are_words => k_is)
    (case c_are_words => k_is)
    (case p_are_words => k_is)
    (case aBook_init => k_is)
    (case iBook_init => k_is)
    (case lBook_init => k_is)
    (case cBook_init => k_is)
    (case pBook_init => k_is)
    (case a_law_step => k_is)
    (case l_law_step => k_is)
    (case c_law_step => k_is)
    (case p_law_step => k_is)
    (case a_law_rows => k_is)
    (case l_law_rows => k_is)
    (case c_law_rows => k_is)
    (case p_law_rows => k_is)
    (case aPair_is_even => k_is)
    (case iPair_is_even => k_is)
    (case lPair_is_even => k_is)
    (case cPair_is_even => k_is)
    (case pPair_is_even => k_is)
    (case a_check_books => k_is)
    (case l_check_books => k_is)
    (case c_check_books => k_is)
    (case p_check_books => k_is)
    (case asigns_of => k_is)
    (case lsigns_of => k_is)
    (case csigns_of => k_is)
    (case psigns_of => k_is)
    (case aBook_word => k_is)
    (case iBook_word => k_is)
    (case lBook_word => k_is)
    (case cBook_word => k_is)
    (case pBook_word => k_is)
    (case a_word_pair => k_is)
    (case l_word_pair => k_is)
    (case c_word_pair => k_is)
    (case p_word_pair => k_is)
    (case a_word_pairs => k_is)
    (case l_word_pairs => k_is)
    (case c_word_pairs => k_is)
    (case p_word_pairs => k_is)
    (case a_behind => k_is)
    (case l_behind => k_is)
    (case c_behind => k_is)
    (case p_behind => k_is)
    (case a_size => k_is)
    (case l_size => k_is)
    (case c_size => k_is)
    (case p_size => k_is)
    (case a_check_state => k_is)
    (case l_check_state => k_is)
    (case c_check_state => k_is)
    (case p_check_state => k_is)
    (case a_steps_from => k_is)
    (case l_steps_from => k_is)
    (case c_steps_from => k_is)
    (case p_steps_from => k_is)
    (case a_one_longer => k_is)
    (case l_one_longer => k_is)
    (case c_one_longer => k_is)
    (case p_one_longer => k_is)
    (case a_rows_up_to => k_is)
    (case l_rows_up_to => k_is)
    (case c_rows_up_to => k_is)
    (case p_rows_up_to => k_is)
    (case aalike_rows => k_is)
    (case lalike_rows => k_is)
    (case calike_rows => k_is)
    (case palike_rows => k_is)
    (case aprime_rows => k_is)
    (case lprime_rows => k_is)
    (case cprime_rows => k_is)
    (case pprime_rows => k_is)
    (case a_law_told => k_is)
    (case l_law_told => k_is)
    (case c_law_told => k_is)
    (case p_law_told => k_is)
    (case alaw => k_is)
    (case llaw => k_is)
    (case claw => k_is)
    (case plaw => k_is)

