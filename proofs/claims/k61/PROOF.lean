import PyProof.Rows.All
import Wide.All
import OpenK.AllK
import Wide.FinOn
import HandS.ForMost
import HandS.ForExc
import HandS.Evl
import HandS.IsInst
import HandS.ExcIs
import HandS.Conv
import HandS.TupMul
import HandS.TupAny
import HandS.CallSlots
import HandS.SetBool
import HandS.Strs
import HandS.Zip
import HandS.Style
import HandS.Comp
import HandS.DictComp
import HandS.Iter
import HandS.TupLe
import HandS.Text
import HandS.Walk
import HandS.Dict
import HandS.SetFor
import PyProof.EnumMake
import PyProof.Draws
import HandS.WordsDict
import HandS.DictTup
import KE.SortData
import KE.KDictWalk
import KE.GoesZip
import KE.GoesMore
import PyProof.ListRange
import KE.KItemsList
import PyProof.P3In
import KE.KDictList
import HandS.TryOnly
import KE.DatumOrd
import HandS.TupSets
import PySem.Challenge.RW_alikeread_k61_whole_searches
set_option Elab.async false
set_option linter.all false
set_option maxRecDepth 100000
set_option maxHeartbeats 4000000
namespace Mini
open PySem L2 Evl

/-! ### the heap in two parts: B what stays, M what is owned and may change -/
def jn (B M : Hp) : Hp := fun a => match M a with
  | some o => some o
  | none => B a
def Dj (B M : Hp) : Prop := ∀ a o, B a = some o → M a = none
theorem jn_M {B M : Hp} {a : Addr} {o : HO} (h : M a = some o) : jn B M a = some o := by unfold jn; rw [h]
theorem jn_N {B M : Hp} {a : Addr} (h : M a = none) : jn B M a = B a := by unfold jn; rw [h]
theorem jn_B {B M : Hp} {a : Addr} {o : HO} (d : Dj B M) (h : B a = some o) : jn B M a = some o := by rw [jn_N (d a o h), h]
theorem jn_free {B M : Hp} {a : Addr} (h : jn B M a = none) : B a = none ∧ M a = none := by
  unfold jn at h
  cases e : M a with
  | some o => rw [e] at h; cases h
  | none => rw [e] at h; exact ⟨h, rfl⟩
theorem jn_ex {B M : Hp} (d : Dj B M) : Ex B (jn B M) := fun a o h => jn_B d h
theorem jn_mono {B B' M : Hp} (e : Ex B B') (d : Dj B' M) : Ex (jn B M) (jn B' M) := fun a o h => by
  unfold jn at h ⊢
  cases q : M a with
  | some u => rw [q] at h; exact h
  | none => rw [q] at h; exact e a o h
theorem upd_new {B M : Hp} {p : Addr} {o : HO} (h : jn B M p = none) : upd (jn B M) p o = jn (upd B p o) M := by
  obtain ⟨_, hM⟩ := jn_free h
  funext a
  unfold upd jn
  dsimp only
  by_cases e : a = p
  · rw [if_pos e, e, hM]; simp
  · rw [if_neg e, if_neg e]
theorem dj_new {B M : Hp} {p : Addr} {o : HO} (d : Dj B M) (h : jn B M p = none) : Dj (upd B p o) M := fun a u e => by
  by_cases q : a = p
  · rw [q]; exact (jn_free h).2
  · rw [upd_ne q] at e; exact d a u e
theorem ex_new {B M : Hp} {p : Addr} {o : HO} (h : jn B M p = none) : Ex B (upd B p o) := Ex.new (jn_free h).1
theorem upd_own {B M : Hp} {p : Addr} {o : HO} : upd (jn B M) p o = jn B (upd M p o) := by
  funext a
  unfold upd jn
  dsimp only
  by_cases e : a = p
  · rw [if_pos e, if_pos e]
  · rw [if_neg e, if_neg e]
theorem dj_own {B M : Hp} {p : Addr} {o : HO} (d : Dj B M) (h : B p = none) : Dj B (upd M p o) := fun a u e => by
  by_cases q : a = p
  · rw [q, h] at e; cases e
  · rw [upd_ne q]; exact d a u e
theorem dj_free {B M : Hp} {p : Addr} {o : HO} (d : Dj B M) (h : M p = some o) : B p = none := by
  cases e : B p with
  | none => rfl
  | some u => rw [d p u e] at h; cases h

/-! ### data: what a value is, read out of the heap -/
mutual
inductive Dq (H : Hp) : V → PyData → Prop
  | non : Dq H .non .none
  | bl (b : Bool) : Dq H (.bl b) (.bool b)
  | int (i : Int) : Dq H (.int i) (.int i)
  | str (x : Str) : Dq H (.str x) (.str x)
  | lst {a : Addr} {xs : List V} {ds : List PyData} : H a = some (.lst xs) → DqAll H xs ds → Dq H (.ref a) (.list ds)
  | tup {a : Addr} {xs : List V} {ds : List PyData} : H a = some (.tup xs) → DqAll H xs ds → Dq H (.ref a) (.tuple ds)
inductive DqAll (H : Hp) : List V → List PyData → Prop
  | nil : DqAll H [] []
  | cons {v : V} {vs : List V} {d : PyData} {ds : List PyData} : Dq H v d → DqAll H vs ds → DqAll H (v :: vs) (d :: ds)
end
theorem Dq_ex {H H' : Hp} (e : Ex H H') : ∀ (d : PyData) (v : V), Dq H v d → Dq H' v d
  | .none, _, h => by cases h; exact .non
  | .bool b, _, h => by cases h; exact .bl b
  | .int i, _, h => by cases h; exact .int i
  | .str x, _, h => by cases h; exact .str x
  | .list ds, _, h => by
    cases h with
    | lst hs ha => exact .lst (e _ _ hs) (go e ds _ ha)
  | .tuple ds, _, h => by
    cases h with
    | tup hs ha => exact .tup (e _ _ hs) (go e ds _ ha)
  | .dict _, _, h => by cases h
where
  go {H H' : Hp} (e : Ex H H') : ∀ (ds : List PyData) (vs : List V), DqAll H vs ds → DqAll H' vs ds
  | [], _, h => by cases h; exact .nil
  | d :: ds, _, h => by
    cases h with
    | cons a b => exact .cons (Dq_ex e d _ a) (go e ds _ b)
theorem Dq_dp {K : PySem.W.Frag} {H : Hp} : ∀ (d : PyData) (v : V), Dq H v d → Dp K H v d
  | .none, _, h => by cases h; exact .non
  | .bool b, _, h => by cases h; exact .bl b
  | .int i, _, h => by cases h; exact .int i
  | .str x, _, h => by cases h; exact .str x
  | .list ds, _, h => by
    cases h with
    | lst hs ha => exact .lst (sq_of hs) (go ds _ ha)
  | .tuple ds, _, h => by
    cases h with
    | tup hs ha => exact .tup (st_of hs) (go ds _ ha)
  | .dict _, _, h => by cases h
where
  go {K : PySem.W.Frag} {H : Hp} : ∀ (ds : List PyData) (vs : List V), DqAll H vs ds → DpAll K H vs ds
  | [], _, h => by cases h; exact .nil
  | d :: ds, _, h => by
    cases h with
    | cons a b => exact .cons (Dq_dp d _ a) (go ds _ b)
theorem DqAll_ex {H H' : Hp} (e : Ex H H') {ds : List PyData} {vs : List V} (h : DqAll H vs ds) : DqAll H' vs ds := Dq_ex.go e ds vs h
theorem DqAll_len {H : Hp} : ∀ {ds : List PyData} {vs : List V}, DqAll H vs ds → vs.length = ds.length
  | [], _, h => by cases h; rfl
  | d :: ds, _, h => by cases h with | cons a b => simp [DqAll_len b]
theorem DqAll_get {H : Hp} : ∀ {ds : List PyData} {vs : List V} {i : Nat} {d : PyData}, DqAll H vs ds → ds[i]? = some d → ∃ v, vs[i]? = some v ∧ Dq H v d
  | [], _, i, d, h, e => by simp at e
  | x :: ds, _, 0, d, h, e => by
    cases h with | cons a b => simp at e; subst e; exact ⟨_, rfl, a⟩
  | x :: ds, _, i + 1, d, h, e => by
    cases h with | cons a b => simpa using DqAll_get (i := i) b (by simpa using e)
theorem DqAll_getV {H : Hp} : ∀ {ds : List PyData} {vs : List V} {i : Nat} {v : V}, DqAll H vs ds → vs[i]? = some v → ∃ d, ds[i]? = some d ∧ Dq H v d
  | [], _, i, d, h, e => by cases h; simp at e
  | x :: ds, _, 0, d, h, e => by
    cases h with | cons a b => simp at e; subst e; exact ⟨_, rfl, a⟩
  | x :: ds, _, i + 1, d, h, e => by
    cases h with | cons a b => simpa using DqAll_getV (i := i) b (by simpa using e)
theorem DqAll_append {H : Hp} : ∀ {ds es : List PyData} {vs us : List V}, DqAll H vs ds → DqAll H us es → DqAll H (vs ++ us) (ds ++ es)
  | [], _, _, _, h, g => by cases h; exact g
  | x :: ds, _, _, _, h, g => by cases h with | cons a b => exact .cons a (DqAll_append b g)
theorem DqAll_take {H : Hp} : ∀ {ds : List PyData} {vs : List V} (n : Nat), DqAll H vs ds → DqAll H (vs.take n) (ds.take n)
  | _, _, 0, _ => by simpa using DqAll.nil
  | [], _, n + 1, h => by cases h; simpa using DqAll.nil
  | x :: ds, _, n + 1, h => by cases h with | cons a b => simpa using DqAll.cons a (DqAll_take n b)
theorem DqAll_drop {H : Hp} : ∀ {ds : List PyData} {vs : List V} (n : Nat), DqAll H vs ds → DqAll H (vs.drop n) (ds.drop n)
  | _, _, 0, h => by simpa using h
  | [], _, n + 1, h => by cases h; simpa using DqAll.nil
  | x :: ds, _, n + 1, h => by cases h with | cons a b => simpa using DqAll_drop n b
theorem DqAll_set {H : Hp} {v : V} {d : PyData} (hv : Dq H v d) : ∀ {ds : List PyData} {vs : List V} (n : Nat), DqAll H vs ds → DqAll H (vs.set n v) (ds.set n d)
  | [], _, n, h => by cases h; simpa using DqAll.nil
  | x :: ds, _, 0, h => by cases h with | cons a b => simpa using DqAll.cons hv b
  | x :: ds, _, n + 1, h => by cases h with | cons a b => simpa using DqAll.cons a (DqAll_set hv n b)
theorem DqAll_eraseIdx {H : Hp} : ∀ {ds : List PyData} {vs : List V} (n : Nat), DqAll H vs ds → DqAll H (vs.eraseIdx n) (ds.eraseIdx n)
  | [], _, n, h => by cases h; simpa using DqAll.nil
  | x :: ds, _, 0, h => by cases h with | cons a b => simpa using b
  | x :: ds, _, n + 1, h => by cases h with | cons a b => simpa using DqAll.cons a (DqAll_eraseIdx n b)
theorem DqAll_dropLast {H : Hp} {ds : List PyData} {vs : List V} (h : DqAll H vs ds) : DqAll H vs.dropLast ds.dropLast := by
  rw [List.dropLast_eq_take, List.dropLast_eq_take, DqAll_len h]
  exact DqAll_take _ h
theorem DqAll_rep {H : Hp} {ds : List PyData} {vs : List V} (h : DqAll H vs ds) : ∀ n, DqAll H (List.replicate n vs).flatten (List.replicate n ds).flatten
  | 0 => by simpa using DqAll.nil
  | n + 1 => by simpa [List.replicate_succ] using DqAll_append h (DqAll_rep h n)
theorem DqAll_reverse {H : Hp} : ∀ {ds : List PyData} {vs : List V}, DqAll H vs ds → DqAll H vs.reverse ds.reverse
  | [], _, h => by cases h; exact .nil
  | x :: ds, _, h => by cases h with | cons a b => simpa using DqAll_append (DqAll_reverse b) (.cons a .nil)
theorem DqAll_ints {H : Hp} : ∀ {ns : List Int} {vs : List V}, DqAll H vs (ns.map PyData.int) → vs = ns.map V.int
  | [], _, h => by cases h; rfl
  | n :: ns, _, h => by
    cases h with
    | cons a b => cases a; rw [DqAll_ints b]; rfl
theorem DqAll_ofInts {H : Hp} : ∀ (ns : List Int), DqAll H (ns.map V.int) (ns.map PyData.int)
  | [] => .nil
  | n :: ns => .cons (.int n) (DqAll_ofInts ns)
theorem DqAll_bools {H : Hp} : ∀ {ns : List Bool} {vs : List V}, DqAll H vs (ns.map PyData.bool) → vs = ns.map V.bl
  | [], _, h => by cases h; rfl
  | n :: ns, _, h => by
    cases h with
    | cons a b => cases a; rw [DqAll_bools b]; rfl

/-! ### types of slots -/
structure Ty where
  p : V → Hp → Prop
  mono : ∀ {v : V} {B B' : Hp}, Ex B B' → p v B → p v B'
structure Ow where
  r : Addr → HO → Hp → Prop
  mono : ∀ {a : Addr} {o : HO} {B B' : Hp}, Ex B B' → r a o B → r a o B'
def isD (d : PyData) : Ty := ⟨fun v B => Dq B v d, fun e h => Dq_ex e d _ h⟩
/-- an owned list -/
def isL (ds : List PyData) : Ow := ⟨fun _ o B => ∃ vs, o = .lst vs ∧ DqAll B vs ds, fun e ⟨vs, h, q⟩ => ⟨vs, h, DqAll_ex e q⟩⟩
/-- an instance of the class at C, its attributes as R says -/
def isO (C : Addr) (R : List (Str × V) → Hp → Prop) (mono : ∀ {fs : List (Str × V)} {B B' : Hp}, Ex B B' → R fs B → R fs B') : Ty :=
  ⟨fun v B => ∃ p dx fs, v = .ref p ∧ B p = some (.ins C dx fs) ∧ R fs B, fun e ⟨p, dx, fs, h1, h2, h3⟩ => ⟨p, dx, fs, h1, e _ _ h2, mono e h3⟩⟩
/-- a value of the built-in class or of a class of one's own, as a value -/
def isV (v : V) : Ty := ⟨fun u _ => u = v, fun _ h => h⟩
inductive Sl where
  | no
  | im (P : Ty)
  | ow (R : Ow)
  | bw (R : Ow)
abbrev Gm := List Sl
structure Holds (M0 : Hp) (G : Gm) (σ : L2.St) (B M : Hp) : Prop where
  len : σ.length = G.length
  dj : Dj B M
  cal : Ex M0 M
  im : ∀ (i : Nat) P, G[i]? = some (.im P) → ∃ v, σ[i]? = some (some v) ∧ P.p v B
  ow : ∀ (i : Nat) R, G[i]? = some (.ow R) → ∃ l o, σ[i]? = some (some (.ref l)) ∧ M l = some o ∧ R.r l o B ∧ M0 l = none
  bw : ∀ (i : Nat) R, G[i]? = some (.bw R) → ∃ l o, σ[i]? = some (some (.ref l)) ∧ M0 l = some o ∧ R.r l o B
  ne : ∀ (i j : Nat) R R' l, G[i]? = some (.ow R) → G[j]? = some (.ow R') → σ[i]? = some (some (.ref l)) → σ[j]? = some (some (.ref l)) → i = j
theorem Holds.ext {M0 : Hp} {G : Gm} {σ : L2.St} {B B' M : Hp} (h : Holds M0 G σ B M) (e : Ex B B') (d : Dj B' M) : Holds M0 G σ B' M where
  len := h.len
  dj := d
  cal := h.cal
  im := fun i P q => by obtain ⟨v, a, b⟩ := h.im i P q; exact ⟨v, a, P.mono e b⟩
  ow := fun i R q => by obtain ⟨l, o, a, b, c, f⟩ := h.ow i R q; exact ⟨l, o, a, b, R.mono e c, f⟩
  bw := fun i R q => by obtain ⟨l, o, a, b, c⟩ := h.bw i R q; exact ⟨l, o, a, b, R.mono e c⟩
  ne := h.ne

/-! ### what an expression is worth -/
def Sv (te : TE) (G : Gm) (P : Ty) : Prop := ∀ (M0 : Hp) (σ : L2.St) (B M : Hp), Holds M0 G σ B M → ∀ Q : VK, (∀ v B', Ex B B' → Dj B' M → P.p v B' → Q v (jn B' M)) → te σ (jn B M) Q
/-- a new list -/
def Svl (te : TE) (G : Gm) (ds : List PyData) : Prop := ∀ (M0 : Hp) (σ : L2.St) (B M : Hp), Holds M0 G σ B M → ∀ Q : VK,
  (∀ p vs B', Ex B B' → Dj B' M → jn B' M p = none → DqAll B' vs ds → Q (.ref p) (upd (jn B' M) p (.lst vs))) → te σ (jn B M) Q
/-- a list that can be read -/
def Rl (te : TE) (G : Gm) (ds : List PyData) : Prop := ∀ (M0 : Hp) (σ : L2.St) (B M : Hp), Holds M0 G σ B M → ∀ Q : VK,
  (∀ a vs B', Ex B B' → Dj B' M → jn B' M a = some (.lst vs) → DqAll B' vs ds → Q (.ref a) (jn B' M)) → te σ (jn B M) Q
/-- a test -/
def St' (tt : TT) (G : Gm) (b : Bool) : Prop := ∀ (M0 : Hp) (σ : L2.St) (B M : Hp), Holds M0 G σ B M → ∀ Q : Bool → Hp → Prop, (∀ B', Ex B B' → Dj B' M → Q b (jn B' M)) → tt σ (jn B M) Q
/-- arguments -/
inductive Ar where
  | im (P : Ty)
  | ow (R : Ow)
def ArOk (a : Ar) (v : V) (B M : Hp) : Prop := match a with
  | .im P => P.p v B
  | .ow R => ∃ l o, v = .ref l ∧ M l = some o ∧ R.r l o B
inductive ArsOk : List Ar → List V → Hp → Hp → Prop where
  | nil {B M} : ArsOk [] [] B M
  | cons {a as v vs B M} : ArOk a v B M → ArsOk as vs B M → ArsOk (a :: as) (v :: vs) B M
theorem ArOk.ext {a : Ar} {v : V} {B B' M : Hp} (e : Ex B B') (h : ArOk a v B M) : ArOk a v B' M := by
  cases a with
  | im P => exact P.mono e h
  | ow R => obtain ⟨l, o, h1, h2, h3⟩ := h; exact ⟨l, o, h1, h2, R.mono e h3⟩
theorem ArsOk.ext {as : List Ar} {vs : List V} {B B' M : Hp} (e : Ex B B') (h : ArsOk as vs B M) : ArsOk as vs B' M := by
  induction h with
  | nil => exact .nil
  | cons a _ ih => exact .cons (a.ext e) (ih e)
theorem ArsOk.len {as : List Ar} {vs : List V} {B M : Hp} (h : ArsOk as vs B M) : vs.length = as.length := by
  induction h with
  | nil => rfl
  | cons a _ ih => simp [ih]
def Sa (ta : TA) (G : Gm) (as : List Ar) : Prop := ∀ (M0 : Hp) (σ : L2.St) (B M : Hp), Holds M0 G σ B M → ∀ Q : List V → Hp → Prop, (∀ vs B', Ex B B' → Dj B' M → ArsOk as vs B' M → Q vs (jn B' M)) → ta σ (jn B M) Q
/-- an optional part of a slice -/
def So (to : TO) (G : Gm) (o : Option Int) : Prop := ∀ (M0 : Hp) (σ : L2.St) (B M : Hp), Holds M0 G σ B M → ∀ Q : Option Int → Hp → Prop, (∀ B', Ex B B' → Dj B' M → Q o (jn B' M)) → to σ (jn B M) Q

section
variable {G : Gm} {te ta tb tl : TE} {tt tu : TT} {tas : TA} {P Pa Pb : Ty} {R : Ow} {d e : PyData} {ds es : List PyData} {b c : Bool} {i j : Int} {r : R2}

theorem sv_is (h : Sv te G (isD d)) (q : d = e) : Sv te G (isD e) := q ▸ h
theorem st_is (h : St' tt G b) (q : b = c) : St' tt G c := q ▸ h
theorem svl_is (h : Svl te G ds) (q : ds = es) : Svl te G es := q ▸ h
theorem rl_is (h : Rl te G ds) (q : ds = es) : Rl te G es := q ▸ h
theorem sv_svl (h : Svl te G ds) : Sv te G (isD (.list ds)) := fun M0 σ B M H Q q => h M0 σ B M H Q fun p vs B' e dj hn ha => by
  rw [upd_new hn]
  exact q _ _ (e.trans (ex_new hn)) (dj_new dj hn) (.lst upd_same (DqAll_ex (ex_new hn) ha))
theorem rl_sv (h : Sv te G (isD (.list ds))) : Rl te G ds := fun M0 σ B M H Q q => h M0 σ B M H Q fun v B' e dj hv => by
  cases (show Dq B' v (.list ds) from hv) with
  | lst hs ha => exact q _ _ _ e dj (jn_B dj hs) ha
theorem rl_svl (h : Svl te G ds) : Rl te G ds := rl_sv (sv_svl h)
theorem sv_var {n : Nat} (h : G[n]? = some (.im P)) : Sv (tVar n) G P := fun M0 σ B M H Q q => by
  obtain ⟨v, a, b⟩ := H.im n P h
  exact ⟨v, a, q v B (Ex.refl B) H.dj b⟩
theorem rl_ow {n : Nat} (h : G[n]? = some (.ow (isL ds))) : Rl (tVar n) G ds := fun M0 σ B M H Q q => by
  obtain ⟨l, o, a, b, ⟨vs, rfl, c⟩, _⟩ := H.ow n _ h
  exact ⟨_, a, q l vs B (Ex.refl B) H.dj (jn_M b) c⟩
theorem rl_bw {n : Nat} (h : G[n]? = some (.bw (isL ds))) : Rl (tVar n) G ds := fun M0 σ B M H Q q => by
  obtain ⟨l, o, a, b, ⟨vs, rfl, c⟩⟩ := H.bw n _ h
  exact ⟨_, a, q l vs B (Ex.refl B) H.dj (jn_M (H.cal _ _ b)) c⟩
theorem sv_cV {v : V} (h : ∀ B, P.p v B) : Sv (tC v) G P := fun M0 σ B M H Q q => q v B (Ex.refl B) H.dj (h B)
theorem sv_int : Sv (tC (.int i)) G (isD (.int i)) := sv_cV fun _ => .int i
theorem sv_bl : Sv (tC (.bl b)) G (isD (.bool b)) := sv_cV fun _ => .bl b
theorem sv_non : Sv (tC .non) G (isD .none) := sv_cV fun _ => .non
theorem sv_str {x : Str} : Sv (tC (.str x)) G (isD (.str x)) := sv_cV fun _ => .str x
theorem sv_val {v : V} : Sv (tC v) G (isV v) := sv_cV fun _ => rfl

/-! arguments -/
theorem sa_nil : Sa tNil G [] := fun M0 σ B M H Q q => q [] B (Ex.refl B) H.dj .nil
theorem sa_im {tr : TA} {as : List Ar} (h : Sv te G P) (hr : Sa tr G as) : Sa (tCons te tr) G (.im P :: as) := fun M0 σ B M H Q q =>
  h M0 σ B M H _ fun v B1 e1 d1 p1 => hr M0 σ B1 M (H.ext e1 d1) _ fun vs B2 e2 d2 p2 => q _ B2 (e1.trans e2) d2 (.cons (P.mono e2 p1) p2)
theorem sa_ow {tr : TA} {as : List Ar} {n : Nat} (h : G[n]? = some (.ow R)) (hr : Sa tr G as) : Sa (tCons (tVar n) tr) G (.ow R :: as) := fun M0 σ B M H Q q => by
  obtain ⟨l, o, a, b, c, _⟩ := H.ow n _ h
  exact ⟨_, a, hr M0 σ B M H _ fun vs B2 e2 d2 p2 => q _ B2 e2 d2 (.cons ⟨l, o, rfl, b, R.mono e2 c⟩ p2)⟩
theorem sa_bw {tr : TA} {as : List Ar} {n : Nat} (h : G[n]? = some (.bw R)) (hr : Sa tr G as) : Sa (tCons (tVar n) tr) G (.ow R :: as) := fun M0 σ B M H Q q => by
  obtain ⟨l, o, a, b, c⟩ := H.bw n _ h
  exact ⟨_, a, hr M0 σ B M H _ fun vs B2 e2 d2 p2 => q _ B2 e2 d2 (.cons ⟨l, o, rfl, H.cal _ _ b, R.mono e2 c⟩ p2)⟩

/-! operators by values: x and y as they stand -/
/-- r, from x and y of these types, gives a value of type P -/
def Rv (r : R2) (Pa Pb P : Ty) : Prop := ∀ (B M : Hp) (x y : V), Dj B M → Pa.p x B → Pb.p y B → ∀ Q : VK, (∀ v B', Ex B B' → Dj B' M → P.p v B' → Q v (jn B' M)) → r x y (jn B M) Q
theorem sv_op (ha : Sv ta G Pa) (hb : Sv tb G Pb) (hr : Rv r Pa Pb P) : Sv (tOp r ta tb) G P := fun M0 σ B M H Q q =>
  ha M0 σ B M H _ fun x B1 e1 d1 p1 => hb M0 σ B1 M (H.ext e1 d1) _ fun y B2 e2 d2 p2 => hr B2 M x y d2 (Pa.mono e2 p1) p2 Q fun v B3 e3 d3 p3 => q v B3 ((e1.trans e2).trans e3) d3 p3
theorem rv_or1 {r' : R2} (h : Rv r Pa Pb P) : Rv (fun x y H Q => r x y H Q ∨ r' x y H Q) Pa Pb P := fun B M x y dj p1 p2 Q q => .inl (h B M x y dj p1 p2 Q q)
theorem rv_or2 {r' : R2} (h : Rv r' Pa Pb P) : Rv (fun x y H Q => r x y H Q ∨ r' x y H Q) Pa Pb P := fun B M x y dj p1 p2 Q q => .inr (h B M x y dj p1 p2 Q q)
/-- where the answer is at hand, the heap as it is -/
theorem rv_at {C : V → V → Hp → Prop} {f : V → V → V} (h : ∀ x y (H : Hp) (Q : VK), C x y H → Q (f x y) H → r x y H Q) (hc : ∀ B M x y, Dj B M → Pa.p x B → Pb.p y B → C x y (jn B M) ∧ P.p (f x y) B) : Rv r Pa Pb P := fun B M x y dj p1 p2 Q q =>
  h x y _ Q (hc B M x y dj p1 p2).1 (q _ B (Ex.refl B) dj (hc B M x y dj p1 p2).2)
theorem dp_int {B : Hp} {v : V} (h : (isD (.int i)).p v B) : v = .int i := by cases (show Dq B v (.int i) from h); rfl
theorem dp_bool {B : Hp} {v : V} (h : (isD (.bool b)).p v B) : v = .bl b := by cases (show Dq B v (.bool b) from h); rfl
theorem dp_str {B : Hp} {x : Str} {v : V} (h : (isD (.str x)).p v B) : v = .str x := by cases (show Dq B v (.str x) from h); rfl
theorem dp_none {B : Hp} {v : V} (h : (isD .none).p v B) : v = .non := by cases (show Dq B v .none from h); rfl
theorem rv_I {C : Int → Int → Prop} {g : Int → Int → Int} (hc : C i j) : Rv (rI C fun i j => .int (g i j)) (isD (.int i)) (isD (.int j)) (isD (.int (g i j))) := fun B M x y dj p1 p2 Q q => by
  rw [dp_int p1, dp_int p2]
  exact ⟨i, j, rfl, rfl, hc, q _ B (Ex.refl B) dj (.int _)⟩
theorem rv_I0 {g : Int → Int → Int} : Rv (rI0 fun i j => .int (g i j)) (isD (.int i)) (isD (.int j)) (isD (.int (g i j))) := fun B M x y dj p1 p2 Q q => by
  rw [dp_int p1, dp_int p2]
  exact ⟨i, j, rfl, rfl, q _ B (Ex.refl B) dj (.int _)⟩
theorem rv_B0 {g : Int → Int → Bool} : Rv (rI0 fun i j => .bl (g i j)) (isD (.int i)) (isD (.int j)) (isD (.bool (g i j))) := fun B M x y dj p1 p2 Q q => by
  rw [dp_int p1, dp_int p2]
  exact ⟨i, j, rfl, rfl, q _ B (Ex.refl B) dj (.bl _)⟩
end
end Mini

namespace Mini
open PySem L2 Evl

/-! ### callees in one piece, what they raise told at the caller's slots -/
structure FnC (P : Program) (w : World) (K : PySem.W.Frag) (mg : Str → Option Value) (base : Heap) (k : Nat) (x : Str) (sp : Sp) : Prop where
  ex : ∃ (f : Addr) (fd : FuncData) (ps : List Str), FnOk P w K mg base (L2.CX P w) k f fd ps sp ∧ mg x = some (.ref f) ∧ PySem.W.keepIn K (.ref f) = true ∧ Binds K fd ps []
structure MtC (P : Program) (w : World) (K : PySem.W.Frag) (mg : Str → Option Value) (base : Heap) (k : Nat) (C : Addr) (m : Str) (sp : Sp) : Prop where
  ex : ∃ (f : Addr) (fd : FuncData) (ps : List Str), FnOk P w K mg base (L2.CX P w) k f fd ps sp ∧ Cls K C ∧ Meth K C m f ∧ Binds K fd ps []
structure MkC (P : Program) (w : World) (K : PySem.W.Frag) (mg : Str → Option Value) (base : Heap) (k : Nat) (C : Addr) (x : Str) (sp : Sp) : Prop where
  ex : ∃ (f : Addr) (fd : FuncData) (ps : List Str), FnOk P w K mg base (L2.CX P w) k f fd ps sp ∧ Mk K C f ∧ mg x = some (.ref C) ∧ Binds K fd ps []
def tMt (C : Addr) (m : Str) (sp : Sp) (E : L2.St → XK) (ta : TE) (t : TA) : TE := fun σ H Q => ta σ H fun x H1 => ∃ a dx fs, x = .ref a ∧ H1 a = some (.ins C dx fs) ∧ fs.lookup m = none ∧ t σ H1 fun vs H2 => sp (x :: vs) H2 Q (E σ)
def tMk (C : Addr) (sp : Sp) (E : L2.St → XK) (t : TA) : TE := fun σ H Q => t σ H fun vs H1 => ∀ x dx, H1 x = none → H1 dx = none → dx ≠ x → sp (.ref x :: vs) (upd (upd H1 dx (.own x)) x (.ins C dx [])) (fun v H2 => v = .non ∧ Q (.ref x) H2) (E σ)
section
open PyProof.Rows
variable {X : Cx} {k : Nat} {x m : Str} {C : Addr} {sp : Sp} {E : L2.St → XK} {p pos apos : Pos} {e o : Expr} {es : List Expr} {ta : TE} {t : TA}
theorem pe_fn (c : FnC X.prog X.w X.K X.mg X.base k x sp) {j : Nat} (hr : Room j X.A) (hx : ∀ σ, PassesAt (L2.CX X.prog X.w) X σ (E σ)) (ha : PA X (e :: es) t) (hk : k ≤ j := by decide) (hg : Gl X x := by rfl)
    (hdb : (x == ("__debug__" : Str)) = false := by decide) (he : starEach (e :: es) X.env = (false, eval e X.env) :: starEach es X.env := by rfl) (hpl : (backTo pos (starEach es X.env)).any (·.1) = false := by rfl) :
    PE X (.Call (.Name x p) (e :: es) [] pos) (tCallS sp E t) := by
  obtain ⟨f, fd, ps, F, hm, kp, hb⟩ := c.ex
  exact pe_callS F (hr.mono hk) hg hm kp hb hx ha hdb he hpl
theorem pe_mt {pl : Sem Bool} (he : PE X o ta) (c : MtC X.prog X.w X.K X.mg X.base k C m sp) {j : Nat} (hr : Room j X.A) (hx : ∀ σ, PassesAt (L2.CX X.prog X.w) X σ (E σ)) (ha : PA X (e :: es) t) (hk : k ≤ j := by decide)
    (hst : starEach (e :: es) X.env = (false, eval e X.env) :: starEach es X.env := by rfl) (hpl : (backTo pos (starEach es X.env)).any (·.1) = false := by rfl)
    (ht : eval (.Call (.Attribute o m apos) (e :: es) [] pos) X.env = (do
      let ov ← eval o X.env
      standAt apos.atName
      let (f, first) ← holding [ov] (getMethod ov m pl)
      callWith pos f first (backTo pos (starEach (e :: es) X.env)) (backToKw pos (keywordEach [] X.env))) := by rfl) :
    PE X (.Call (.Attribute o m apos) (e :: es) [] pos) (tMt C m sp E ta t) := by
  obtain ⟨f, fd, ps, F, cl, hm, hb⟩ := c.ex
  refine ⟨fun pins s σ H Q I h => ?_⟩
  refine PySem.W.methodCall_KW (pl := pl) (thn (he.run pins s σ H _ I h) fun u s1 hh => ?_) ht
  obtain ⟨x, H1, I1, rx, a, dx, fs, ex, ea, l, q⟩ := hh
  subst ex
  obtain rfl : u = Value.ref a := rx
  refine getmeth_ok I1 ea cl hm l ?_
  refine PySem.W.callWith_K (first := [.ref a]) (h₀ := X.base) I.ok.mod.kin hm.kp (thn (ha.run pos pins s1 σ H1 _ I1 q) fun us s2 hh => ?_) hst hpl
  obtain ⟨vs, H2, I2, r, q2⟩ := hh
  exact ⟨I2.kIn, run_fnS (us := .ref a :: us) (vs := .ref a :: vs) F (hr.mono hk) hb (hx σ) I2 (.cons rfl r) q2⟩
theorem pe_mt0 {pl : Sem Bool} (he : PE X o ta) (c : MtC X.prog X.w X.K X.mg X.base k C m sp) {j : Nat} (hr : Room j X.A) (hx : ∀ σ, PassesAt (L2.CX X.prog X.w) X σ (E σ)) (hk : k ≤ j := by decide)
    (ht : eval (.Call (.Attribute o m apos) [] [] pos) X.env = (do
      let ov ← eval o X.env
      standAt apos.atName
      let (f, first) ← holding [ov] (getMethod ov m pl)
      callWith pos f first (backTo pos (starEach [] X.env)) (backToKw pos (keywordEach [] X.env))) := by rfl) :
    PE X (.Call (.Attribute o m apos) [] [] pos) (tMt C m sp E ta tNil) := by
  obtain ⟨f, fd, ps, F, cl, hm, hb⟩ := c.ex
  refine ⟨fun pins s σ H Q I h => ?_⟩
  refine PySem.W.methodCall_KW (pl := pl) (thn (he.run pins s σ H _ I h) fun u s1 hh => ?_) ht
  obtain ⟨x, H1, I1, rx, a, dx, fs, ex, ea, l, q⟩ := hh
  subst ex
  obtain rfl : u = Value.ref a := rx
  refine getmeth_ok I1 ea cl hm l ?_
  exact PySem.W.callWith_K0 (first := [.ref a]) I1.kIn hm.kp (run_fnS (us := [.ref a]) (vs := [.ref a]) F (hr.mono hk) hb (hx σ) I1 (.cons rfl .nil) q)
theorem run_mkS {pins : List (Addr × Obj)} {f : Addr} {fd : FuncData} {ps : List Str} {σ : L2.St} {H : Hp} {s : Shared} {Q : VK} {us : List Value} {vs : List V} (M : Mk X.K C f) (F : FnOk X.prog X.w X.K X.mg X.base (L2.CX X.prog X.w) k f fd ps sp) (hr : Room (k + 1) X.A)
    (hb : Binds X.K fd ps []) (hx : PassesAt (L2.CX X.prog X.w) X σ (E σ)) (I : Inv X pins σ H s) (r : Vals vs us)
    (h : ∀ x dx, H x = none → H dx = none → dx ≠ x → sp (.ref x :: vs) (upd (upd H dx (.own x)) x (.ins C dx [])) (fun v H2 => v = .non ∧ Q (.ref x) H2) (E σ)) :
    wpAny (model X.prog X.w) X.A (call (.ref C) us) (EP X pins σ Q) X.xe s := by
  have hq := h (s.heap.objs.size + 1) s.heap.objs.size (I.hok.fresh (Nat.le_succ _)) (I.hok.fresh (Nat.le_refl _)) (Nat.ne_of_lt (Nat.lt_succ_self _))
  have I2 := Inv.made (C := C) I
  have r2 : Vals (V.ref (s.heap.objs.size + 1) :: vs) (Value.ref (s.heap.objs.size + 1) :: us) := .cons rfl r
  have hl : (Value.ref (s.heap.objs.size + 1) :: us ++ []).length = ps.length := by
    have e := r2.length
    rw [F.len _ _ _ _ hq] at e
    rw [List.append_nil]
    exact e.symm
  have b := hb _ (Value.ref (s.heap.objs.size + 1) :: us) I2.kIn hl
  rw [List.append_nil] at b
  refine wpAny_call (make_map (f := f) I.kIn M.makes M.init (beq_iff_eq.mp M.fn) (codeAny_mono (F.run _ X.stack _ _ ⟨Value.ref (s.heap.objs.size + 1) :: us, []⟩ (Value.ref (s.heap.objs.size + 1) :: us) _ _ (E σ) (hr.make C us []) (I2.env0.make C us []) b r2 hq) fun res s' hq' => ?_))
  cases res with
  | error e => exact hx pins _ _ e s' I2 hq'
  | ok fl =>
    cases fl with
    | ret u =>
      obtain ⟨v, H', I3, rv, ev, q3⟩ := I2.after hq'
      subst ev
      exact ⟨rv, ⟨V.ref (s.heap.objs.size + 1), H', I3, rfl, q3⟩⟩
    | next => exact False.elim hq'
    | brk => exact False.elim hq'
    | cont => exact False.elim hq'
theorem pe_mk (c : MkC X.prog X.w X.K X.mg X.base k C x sp) {j : Nat} (hr : Room j X.A) (hx : ∀ σ, PassesAt (L2.CX X.prog X.w) X σ (E σ)) (ha : PA X (e :: es) t) (hk : k + 1 ≤ j := by decide) (hg : Gl X x := by rfl)
    (hdb : (x == ("__debug__" : Str)) = false := by decide) (he : starEach (e :: es) X.env = (false, eval e X.env) :: starEach es X.env := by rfl) (hpl : (backTo pos (starEach es X.env)).any (·.1) = false := by rfl) :
    PE X (.Call (.Name x p) (e :: es) [] pos) (tMk C sp E t) := by
  obtain ⟨f, fd, ps, F, M, hm, hb⟩ := c.ex
  refine ⟨fun pins s σ H Q I h => ?_⟩
  refine wpAny_Call_Name_kw (ld_glob I hg hm ?_ hdb)
  refine PySem.W.callWith_K (h₀ := X.base) I.ok.mod.kin M.kp (thn (ha.run pos pins s σ H _ I h) fun us s1 hh => ?_) he hpl
  obtain ⟨vs, H1, I1, r, q⟩ := hh
  exact ⟨I1.kIn, run_mkS M F (hr.mono hk) hb (hx σ) I1 r q⟩
end
/-- where nothing is raised -/
theorem px0 {X : Cx} : ∀ σ : L2.St, PassesAt (L2.CX X.prog X.w) X σ ((fun _ => E0 : L2.St → XK) σ) := fun σ pins H s e s' I c => passL pins σ H s e s' I c
/-- in a def's own body -/
theorem pxM {X : Cx} {E : XK} (tk : Takes X (fun cls d _ H => E cls d H)) : ∀ σ : L2.St, PassesAt (L2.CX X.prog X.w) X σ ((fun _ => E : L2.St → XK) σ) := fun σ pins H s e s' I c => passes_call tk (fun _ _ _ _ h => h) pins σ H s e s' I c

/-! ### what a def promises -/
inductive Rs where
  | ok (P : Ty)
  | ol (ds : List PyData)
  | bad (C : Addr)
def Rs.wp (r : Rs) (B M : Hp) (Q : VK) (E : XK) : Prop := match r with
  | .ok P => ∀ v B', Ex B B' → Dj B' M → P.p v B' → Q v (jn B' M)
  | .ol ds => ∀ p vs B', Ex B B' → Dj B' M → jn B' M p = none → DqAll B' vs ds → Q (.ref p) (upd (jn B' M) p (.lst vs))
  | .bad C => ∀ B', Ex B B' → Dj B' M → E (.ref C) none (jn B' M)
structure Fs where
  α : Type
  n : Nat
  ars : α → List Ar
  len : ∀ x, (ars x).length = n
  res : α → Rs
def spF (S : Fs) : Sp := fun vs H Q E => ∃ (x : S.α) (B M : Hp), H = jn B M ∧ Dj B M ∧ ArsOk (S.ars x) vs B M ∧ (S.res x).wp B M Q E
theorem spF_len {S : Fs} {vs H Q E} (h : spF S vs H Q E) : vs.length = S.n := by
  obtain ⟨x, B, M, _, _, a, _⟩ := h
  rw [a.len, S.len]
/-- an __init__ -/
structure Is where
  α : Type
  n : Nat
  ars : α → List Ar
  len : ∀ x, (ars x).length = n
  res : α → (List (Str × V) → Hp → Prop) ⊕ Addr
def spI (C : Addr) (S : Is) : Sp := fun vs H Q E => ∃ (x : S.α) (B M : Hp) (p dx : Addr) (us : List V), vs = .ref p :: us ∧ H = jn B M ∧ Dj B M ∧ M p = some (.ins C dx []) ∧ ArsOk (S.ars x) us B M ∧
  match S.res x with
  | .inl R => ∀ B' fs, Ex B B' → Dj B' M → R fs B' → Q .non (jn B' (upd M p (.ins C dx fs)))
  | .inr X => ∀ B', Ex B B' → Dj B' M → E (.ref X) none (jn B' M)

/-! ### what follows a statement -/
inductive Out where
  | nx (G : Gm)
  | rt (P : Ty)
  | rl (ds : List PyData)
  | bk (G : Gm)
  | ct (G : Gm)
  | bad (C : Addr) (G : Gm)
def Out.ok (o : Out) (E : L2.St → XK) (D : Ends) (M0 B : Hp) : Prop := match o with
  | .nx G => ∀ σ' B' M', Ex B B' → Holds M0 G σ' B' M' → D.nx σ' (jn B' M')
  | .rt P => ∀ v B' M', Ex B B' → Dj B' M' → Ex M0 M' → P.p v B' → D.rt v (jn B' M')
  | .rl ds => ∀ p vs B' M', Ex B B' → Dj B' M' → Ex M0 M' → M0 p = none → M' p = some (.lst vs) → DqAll B' vs ds → D.rt (.ref p) (jn B' M')
  | .bk G => ∀ σ' B' M', Ex B B' → Holds M0 G σ' B' M' → D.bk σ' (jn B' M')
  | .ct G => ∀ σ' B' M', Ex B B' → Holds M0 G σ' B' M' → D.ct σ' (jn B' M')
  | .bad C G => ∀ σ' B' M', Ex B B' → Holds M0 G σ' B' M' → E σ' (.ref C) none (jn B' M')
theorem Out.ok.ext {o : Out} {E : L2.St → XK} {D : Ends} {M0 B B1 : Hp} (h : o.ok E D M0 B) (e : Ex B B1) : o.ok E D M0 B1 := by
  cases o with
  | nx G => exact fun σ' B' M' e' H => h σ' B' M' (e.trans e') H
  | rt P => exact fun v B' M' e' => h v B' M' (e.trans e')
  | rl ds => exact fun p vs B' M' e' => h p vs B' M' (e.trans e')
  | bk G => exact fun σ' B' M' e' H => h σ' B' M' (e.trans e') H
  | ct G => exact fun σ' B' M' e' H => h σ' B' M' (e.trans e') H
  | bad C G => exact fun σ' B' M' e' H => h σ' B' M' (e.trans e') H
def Ss (E : L2.St → XK) (ts : TS) (G : Gm) (o : Out) : Prop := ∀ (M0 : Hp) (D : Ends) (σ : L2.St) (B M : Hp), Holds M0 G σ B M → o.ok E D M0 B → ts D σ (jn B M)

section
variable {E : L2.St → XK} {ts tu : TS} {te ta tb : TE} {tt : TT} {G G1 G2 : Gm} {o : Out} {P : Ty} {R : Ow} {d e : PyData} {ds es : List PyData} {b : Bool}
theorem ss_seq (h : Ss E ts G (.nx G1)) (k : Ss E tu G1 o) : Ss E (tSeq ts tu) G o := fun M0 D σ B M H q => h M0 { D with nx := tu D } σ B M H fun σ' B' M' e H' => k M0 D σ' B' M' H' (q.ext e)
theorem ss_seqRt (h : Ss E ts G (.rt P)) : Ss E (tSeq ts tu) G (.rt P) := fun M0 D σ B M H q => h M0 { D with nx := tu D } σ B M H q
theorem ss_seqRl (h : Ss E ts G (.rl ds)) : Ss E (tSeq ts tu) G (.rl ds) := fun M0 D σ B M H q => h M0 { D with nx := tu D } σ B M H q
theorem ss_seqBk (h : Ss E ts G (.bk G1)) : Ss E (tSeq ts tu) G (.bk G1) := fun M0 D σ B M H q => h M0 { D with nx := tu D } σ B M H q
theorem ss_seqCt (h : Ss E ts G (.ct G1)) : Ss E (tSeq ts tu) G (.ct G1) := fun M0 D σ B M H q => h M0 { D with nx := tu D } σ B M H q
theorem ss_seqBad {C : Addr} (h : Ss E ts G (.bad C G1)) : Ss E (tSeq ts tu) G (.bad C G1) := fun M0 D σ B M H q => h M0 { D with nx := tu D } σ B M H q
theorem ss_next : Ss E tNext G (.nx G) := fun M0 D σ B M H q => q σ B M (Ex.refl B) H
theorem ss_break : Ss E tBreak G (.bk G) := fun M0 D σ B M H q => q σ B M (Ex.refl B) H
theorem ss_cont : Ss E tCont G (.ct G) := fun M0 D σ B M H q => q σ B M (Ex.refl B) H
theorem ss_ret (h : Sv te G P) : Ss E (tRet te) G (.rt P) := fun M0 D σ B M H q => h M0 σ B M H _ fun v B' e d p => q v B' M e d H.cal p
theorem ss_retN : Ss E tRetN G (.rt (isD .none)) := fun M0 D σ B M H q => q .non B M (Ex.refl B) H.dj H.cal .non
theorem ss_retL (h : Svl te G ds) : Ss E (tRet te) G (.rl ds) := fun M0 D σ B M H q => h M0 σ B M H _ fun p vs B' e d hn ha => by
  rw [upd_own]
  refine q p vs B' (upd M p (.lst vs)) e (dj_own d (jn_free hn).1) (fun a o h => ?_) ?_ upd_same ha
  · have q1 := H.cal a o h
    rw [upd_ne (ne_of_none q1 (jn_free hn).2)]
    exact q1
  · cases h0 : M0 p with
    | none => rfl
    | some o => have q1 := H.cal p o h0; rw [(jn_free hn).2] at q1; cases q1
theorem ss_retOw {n : Nat} (h : G[n]? = some (.ow (isL ds))) : Ss E (tRet (tVar n)) G (.rl ds) := fun M0 D σ B M H q => by
  obtain ⟨l, o, a, c, ⟨vs, rfl, r⟩, f⟩ := H.ow n _ h
  exact ⟨_, a, q l vs B M (Ex.refl B) H.dj H.cal f c r⟩
theorem ss_drop (h : Sv te G P) : Ss E (tDrop te) G (.nx G) := fun M0 D σ B M H q => h M0 σ B M H _ fun v B' e d _ => q σ B' M e (H.ext e d)
theorem ss_if (h : St' tt G b) (h1 : b = true → Ss E ts G o) (h2 : b = false → Ss E tu G o) : Ss E (tIfS tt ts tu) G o := fun M0 D σ B M H q => h M0 σ B M H _ fun B' e d => by
  cases b with
  | true => exact h1 rfl M0 D σ B' M (H.ext e d) (q.ext e)
  | false => exact h2 rfl M0 D σ B' M (H.ext e d) (q.ext e)
theorem ss_if1 (h : St' tt G true) (h1 : Ss E ts G o) : Ss E (tIfS tt ts tu) G o := ss_if h (fun _ => h1) (fun q => by cases q)
theorem ss_if0 (h : St' tt G false) (h1 : Ss E tu G o) : Ss E (tIfS tt ts tu) G o := ss_if h (fun q => by cases q) (fun _ => h1)
end
end Mini

namespace Mini
open PySem L2 Evl

/-! ### slots that are stored -/
theorem get_set_cases {α : Type} {l : List α} {n i : Nat} {x y : α} (h : (l.set n x)[i]? = some y) : (i = n ∧ y = x) ∨ (i ≠ n ∧ l[i]? = some y) := by
  by_cases e : n = i
  · subst e
    by_cases hl : n < l.length
    · rw [List.getElem?_set_self hl] at h; exact .inl ⟨rfl, (Option.some.inj h).symm⟩
    · rw [List.getElem?_eq_none (by simpa using hl)] at h; cases h
  · rw [List.getElem?_set_ne e] at h; exact .inr ⟨fun q => e q.symm, h⟩
section
variable {M0 B M : Hp} {G : Gm} {σ : L2.St} {n : Nat} {v : V} {P : Ty} {R R' : Ow}
theorem Holds.lt (H : Holds M0 G σ B M) {S : Sl} (h : G[n]? = some S) : n < σ.length := by rw [H.len]; exact (List.getElem?_eq_some_iff.mp h).1
theorem Holds.setIm (H : Holds M0 G σ B M) (hn : n < G.length) (hp : P.p v B) : Holds M0 (G.set n (.im P)) (σ.set n (some v)) B M where
  len := by rw [List.length_set, List.length_set]; exact H.len
  dj := H.dj
  cal := H.cal
  im := fun i P' q => by
    rcases get_set_cases q with ⟨rfl, e⟩ | ⟨e, q⟩
    · cases e; exact ⟨v, List.getElem?_set_self (by rw [H.len]; exact hn), hp⟩
    · rw [List.getElem?_set_ne (Ne.symm e)]; exact H.im i P' q
  ow := fun i R q => by
    rcases get_set_cases q with ⟨rfl, e⟩ | ⟨e, q⟩
    · cases e
    · rw [List.getElem?_set_ne (Ne.symm e)]; exact H.ow i R q
  bw := fun i R q => by
    rcases get_set_cases q with ⟨rfl, e⟩ | ⟨e, q⟩
    · cases e
    · rw [List.getElem?_set_ne (Ne.symm e)]; exact H.bw i R q
  ne := fun i j R R' l q q' a b => by
    rcases get_set_cases q with ⟨rfl, e⟩ | ⟨e, q⟩
    · cases e
    rcases get_set_cases q' with ⟨rfl, e'⟩ | ⟨e', q'⟩
    · cases e'
    rw [List.getElem?_set_ne (Ne.symm e)] at a
    rw [List.getElem?_set_ne (Ne.symm e')] at b
    exact H.ne i j R R' l q q' a b
/-- a new object of one's own at slot n -/
theorem Holds.setOw (H : Holds M0 G σ B M) (hn : n < G.length) {p : Addr} {o : HO} (hf : jn B M p = none) (hr : R.r p o B) : Holds M0 (G.set n (.ow R)) (σ.set n (some (.ref p))) B (upd M p o) where
  len := by rw [List.length_set, List.length_set]; exact H.len
  dj := dj_own H.dj (jn_free hf).1
  cal := fun a o h => by
    have q := H.cal a o h
    rw [upd_ne (ne_of_none q (jn_free hf).2)]; exact q
  im := fun i P' q => by
    rcases get_set_cases q with ⟨rfl, e⟩ | ⟨e, q⟩
    · cases e
    · rw [List.getElem?_set_ne (Ne.symm e)]; exact H.im i P' q
  ow := fun i R q => by
    rcases get_set_cases q with ⟨rfl, e⟩ | ⟨e, q⟩
    · cases e
      refine ⟨p, o, List.getElem?_set_self (by rw [H.len]; exact hn), upd_same, hr, ?_⟩
      cases h0 : M0 p with
      | none => rfl
      | some u => have q1 := H.cal p u h0; rw [(jn_free hf).2] at q1; cases q1
    · rw [List.getElem?_set_ne (Ne.symm e)]
      obtain ⟨l, o', a, b, c, d⟩ := H.ow i R q
      refine ⟨l, o', a, ?_, c, d⟩
      rw [upd_ne (ne_of_none b (jn_free hf).2)]; exact b
  bw := fun i R q => by
    rcases get_set_cases q with ⟨rfl, e⟩ | ⟨e, q⟩
    · cases e
    · rw [List.getElem?_set_ne (Ne.symm e)]; exact H.bw i R q
  ne := fun i j R R' l q q' a b => by
    have old : ∀ (i : Nat) (S : Ow), G[i]? = some (.ow S) → σ[i]? ≠ some (some (.ref p)) := fun i S hi z => by
      obtain ⟨l, o', a, b, _⟩ := H.ow i S hi
      rw [z] at a; cases a
      rw [(jn_free hf).2] at b; cases b
    rcases get_set_cases q with ⟨rfl, e⟩ | ⟨e, q⟩
    · rcases get_set_cases q' with ⟨rfl, e'⟩ | ⟨e', q'⟩
      · rfl
      · rw [List.getElem?_set_self (by rw [H.len]; exact hn)] at a; cases a
        rw [List.getElem?_set_ne (Ne.symm e')] at b
        exact absurd b (old j R' q')
    · rw [List.getElem?_set_ne (Ne.symm e)] at a
      have q0 := q
      rcases get_set_cases q' with ⟨rfl, e'⟩ | ⟨e', q'⟩
      · rw [List.getElem?_set_self (by rw [H.len]; exact hn)] at b; cases b
        exact absurd a (old i R q0)
      · rw [List.getElem?_set_ne (Ne.symm e')] at b
        exact H.ne i j R R' l q0 q' a b
/-- one's own object changes -/
theorem Holds.change (H : Holds M0 G σ B M) (h : G[n]? = some (.ow R)) {l : Addr} {o o' : HO} (hl : σ[n]? = some (some (.ref l))) (ho : M l = some o) (hr : R'.r l o' B) : Holds M0 (G.set n (.ow R')) σ B (upd M l o') where
  len := by rw [List.length_set]; exact H.len
  dj := fun a u e => by
    by_cases q : a = l
    · rw [q, dj_free H.dj ho] at e; cases e
    · rw [upd_ne q]; exact H.dj a u e
  cal := fun a u q => by
    have e : a ≠ l := fun z => by
      obtain ⟨l', o2, a1, b1, c1, d1⟩ := H.ow n R h
      rw [hl] at a1; cases a1
      rw [z, d1] at q; cases q
    rw [upd_ne e]; exact H.cal a u q
  im := fun i P' q => by
    rcases get_set_cases q with ⟨rfl, e⟩ | ⟨e, q⟩
    · cases e
    · exact H.im i P' q
  ow := fun i S q => by
    obtain ⟨l', o2, a1, b1, c1, d1⟩ := H.ow n R h
    rw [hl] at a1; cases a1
    rcases get_set_cases q with ⟨rfl, e⟩ | ⟨e, q⟩
    · cases e
      exact ⟨l, o', hl, upd_same, hr, d1⟩
    · obtain ⟨l2, o3, a, b, c, d⟩ := H.ow i S q
      have hne : l2 ≠ l := fun z => by subst z; exact e (H.ne i n S R l2 q h a hl)
      exact ⟨l2, o3, a, by rw [upd_ne hne]; exact b, c, d⟩
  bw := fun i S q => by
    rcases get_set_cases q with ⟨rfl, e⟩ | ⟨e, q⟩
    · cases e
    · exact H.bw i S q
  ne := fun i j S S' l2 q q' a b => by
    rcases get_set_cases q with ⟨rfl, e⟩ | ⟨e, q⟩
    · rcases get_set_cases q' with ⟨rfl, e'⟩ | ⟨e', q'⟩
      · rfl
      · exact H.ne i j R S' l2 h q' a b
    · have q0 := q
      rcases get_set_cases q' with ⟨rfl, e'⟩ | ⟨e', q'⟩
      · exact H.ne i j S R l2 q0 h a b
      · exact H.ne i j S S' l2 q0 q' a b
/-- a slot is forgotten -/
def Le (G1 G2 : Gm) : Prop := G1.length = G2.length ∧ ∀ (i : Nat) S, G2[i]? = some S → S = .no ∨ G1[i]? = some S
theorem Le.refl (G : Gm) : Le G G := ⟨rfl, fun _ _ h => .inr h⟩
theorem Holds.le {G' : Gm} (H : Holds M0 G σ B M) (h : Le G G') : Holds M0 G' σ B M where
  len := H.len.trans h.1
  dj := H.dj
  cal := H.cal
  im := fun i P q => by rcases h.2 i _ q with e | e; cases e; exact H.im i P e
  ow := fun i P q => by rcases h.2 i _ q with e | e; cases e; exact H.ow i P e
  bw := fun i P q => by rcases h.2 i _ q with e | e; cases e; exact H.bw i P e
  ne := fun i j R R' l q q' a b => by
    rcases h.2 i _ q with e | e
    · cases e
    rcases h.2 j _ q' with e' | e'
    · cases e'
    exact H.ne i j R R' l e e' a b
/-- the slot n is none's: whatever it holds, it is not told -/
theorem Holds.wipe (H : Holds M0 G σ B M) (n : Nat) (x : Option V) : Holds M0 (G.set n .no) (σ.set n x) B M where
  len := by rw [List.length_set, List.length_set]; exact H.len
  dj := H.dj
  cal := H.cal
  im := fun i P' q => by
    rcases get_set_cases q with ⟨rfl, e⟩ | ⟨e, q⟩
    · cases e
    · rw [List.getElem?_set_ne (Ne.symm e)]; exact H.im i P' q
  ow := fun i R q => by
    rcases get_set_cases q with ⟨rfl, e⟩ | ⟨e, q⟩
    · cases e
    · rw [List.getElem?_set_ne (Ne.symm e)]; exact H.ow i R q
  bw := fun i R q => by
    rcases get_set_cases q with ⟨rfl, e⟩ | ⟨e, q⟩
    · cases e
    · rw [List.getElem?_set_ne (Ne.symm e)]; exact H.bw i R q
  ne := fun i j R R' l q q' a b => by
    rcases get_set_cases q with ⟨rfl, e⟩ | ⟨e, q⟩
    · cases e
    rcases get_set_cases q' with ⟨rfl, e'⟩ | ⟨e', q'⟩
    · cases e'
    rw [List.getElem?_set_ne (Ne.symm e)] at a
    rw [List.getElem?_set_ne (Ne.symm e')] at b
    exact H.ne i j R R' l q q' a b
def wipeG (G : Gm) : List Nat → Gm
  | [] => G
  | v :: vs => (wipeG G vs).set v .no
theorem Holds.wipes (H : Holds M0 G σ B M) : ∀ vs, Holds M0 (wipeG G vs) (L2.wipe σ vs) B M
  | [] => H
  | v :: vs => (H.wipes vs).wipe v none
/-- the caller's own objects grow by one that is not told -/
theorem Holds.more (H : Holds M0 G σ B M) {p : Addr} {o : HO} (hf : jn B M p = none) : Holds M0 G σ B (upd M p o) where
  len := H.len
  dj := dj_own H.dj (jn_free hf).1
  cal := fun a o h => by
    have q := H.cal a o h
    rw [upd_ne (ne_of_none q (jn_free hf).2)]; exact q
  im := H.im
  ow := fun i R q => by
    obtain ⟨l, o', a, b, c, d⟩ := H.ow i R q
    exact ⟨l, o', a, by rw [upd_ne (ne_of_none b (jn_free hf).2)]; exact b, c, d⟩
  bw := H.bw
  ne := H.ne
/-- one's own object is let stand -/
def del (M : Hp) (l : Addr) : Hp := fun a => if a = l then none else M a
theorem del_ne {l a : Addr} (h : a ≠ l) : del M l a = M a := if_neg h
theorem jn_del {l : Addr} {o : HO} (h : M l = some o) : jn (upd B l o) (del M l) = jn B M := by
  funext a
  by_cases e : a = l
  · subst e
    rw [jn_N (show del M a a = none from if_pos rfl), upd_same, jn_M h]
  · unfold jn
    rw [del_ne e, upd_ne e]
theorem Holds.freeze (H : Holds M0 G σ B M) (h : G[n]? = some (.ow R)) {l : Addr} {o : HO} (hl : σ[n]? = some (some (.ref l))) (ho : M l = some o) (hp : P.p (.ref l) (upd B l o)) :
    Holds M0 (G.set n (.im P)) σ (upd B l o) (del M l) ∧ Ex B (upd B l o) := by
  have hB := dj_free H.dj ho
  have ex : Ex B (upd B l o) := Ex.new hB
  refine ⟨?_, ex⟩
  exact {
    len := by rw [List.length_set]; exact H.len
    dj := fun a u e => by
      by_cases q : a = l
      · exact if_pos q
      · rw [upd_ne q] at e; rw [del_ne q]; exact H.dj a u e
    cal := fun a u q => by
      have e : a ≠ l := fun z => by
        obtain ⟨l', o2, a1, b1, c1, d1⟩ := H.ow n R h
        rw [hl] at a1; cases a1
        rw [z, d1] at q; cases q
      rw [del_ne e]; exact H.cal a u q
    im := fun i P' q => by
      rcases get_set_cases q with ⟨rfl, e⟩ | ⟨e, q⟩
      · cases e; exact ⟨_, hl, hp⟩
      · obtain ⟨v, a, b⟩ := H.im i P' q; exact ⟨v, a, P'.mono ex b⟩
    ow := fun i S q => by
      rcases get_set_cases q with ⟨rfl, e⟩ | ⟨e, q⟩
      · cases e
      · obtain ⟨l2, o3, a, b, c, d⟩ := H.ow i S q
        have hne : l2 ≠ l := fun z => by subst z; exact e (H.ne i n S R l2 q h a hl)
        exact ⟨l2, o3, a, by rw [del_ne hne]; exact b, S.mono ex c, d⟩
    bw := fun i S q => by
      rcases get_set_cases q with ⟨rfl, e⟩ | ⟨e, q⟩
      · cases e
      · obtain ⟨l2, o3, a, b, c⟩ := H.bw i S q; exact ⟨l2, o3, a, b, S.mono ex c⟩
    ne := fun i j S S' l2 q q' a b => by
      rcases get_set_cases q with ⟨rfl, e⟩ | ⟨e, q⟩
      · cases e
      rcases get_set_cases q' with ⟨rfl, e'⟩ | ⟨e', q'⟩
      · cases e'
      exact H.ne i j S S' l2 q q' a b }
end

section
variable {E : L2.St → XK} {ts tu : TS} {te ta tb : TE} {tt : TT} {G G1 G2 : Gm} {o : Out} {P : Ty} {R : Ow} {d e : PyData} {ds es : List PyData} {b : Bool} {n : Nat}
theorem ss_set (h : Sv te G P) (hn : n < G.length := by exact Nat.le_of_ble_eq_true rfl) : Ss E (tAsg te (gName n)) G (.nx (G.set n (.im P))) := fun M0 D σ B M H q => h M0 σ B M H _ fun v B' e d p => q _ B' M e ((H.ext e d).setIm hn p)
theorem ss_setL (h : Svl te G ds) (hn : n < G.length := by exact Nat.le_of_ble_eq_true rfl) : Ss E (tAsg te (gName n)) G (.nx (G.set n (.ow (isL ds)))) := fun M0 D σ B M H q => h M0 σ B M H _ fun p vs B' e d hf ha => by
  rw [upd_own]
  exact q _ B' _ e ((H.ext e d).setOw hn hf ⟨vs, rfl, ha⟩)
theorem ss_le (hl : Le G G1) (h : Ss E ts G1 o) : Ss E ts G o := fun M0 D σ B M H q => h M0 D σ B M (H.le hl) q
theorem ss_nxLe (h : Ss E ts G (.nx G1)) (hl : Le G1 G2) : Ss E ts G (.nx G2) := fun M0 D σ B M H q => h M0 D σ B M H fun σ' B' M' e H' => q σ' B' M' e (H'.le hl)
theorem ss_ctLe (h : Ss E ts G (.ct G1)) (hl : Le G1 G2) : Ss E ts G (.ct G2) := fun M0 D σ B M H q => h M0 D σ B M H fun σ' B' M' e H' => q σ' B' M' e (H'.le hl)
theorem ss_bkLe (h : Ss E ts G (.bk G1)) (hl : Le G1 G2) : Ss E ts G (.bk G2) := fun M0 D σ B M H q => h M0 D σ B M H fun σ' B' M' e H' => q σ' B' M' e (H'.le hl)
theorem ss_nxIs (h : Ss E ts G (.nx G1)) (e : G1 = G2) : Ss E ts G (.nx G2) := e ▸ h
theorem ss_gIs (e : G = G1) (h : Ss E ts G1 o) : Ss E ts G o := e ▸ h
/-- an owned list is let stand from here on -/
theorem ss_freeze (h : G[n]? = some (.ow (isL ds))) (k : Ss E ts (G.set n (.im (isD (.list ds)))) o) : Ss E ts G o := fun M0 D σ B M H q => by
  obtain ⟨l, ob, a, c, ⟨vs, rfl, r⟩, f⟩ := H.ow n _ h
  obtain ⟨H', ex⟩ := H.freeze h a c (P := isD (.list ds)) (.lst upd_same (DqAll_ex (Ex.new (dj_free H.dj c)) r))
  have k' := k M0 D σ _ _ H' (q.ext ex)
  rw [jn_del c] at k'
  exact k'
/-- xs.append(e), xs one's own -/
theorem ss_append {K : PySem.W.Frag} (h : G[n]? = some (.ow (isL ds))) (he : Sv te G (isD d)) (hz : ds.length < sizeLine) : Ss E (tDrop (tBM K "list" rAppend (tVar n) (tCons te tNil))) G (.nx (G.set n (.ow (isL (ds ++ [d]))))) := fun M0 D σ B M H q => by
  obtain ⟨l, ob, a, c, ⟨vs, rfl, r⟩, f⟩ := H.ow n _ h
  refine ⟨.ref l, a, Or.inl ⟨rfl, vs, sq_of (jn_M c)⟩, ?_⟩
  refine he M0 σ B M H _ fun v B' e dj p => ?_
  refine ⟨l, vs, v, rfl, rfl, jn_M c, by rw [DqAll_len r]; exact hz, ?_⟩
  rw [upd_own]
  exact q σ B' _ e ((H.ext e dj).change h a c ⟨_, rfl, DqAll_append (DqAll_ex e r) (.cons p .nil)⟩)
/-- the same, the thing appended a new list: it is let stand -/
theorem ss_appendL {K : PySem.W.Frag} (h : G[n]? = some (.ow (isL ds))) (he : Svl te G es) (hz : ds.length < sizeLine) : Ss E (tDrop (tBM K "list" rAppend (tVar n) (tCons te tNil))) G (.nx (G.set n (.ow (isL (ds ++ [.list es]))))) := ss_append h (sv_svl he) hz
/-- xs[i] = e, xs one's own -/
theorem ss_setItem {i : Int} {j : Nat} (h : G[n]? = some (.ow (isL ds))) (he : Sv te G (isD d)) (hi : Sv tb G (isD (.int i))) (hj : ixN ds.length i = some j) : Ss E (tAsg te (gSub (tVar n) tb rSetL)) G (.nx (G.set n (.ow (isL (ds.set j d))))) := fun M0 D σ B M H q => by
  obtain ⟨l, ob, a, c, ⟨vs, rfl, r⟩, f⟩ := H.ow n _ h
  refine he M0 σ B M H _ fun v B1 e1 d1 p1 => ?_
  refine ⟨.ref l, a, ?_⟩
  refine hi M0 σ B1 M (H.ext e1 d1) _ fun iv B2 e2 d2 p2 => ?_
  rw [dp_int p2]
  refine ⟨l, vs, i, j, rfl, rfl, jn_M c, by rw [DqAll_len r]; exact hj, ?_⟩
  rw [upd_own]
  exact q σ B2 _ (e1.trans e2) (((H.ext e1 d1).ext e2 d2).change h a c ⟨_, rfl, DqAll_set (Dq_ex e2 d v p1) j (DqAll_ex (e1.trans e2) r)⟩)
/-- x = xs.pop(i), xs one's own -/
theorem ss_setPopAt {K : PySem.W.Frag} {m : Nat} {i : Int} (h : G[n]? = some (.ow (isL ds))) (hi : Sv te G (isD (.int i))) (hb : 0 ≤ i ∧ i < ds.length) (hz : ds.length ≤ sizeLine) (hk : ds[i.toNat]? = some d) (hm : m < G.length := by exact Nat.le_of_ble_eq_true rfl) (hne : m ≠ n := by decide) :
    Ss E (tAsg (tBM K "list" rPopAt (tVar n) (tCons te tNil)) (gName m)) G (.nx ((G.set n (.ow (isL (ds.eraseIdx i.toNat)))).set m (.im (isD d)))) := fun M0 D σ B M H q => by
  obtain ⟨l, ob, a, c, ⟨vs, rfl, r⟩, f⟩ := H.ow n _ h
  refine ⟨.ref l, a, Or.inl ⟨rfl, vs, sq_of (jn_M c)⟩, ?_⟩
  refine hi M0 σ B M H _ fun iv B1 e1 d1 p1 => ?_
  rw [dp_int p1]
  obtain ⟨y, hy, py⟩ := DqAll_get (DqAll_ex e1 r) hk
  have hlen := DqAll_len r
  have hzz : (sizeLine : Nat) = 16777216 := sizeLine_eq
  refine ⟨l, vs, i, i.toNat, y, rfl, rfl, jn_M c, by omega, by omega, ?_, hy, ?_⟩
  · unfold seqIndex?
    rw [hlen]
    have h1 : ¬ i < 0 := by omega
    have h2 : i < (ds.length : Int) := hb.2
    simp [h1, h2]
    try omega
  rw [upd_own]
  refine q _ B1 _ e1 ?_
  exact ((H.ext e1 d1).change h a c (R' := isL (ds.eraseIdx i.toNat)) ⟨_, rfl, DqAll_eraseIdx _ (DqAll_ex e1 r)⟩).setIm (by rw [List.length_set]; exact hm) py
end
end Mini

namespace Mini
open PySem L2 Evl

/-! ### operators that take whatever stands -/
section
open PyProof.Rows
variable {X : Cx}
/-- tuple * int, the answer below a million items -/
def rRepM (K : PySem.W.Frag) : R2 := fun x y H Q => ∃ l k xs, x = .ref l ∧ y = .int k ∧ SqT K H l xs ∧ xs ≠ [] ∧ 2 ≤ k ∧ (xs.length : Int) * k ≤ 1000000 ∧ ∀ p, H p = none → Q (.ref p) (upd H p (.tup (List.replicate k.toNat xs).flatten))
theorem op_repM : OpR X (binaryOp .Mult) (rRepM X.K) := by
  intro pins s σ H x y v u Q I rx ry h
  obtain ⟨l, k, xs, e1, e2, hT, hne, h1, hm', q⟩ := h
  subst e1 e2
  cases rx
  obtain ⟨t, rfl⟩ := ry
  obtain ⟨its, r, ⟨⟨cls, dd, data, sl⟩, ho, hc, n, hd⟩, hs⟩ := I.tuple hT
  simp only at hc hd
  subst hc hd
  have hle : its.length = xs.length := r.length.symm
  have hpos : 1 ≤ its.length := by
    cases its with
    | nil => exact absurd (List.length_eq_zero_iff.mp hle.symm) hne
    | cons a b => exact Nat.succ_le_succ (Nat.zero_le _)
  have hi : its.toArray.isEmpty = false := by
    cases its with
    | nil => exact absurd hpos (by decide)
    | cons a b => rfl
  have hk : k ≤ 1000000 := by
    have z : (1 : Int) * k ≤ (xs.length : Int) * k := Int.mul_le_mul_of_nonneg_right (by omega) (by omega)
    omega
  have hm : ((its.toArray.size : Nat) : Int) * k ≤ 1000000 := by rw [List.size_toArray, hle]; exact hm'
  have hmN : k.toNat * xs.length ≤ 1000000 := by
    have z : ((k.toNat * xs.length : Nat) : Int) ≤ 1000000 := by
      rw [Int.natCast_mul, Int.toNat_of_nonneg (by omega), Int.mul_comm]; exact hm'
    omega
  have flen : (List.replicate k.toNat its).flatten.length ≤ sizeLine := by
    rw [PyProof.Rows.lm_len_rep_flat, hle, sizeLine_eq]
    omega
  have a0 : (decide (k < -(2 ^ 63)) || decide (k ≥ 2 ^ 63)) = false := by
    rw [decide_eq_false (by omega), decide_eq_false (by omega)]; rfl
  have a1 : (its.toArray.isEmpty || k == 1) = false := by rw [hi, Bool.false_or]; exact beq_eq_false_iff_ne.mpr (by omega)
  have a2 : (decide (k ≤ 0) || its.toArray.isEmpty) = false := by rw [hi, Bool.or_false]; exact decide_eq_false (by omega)
  have a4 : Builtin.Tuple.tupleTooMany (((its.toArray.size : Nat) : Int) * k) = false := by unfold Builtin.Tuple.tupleTooMany; rw [sizeLine_eq]; exact decide_eq_false (by omega)
  refine wpAny_binaryOp_repeat_ref (T := "tuple") (U := "int") (by decide) ⟨_, ho, rfl⟩ (fun s' => typeIs_int s' k t) noFill_tuple_mul F.fills_int_mul F.slot_int_rmul repeat_tuple F.slot_int_index.lookup ?_
  refine call_meets F.slot_int_rmul (typeIs_int s k t) F.entry_int_rmul (F.args_int_rmul_2 _ _) (int_rmul_tuple k t l its.toArray n dd sl) ⟨ho, rfl, ⟨_, ho, rfl⟩, ?_⟩
  refine call_meets F.slot_tuple_mul ⟨_, ho, rfl⟩ F.entry_tuple_mul (F.args_tuple_mul_2 _ _) (tuple_mulW l its.toArray n dd sl k t a0 a1 a2 (by omega) a4 (by rw [size_rep, List.size_toArray]; exact flen)) ⟨ho, ?_⟩
  rw [size_rep]
  refine ⟨.ref s.heap.objs.size, _, I.laid (t' := s.toks) (o := .tup (List.replicate k.toNat xs).flatten) (fun b ob q => Heap.get?_push_of_some _ q) (Nat.le_refl _) ?_, rfl, q _ (I.hok.fresh (Nat.le_refl _))⟩
  exact ⟨by rw [PyProof.Rows.lm_len_rep_flat, sizeLine_eq]; omega, _, r.rep k.toNat, IsTup.new _ _⟩
def rAddS2 : R2 := fun x y H Q => ∃ i j, x = .str i ∧ y = .str j ∧ i.length + j.length ≤ sizeLine ∧ Q (.str (i ++ j)) H
def uAdd (K : PySem.W.Frag) : R2 := fun x y H Q => rI0 (fun i j => .int (i + j)) x y H Q ∨ (rCat x y H Q ∨ (rCatA K x y H Q ∨ rAddS2 x y H Q))
theorem op_uAdd : OpR X (binaryOp .Add) (uAdd X.K) := OpR.or op_add (OpR.or op_cat (OpR.or op_catA op_add_str))
def uMul (K : PySem.W.Frag) : R2 := fun x y H Q => rI CMul (fun i j => .int (i * j)) x y H Q ∨ (rRep x y H Q ∨ rRepM K x y H Q)
theorem op_uMul : OpR X (binaryOp .Mult) (uMul X.K) := OpR.or op_mul (OpR.or op_rep op_repM)
def uSl (K : PySem.W.Frag) : V → Option Int → Option Int → Hp → VK → Prop := fun x lo hi H Q => rSlL K x lo hi H Q ∨ rSlA K x lo hi H Q
theorem sl_uSl : SlR X (uSl X.K) := SlR.or sl_list sl_tupA
end
end Mini

namespace Mini
open PySem L2 Evl

/-- the items of ds[lo:hi] -/
def cutD {α : Type} (ds : List α) (lo hi : Option Int) : List α := (ds.drop (HT.sIx ds.length 0 lo)).take (HT.sIx ds.length ds.length hi - HT.sIx ds.length 0 lo)
theorem DqAll_cut {B : Hp} {ds : List PyData} {vs : List V} (h : DqAll B vs ds) (lo hi : Option Int) : DqAll B (cutV vs lo hi) (cutD ds lo hi) := by
  unfold cutV cutD
  rw [DqAll_len h]
  exact DqAll_take _ (DqAll_drop _ h)
theorem DqAll_atI {B : Hp} {ds : List PyData} {vs : List V} (h : DqAll B vs ds) {i : Int} {d : PyData} (e : atI ds i = some d) : ∃ v, atI vs i = some v ∧ Dq B v d := by
  unfold atI at e ⊢
  rw [DqAll_len h]
  cases q : ixN ds.length i with
  | none => rw [q] at e; cases e
  | some j => rw [q] at e; exact DqAll_get h e
theorem ars_data {B M : Hp} : ∀ {ds : List PyData} {vs : List V}, ArsOk (ds.map fun d => .im (isD d)) vs B M → DqAll B vs ds
  | [], _, h => by cases h; exact .nil
  | d :: ds, _, h => by cases h with | cons a b => exact .cons a (ars_data b)
def tyName : PyData → String
  | .none => "NoneType"
  | .bool _ => "bool"
  | .int _ => "int"
  | .str _ => "str"
  | .list _ => "list"
  | .tuple _ => "tuple"
  | .dict _ => "dict"
theorem Dq_ty {K : PySem.W.Frag} {H : Hp} {v : V} {d : PyData} (h : Dq H v d) : TyX K H v (.type (tyName d)) := by
  cases h with
  | non => exact .base .non
  | bl b => exact .base (.bl b)
  | int i => exact .base (.int i)
  | str x => exact .base (.str x)
  | lst e _ => exact .base (.lst e)
  | tup e _ => exact .base (.tup e)
/-- the script: a list of ints that is read alone -/
def isS (K : PySem.W.Frag) (ns : List Int) : Ty := ⟨fun v B => ∃ a, v = .ref a ∧ SqL K B a (ns.map V.int), fun e h => by obtain ⟨a, h1, h2⟩ := h; exact ⟨a, h1, ex_l e h2⟩⟩

section
variable {K : PySem.W.Frag} {G : Gm} {te ta tb tc tl : TE} {tt tu : TT} {tas : TA} {P Pa Pb Pc : Ty} {R : Ow} {d e : PyData} {ds es : List PyData} {b c : Bool} {i j : Int} {E : L2.St → XK}

/-! ints -/
theorem sv_op2 {r : R2} (ha : Sv ta G Pa) (hb : Sv tb G Pb) (hr : Rv r Pa Pb P) : Sv (tOp r ta tb) G P := sv_op ha hb hr
theorem sv_add (ha : Sv ta G (isD (.int i))) (hb : Sv tb G (isD (.int j))) : Sv (tOp (uAdd K) ta tb) G (isD (.int (i + j))) := sv_op ha hb (rv_or1 rv_I0)
theorem sv_sub (ha : Sv ta G (isD (.int i))) (hb : Sv tb G (isD (.int j))) : Sv (tOp (rI0 fun i j => .int (i - j)) ta tb) G (isD (.int (i - j))) := sv_op ha hb rv_I0
theorem sv_mul (ha : Sv ta G (isD (.int i))) (hb : Sv tb G (isD (.int j))) (hc : CMul i j) : Sv (tOp (uMul K) ta tb) G (isD (.int (i * j))) := sv_op ha hb (rv_or1 (rv_I hc))
theorem sv_mod (ha : Sv ta G (isD (.int i))) (hb : Sv tb G (isD (.int j))) (hc : 0 < j) : Sv (tOp (rI (fun _ j => 0 < j) fun i j => .int (i % j)) ta tb) G (isD (.int (i % j))) := sv_op ha hb (rv_I (C := fun _ j => 0 < j) hc)
theorem sv_div (ha : Sv ta G (isD (.int i))) (hb : Sv tb G (isD (.int j))) (hc : CDiv i j) : Sv (tOp (rI CDiv fun i j => .int (i / j)) ta tb) G (isD (.int (i / j))) := sv_op ha hb (rv_I hc)
theorem sv_pow (ha : Sv ta G (isD (.int i))) (hb : Sv tb G (isD (.int j))) (hc : CPow i j) : Sv (tOp (rI CPow fun i j => .int (i ^ j.toNat)) ta tb) G (isD (.int (i ^ j.toNat))) := sv_op ha hb (rv_I hc)
theorem sv_cmp {g : Int → Int → Bool} (ha : Sv ta G (isD (.int i))) (hb : Sv tb G (isD (.int j))) : Sv (tOp (rI0 fun i j => .bl (g i j)) ta tb) G (isD (.bool (g i j))) := sv_op ha hb rv_B0
theorem sv_neg (ha : Sv ta G (isD (.int i))) : Sv (tUn (rU fun i => .int (-i)) ta) G (isD (.int (-i))) := fun M0 σ B M H Q q => ha M0 σ B M H _ fun v B' e d p => ⟨i, dp_int p, q _ B' e d (.int _)⟩
/-- a op b op' c -/
theorem sv_chain {g g' : Int → Int → Bool} {i j k : Int} (ha : Sv ta G (isD (.int i))) (hb : Sv tb G (isD (.int j))) (hc : g i j = true → Sv tc G (isD (.int k))) : Sv (tChain (rI0 fun i j => .bl (g i j)) (rI0 fun i j => .bl (g' i j)) ta tb tc) G (isD (.bool (g i j && g' j k))) := fun M0 σ B M H Q q =>
  ha M0 σ B M H _ fun x B1 e1 d1 p1 => hb M0 σ B1 M (H.ext e1 d1) _ fun y B2 e2 d2 p2 => by
    rw [dp_int p1, dp_int p2]
    refine ⟨i, j, rfl, rfl, g i j, rfl, ?_⟩
    cases h : g i j with
    | true =>
      rw [if_pos rfl]
      refine hc h M0 σ B2 M ((H.ext e1 d1).ext e2 d2) _ fun z B3 e3 d3 p3 => ?_
      rw [dp_int p3]
      refine ⟨j, k, rfl, rfl, q _ B3 ((e1.trans e2).trans e3) d3 ?_⟩
      rw [h]
      exact .bl _
    | false =>
      rw [if_neg Bool.false_ne_true]
      refine q _ B2 (e1.trans e2) d2 ?_
      rw [h]
      exact .bl _

/-! == of data -/
theorem rv_eqD (h1 : SeqAt.shaped d = true) (h2 : SeqAt.shaped e = true) : Rv (rEqD K) (isD d) (isD e) (isD (.bool (PyData.eqv d e))) := fun B M x y dj p1 p2 Q q => ⟨d, e, Dq_dp d x (Dq_ex (jn_ex dj) d x p1), Dq_dp e y (Dq_ex (jn_ex dj) e y p2), h1, h2, q _ B (Ex.refl B) dj (.bl _)⟩
theorem rv_neD (h1 : SeqAt.shaped d = true) (h2 : SeqAt.shaped e = true) : Rv (rNeD K) (isD d) (isD e) (isD (.bool (!PyData.eqv d e))) := fun B M x y dj p1 p2 Q q => ⟨d, e, Dq_dp d x (Dq_ex (jn_ex dj) d x p1), Dq_dp e y (Dq_ex (jn_ex dj) e y p2), h1, h2, q _ B (Ex.refl B) dj (.bl _)⟩
theorem sv_eq (ha : Sv ta G (isD d)) (hb : Sv tb G (isD e)) (h1 : SeqAt.shaped d = true) (h2 : SeqAt.shaped e = true) : Sv (tOp (rEqD K) ta tb) G (isD (.bool (PyData.eqv d e))) := sv_op ha hb (rv_eqD h1 h2)
theorem sv_ne (ha : Sv ta G (isD d)) (hb : Sv tb G (isD e)) (h1 : SeqAt.shaped d = true) (h2 : SeqAt.shaped e = true) : Sv (tOp (rNeD K) ta tb) G (isD (.bool (!PyData.eqv d e))) := sv_op ha hb (rv_neD h1 h2)
theorem sv_eqI (ha : Sv ta G (isD (.int i))) (hb : Sv tb G (isD (.int j))) : Sv (tOp (rEqD K) ta tb) G (isD (.bool (decide (i = j)))) := by
  refine sv_is (sv_eq ha hb rfl rfl) ?_
  show PyData.bool (PyData.eqv (.int i) (.int j)) = _
  rw [PyData.eqv]
  congr 1
theorem sv_neI (ha : Sv ta G (isD (.int i))) (hb : Sv tb G (isD (.int j))) : Sv (tOp (rNeD K) ta tb) G (isD (.bool (!decide (i = j)))) := by
  refine sv_is (sv_ne ha hb rfl rfl) ?_
  show PyData.bool (!PyData.eqv (.int i) (.int j)) = _
  rw [PyData.eqv]
  congr 2
theorem sv_isN (ha : Sv ta G (isD d)) : Sv (tOp (fun x y H Q => y = .non ∧ Q (.bl (decide (x = .non))) H) ta (tC .non)) G (isD (.bool (match d with | .none => true | _ => false))) := fun M0 σ B M H Q q => ha M0 σ B M H _ fun v B' e dj p => ⟨rfl, by
  refine q _ B' e dj ?_
  cases p with
  | non => exact .bl _
  | _ => exact .bl false⟩

/-! sequences -/
theorem svl_cat (ha : Rl ta G ds) (hb : Rl tb G es) (hz : ds.length + es.length ≤ sizeLine) : Svl (tOp (uAdd K) ta tb) G (ds ++ es) := fun M0 σ B M H Q q =>
  ha M0 σ B M H _ fun a vs B1 e1 d1 h1 q1 => hb M0 σ B1 M (H.ext e1 d1) _ fun a2 us B2 e2 d2 h2 q2 => .inr (.inl
    ⟨a, a2, vs, us, rfl, rfl, jn_mono e2 d2 _ _ h1, h2, by rw [DqAll_len q1, DqAll_len q2]; exact hz, fun p hp => q p _ B2 (e1.trans e2) d2 hp (DqAll_append (DqAll_ex e2 q1) q2)⟩)
theorem svl_rep (ha : Rl ta G ds) (hb : Sv tb G (isD (.int i))) (h0 : -(2 ^ 63) ≤ i) (h1 : i < 2 ^ 63) (hz : ds.length * i.toNat ≤ sizeLine) : Svl (tOp (uMul K) ta tb) G (List.replicate i.toNat ds).flatten := fun M0 σ B M H Q q =>
  ha M0 σ B M H _ fun a vs B1 e1 d1 hh q1 => hb M0 σ B1 M (H.ext e1 d1) _ fun y B2 e2 d2 p2 => by
    rw [dp_int p2]
    exact .inr (.inl ⟨a, i, vs, rfl, rfl, jn_mono e2 d2 _ _ hh, h0, h1, by rw [DqAll_len q1]; exact hz, fun p hp => q p _ B2 (e1.trans e2) d2 hp (DqAll_rep (DqAll_ex e2 q1) _)⟩)
theorem dq_tup {B : Hp} {v : V} (h : (isD (.tuple ds)).p v B) : ∃ a vs, v = .ref a ∧ B a = some (.tup vs) ∧ DqAll B vs ds := by cases (show Dq B v (.tuple ds) from h) with | tup h1 h2 => exact ⟨_, _, rfl, h1, h2⟩
theorem dq_lst {B : Hp} {v : V} (h : (isD (.list ds)).p v B) : ∃ a vs, v = .ref a ∧ B a = some (.lst vs) ∧ DqAll B vs ds := by cases (show Dq B v (.list ds) from h) with | lst h1 h2 => exact ⟨_, _, rfl, h1, h2⟩
theorem sv_catT (ha : Sv ta G (isD (.tuple ds))) (hb : Sv tb G (isD (.tuple es))) (hz : ds.length + es.length ≤ sizeLine) : Sv (tOp (uAdd K) ta tb) G (isD (.tuple (ds ++ es))) := fun M0 σ B M H Q q =>
  ha M0 σ B M H _ fun x B1 e1 d1 p1 => hb M0 σ B1 M (H.ext e1 d1) _ fun y B2 e2 d2 p2 => by
    obtain ⟨a, vs, rfl, h1, q1⟩ := dq_tup ((isD (.tuple ds)).mono e2 p1)
    obtain ⟨a2, us, rfl, h2, q2⟩ := dq_tup p2
    refine .inr (.inr (.inl ⟨a, a2, vs, us, rfl, rfl, st_of (jn_B d2 h1), st_of (jn_B d2 h2), by rw [DqAll_len q1, DqAll_len q2]; exact hz, fun z => ?_, fun _ z => ?_, fun _ _ p hp => ?_⟩))
    · refine q _ B2 (e1.trans e2) d2 (.tup h2 ?_)
      have z' : ds = [] := by have := DqAll_len q1; rw [z] at this; exact List.length_eq_zero_iff.mp this.symm
      rw [z', List.nil_append]; exact q2
    · refine q _ B2 (e1.trans e2) d2 (.tup h1 ?_)
      have z' : es = [] := by have := DqAll_len q2; rw [z] at this; exact List.length_eq_zero_iff.mp this.symm
      rw [z', List.append_nil]; exact q1
    · rw [upd_new hp]
      exact q _ _ ((e1.trans e2).trans (ex_new hp)) (dj_new d2 hp) (.tup upd_same (DqAll_ex (ex_new hp) (DqAll_append q1 q2)))
theorem sv_repT (ha : Sv ta G (isD (.tuple ds))) (hb : Sv tb G (isD (.int i))) (hn : ds ≠ []) (h0 : 2 ≤ i) (hz : (ds.length : Int) * i ≤ 1000000) : Sv (tOp (uMul K) ta tb) G (isD (.tuple (List.replicate i.toNat ds).flatten)) := fun M0 σ B M H Q q =>
  ha M0 σ B M H _ fun x B1 e1 d1 p1 => hb M0 σ B1 M (H.ext e1 d1) _ fun y B2 e2 d2 p2 => by
    obtain ⟨a, vs, rfl, h1, q1⟩ := dq_tup ((isD (.tuple ds)).mono e2 p1)
    rw [dp_int p2]
    refine .inr (.inr ⟨a, i, vs, rfl, rfl, st_of (jn_B d2 h1), fun z => hn ?_, h0, by rw [DqAll_len q1]; exact hz, fun p hp => ?_⟩)
    · have := DqAll_len q1; rw [z] at this; exact List.length_eq_zero_iff.mp this.symm
    · rw [upd_new hp]
      exact q _ _ ((e1.trans e2).trans (ex_new hp)) (dj_new d2 hp) (.tup upd_same (DqAll_ex (ex_new hp) (DqAll_rep q1 _)))
theorem sv_ixL (ha : Rl ta G ds) (hb : Sv tb G (isD (.int i))) (hi : atI ds i = some d) : Sv (tOp (rIx K) ta tb) G (isD d) := fun M0 σ B M H Q q =>
  ha M0 σ B M H _ fun a vs B1 e1 d1 hh q1 => hb M0 σ B1 M (H.ext e1 d1) _ fun y B2 e2 d2 p2 => by
    rw [dp_int p2]
    obtain ⟨v, h1, h2⟩ := DqAll_atI q1 hi
    exact .inl ⟨a, vs, i, v, rfl, rfl, sq_of (jn_mono e2 d2 _ _ hh), h1, q v B2 (e1.trans e2) d2 (Dq_ex e2 d v h2)⟩
theorem sv_ixT (ha : Sv ta G (isD (.tuple ds))) (hb : Sv tb G (isD (.int i))) (hi : atI ds i = some d) : Sv (tOp (rIx K) ta tb) G (isD d) := fun M0 σ B M H Q q =>
  ha M0 σ B M H _ fun x B1 e1 d1 p1 => hb M0 σ B1 M (H.ext e1 d1) _ fun y B2 e2 d2 p2 => by
    obtain ⟨a, vs, rfl, hh, q1⟩ := dq_tup ((isD (.tuple ds)).mono e2 p1)
    rw [dp_int p2]
    obtain ⟨v, h1, h2⟩ := DqAll_atI q1 hi
    exact .inr (.inl ⟨a, vs, i, v, rfl, rfl, st_of (jn_B d2 hh), h1, q v B2 (e1.trans e2) d2 h2⟩)
theorem so_none : So tNoPart G none := fun M0 σ B M H Q q => q B (Ex.refl B) H.dj
theorem so_some (h : Sv te G (isD (.int i))) : So (tPart te) G (some i) := fun M0 σ B M H Q q => h M0 σ B M H _ fun v B' e d p => ⟨i, dp_int p, q B' e d⟩
theorem svl_slice {to th : TO} {lo hi : Option Int} (ha : Rl ta G ds) (hl : So to G lo) (hu : So th G hi) : Svl (tSl (uSl K) ta to th) G (cutD ds lo hi) := fun M0 σ B M H Q q =>
  ha M0 σ B M H _ fun a vs B1 e1 d1 hh q1 => hl M0 σ B1 M (H.ext e1 d1) _ fun B2 e2 d2 => hu M0 σ B2 M ((H.ext e1 d1).ext e2 d2) _ fun B3 e3 d3 =>
    .inl ⟨a, vs, rfl, sq_of (jn_mono (e2.trans e3) d3 _ _ hh), fun p hp => q p _ B3 ((e1.trans e2).trans e3) d3 hp (DqAll_cut (DqAll_ex (e2.trans e3) q1) lo hi)⟩
theorem svl_sliceS {to th : TO} {lo hi : Option Int} {ns : List Int} (ha : Sv ta G (isS K ns)) (hl : So to G lo) (hu : So th G hi) : Svl (tSl (uSl K) ta to th) G ((cutD ns lo hi).map PyData.int) := fun M0 σ B M H Q q =>
  ha M0 σ B M H _ fun x B1 e1 d1 p1 => hl M0 σ B1 M (H.ext e1 d1) _ fun B2 e2 d2 => hu M0 σ B2 M ((H.ext e1 d1).ext e2 d2) _ fun B3 e3 d3 => by
    obtain ⟨a, rfl, hh⟩ := p1
    refine .inl ⟨a, _, rfl, ex_l (jn_ex d3) (ex_l (e2.trans e3) hh), fun p hp => ?_⟩
    refine q p _ B3 ((e1.trans e2).trans e3) d3 hp ?_
    have hc : cutV (ns.map V.int) lo hi = (cutD ns lo hi).map V.int := by unfold cutV cutD; rw [List.length_map, List.map_take, List.map_drop]
    rw [hc]
    exact DqAll_ofInts _
theorem sv_sliceT {to th : TO} {lo hi : Option Int} (ha : Sv ta G (isD (.tuple ds))) (hl : So to G lo) (hu : So th G hi) : Sv (tSl (uSl K) ta to th) G (isD (.tuple (cutD ds lo hi))) := fun M0 σ B M H Q q =>
  ha M0 σ B M H _ fun x B1 e1 d1 p1 => hl M0 σ B1 M (H.ext e1 d1) _ fun B2 e2 d2 => hu M0 σ B2 M ((H.ext e1 d1).ext e2 d2) _ fun B3 e3 d3 => by
    obtain ⟨a, vs, rfl, hh, q1⟩ := dq_tup ((isD (.tuple ds)).mono (e2.trans e3) p1)
    refine .inr ⟨a, vs, rfl, st_of (jn_B d3 hh), fun z => ?_, fun _ p hp => ?_⟩
    · refine q _ B3 ((e1.trans e2).trans e3) d3 (.tup hh ?_)
      have w := DqAll_cut q1 lo hi
      unfold cutV at w
      rw [z.1, z.2, List.drop_zero, Nat.sub_zero, List.take_length] at w
      exact w
    · rw [upd_new hp]
      exact q _ _ (((e1.trans e2).trans e3).trans (ex_new hp)) (dj_new d3 hp) (.tup upd_same (DqAll_ex (ex_new hp) (DqAll_cut q1 lo hi)))
theorem sa_ims {tr : TA} (h : Sv te G (isD d)) (hr : Sa tr G (ds.map fun d => .im (isD d))) : Sa (tCons te tr) G ((d :: ds).map fun d => .im (isD d)) := sa_im h hr
theorem sv_tup (h : Sa tas G (ds.map fun d => .im (isD d))) (hz : ds.length ≤ sizeLine) : Sv (tTup tas) G (isD (.tuple ds)) := fun M0 σ B M H Q q => h M0 σ B M H _ fun vs B' e dj p => by
  refine ⟨by rw [DqAll_len (ars_data p)]; exact hz, fun a ha => ?_⟩
  rw [upd_new ha]
  exact q _ _ (e.trans (ex_new ha)) (dj_new dj ha) (.tup upd_same (DqAll_ex (ex_new ha) (ars_data p)))
theorem svl_lst (h : Sa tas G (ds.map fun d => .im (isD d))) (hz : ds.length ≤ sizeLine) : Svl (tLst tas) G ds := fun M0 σ B M H Q q => h M0 σ B M H _ fun vs B' e dj p => by
  refine ⟨by rw [DqAll_len (ars_data p)]; exact hz, fun a ha => ?_⟩
  exact q _ _ _ e dj ha (ars_data p)

/-! built-in calls -/
theorem sv_lenL (ha : Rl ta G ds) : Sv (tCB (fun xs H Q => ∃ x n, xs = [x] ∧ LenV K x H n ∧ Q (.int n) H) (tCons ta tNil)) G (isD (.int ds.length)) := fun M0 σ B M H Q q => ha M0 σ B M H _ fun a vs B1 e1 d1 hh q1 =>
  ⟨.ref a, ds.length, rfl, .inl ⟨vs, sq_of hh, (DqAll_len q1).symm⟩, q _ B1 e1 d1 (.int _)⟩
theorem sv_lenT (ha : Sv ta G (isD (.tuple ds))) : Sv (tCB (fun xs H Q => ∃ x n, xs = [x] ∧ LenV K x H n ∧ Q (.int n) H) (tCons ta tNil)) G (isD (.int ds.length)) := fun M0 σ B M H Q q => ha M0 σ B M H _ fun x B1 e1 d1 p1 => by
  obtain ⟨a, vs, rfl, hh, q1⟩ := dq_tup p1
  exact ⟨.ref a, ds.length, rfl, .inr ⟨vs, st_of (jn_B d1 hh), (DqAll_len q1).symm⟩, q _ B1 e1 d1 (.int _)⟩
theorem svl_list (ha : Rl ta G ds) : Svl (tCB (fun xs H Q => ∃ p ys, xs = [.ref p] ∧ (SqL K H p ys ∨ SqT K H p ys) ∧ ∀ l, H l = none → Q (.ref l) (upd H l (.lst ys))) (tCons ta tNil)) G ds := fun M0 σ B M H Q q => ha M0 σ B M H _ fun a vs B1 e1 d1 hh q1 =>
  ⟨a, vs, rfl, .inl (sq_of hh), fun l hl => q l vs B1 e1 d1 hl q1⟩
theorem svl_listT (ha : Sv ta G (isD (.tuple ds))) : Svl (tCB (fun xs H Q => ∃ p ys, xs = [.ref p] ∧ (SqL K H p ys ∨ SqT K H p ys) ∧ ∀ l, H l = none → Q (.ref l) (upd H l (.lst ys))) (tCons ta tNil)) G ds := fun M0 σ B M H Q q => ha M0 σ B M H _ fun x B1 e1 d1 p1 => by
  obtain ⟨a, vs, rfl, hh, q1⟩ := dq_tup p1
  exact ⟨a, vs, rfl, .inr (st_of (jn_B d1 hh)), fun l hl => q l vs B1 e1 d1 hl q1⟩
theorem sv_tupleL (ha : Rl ta G ds) : Sv (tThen ta (kTup K)) G (isD (.tuple ds)) := fun M0 σ B M H Q q => ha M0 σ B M H _ fun a vs B1 e1 d1 hh q1 =>
  .inl ⟨a, vs, rfl, sq_of hh, fun l hl => by
    rw [upd_new hl]
    exact q _ _ (e1.trans (ex_new hl)) (dj_new d1 hl) (.tup upd_same (DqAll_ex (ex_new hl) q1))⟩
theorem sv_tupleT (ha : Sv ta G (isD (.tuple ds))) : Sv (tThen ta (kTup K)) G (isD (.tuple ds)) := fun M0 σ B M H Q q => ha M0 σ B M H _ fun x B1 e1 d1 p1 => by
  obtain ⟨a, vs, rfl, hh, q1⟩ := dq_tup p1
  exact .inr ⟨a, vs, rfl, st_of (jn_B d1 hh), q _ B1 e1 d1 (.tup hh q1)⟩
abbrev cInt : List V → Hp → VK → Prop := fun xs H Q => (∃ i, xs = [.int i] ∧ Q (.int i) H) ∨ ∃ k, xs = [.bl k] ∧ Q (.int (if k then 1 else 0)) H
theorem sv_int1 (ha : Sv ta G (isD (.int i))) : Sv (tCB cInt (tCons ta tNil)) G (isD (.int i)) := fun M0 σ B M H Q q => ha M0 σ B M H _ fun x B1 e1 d1 p1 => .inl ⟨i, by rw [dp_int p1], q _ B1 e1 d1 (.int _)⟩
theorem sv_intB (ha : Sv ta G (isD (.bool b))) : Sv (tCB cInt (tCons ta tNil)) G (isD (.int (if b then 1 else 0))) := fun M0 σ B M H Q q => ha M0 σ B M H _ fun x B1 e1 d1 p1 => .inr ⟨b, by rw [dp_bool p1], q _ B1 e1 d1 (.int _)⟩
theorem sv_abs (ha : Sv ta G (isD (.int i))) : Sv (tCB (fun xs H Q => ∃ i, xs = [.int i] ∧ Q (.int (if i < 0 then -i else i)) H) (tCons ta tNil)) G (isD (.int (if i < 0 then -i else i))) := fun M0 σ B M H Q q => ha M0 σ B M H _ fun x B1 e1 d1 p1 => ⟨i, by rw [dp_int p1], q _ B1 e1 d1 (.int _)⟩
theorem sv_max2 (ha : Sv ta G (isD (.int i))) (hb : Sv tb G (isD (.int j))) : Sv (tCB (fun xs H Q => ∃ i j, xs = [.int i, .int j] ∧ Q (.int (if j > i then j else i)) H) (tCons ta (tCons tb tNil))) G (isD (.int (if j > i then j else i))) := fun M0 σ B M H Q q =>
  ha M0 σ B M H _ fun x B1 e1 d1 p1 => hb M0 σ B1 M (H.ext e1 d1) _ fun y B2 e2 d2 p2 => ⟨i, j, by rw [dp_int p1, dp_int p2], q _ B2 (e1.trans e2) d2 (.int _)⟩
theorem sv_all {bs : List Bool} (ha : Rl ta G (bs.map PyData.bool)) : Sv (tCB (rAll K) (tCons ta tNil)) G (isD (.bool (bs.all id))) := fun M0 σ B M H Q q => ha M0 σ B M H _ fun a vs B1 e1 d1 hh q1 => ⟨a, bs, rfl, by rw [← DqAll_bools q1]; exact sq_of hh, q _ B1 e1 d1 (.bl _)⟩
theorem sv_any {bs : List Bool} (ha : Rl ta G (bs.map PyData.bool)) : Sv (tCB (rAny K) (tCons ta tNil)) G (isD (.bool (bs.any id))) := fun M0 σ B M H Q q => ha M0 σ B M H _ fun a vs B1 e1 d1 hh q1 => ⟨a, bs, rfl, by rw [← DqAll_bools q1]; exact sq_of hh, q _ B1 e1 d1 (.bl _)⟩
theorem sv_sum {ns : List Int} (ha : Rl ta G (ns.map PyData.int)) : Sv (tCB (rSum K) (tCons ta tNil)) G (isD (.int ns.sum)) := fun M0 σ B M H Q q => ha M0 σ B M H _ fun a vs B1 e1 d1 hh q1 => ⟨a, ns, rfl, by rw [← DqAll_ints q1]; exact sq_of hh, q _ B1 e1 d1 (.int _)⟩
theorem sv_isi {n : String} (ha : Sv ta G (isD d)) (hb : Sv tb G (isV (.ty n))) (h : kitB (tyName d) n = some b) : Sv (tCB (rIsi K) (tCons ta (tCons tb tNil))) G (isD (.bool b)) := fun M0 σ B M H Q q =>
  ha M0 σ B M H _ fun x B1 e1 d1 p1 => hb M0 σ B1 M (H.ext e1 d1) _ fun y B2 e2 d2 p2 => ⟨x, y, _, _, b, rfl, by rw [show y = .ty n from p2]; exact .ty n, Dq_ty (Dq_ex (e2.trans (jn_ex d2)) d x p1), kit_ty h, q _ B2 (e1.trans e2) d2 (.bl _)⟩
theorem sv_isiL {n : String} (ha : Rl ta G ds) (hb : Sv tb G (isV (.ty n))) (h : kitB "list" n = some b) : Sv (tCB (rIsi K) (tCons ta (tCons tb tNil))) G (isD (.bool b)) := fun M0 σ B M H Q q =>
  ha M0 σ B M H _ fun a vs B1 e1 d1 hh q1 => hb M0 σ B1 M (H.ext e1 d1) _ fun y B2 e2 d2 p2 => ⟨.ref a, y, _, _, b, rfl, by rw [show y = .ty n from p2]; exact .ty n, .base (.lst (jn_mono e2 d2 _ _ hh)), kit_ty h, q _ B2 (e1.trans e2) d2 (.bl _)⟩
theorem svl_range1 (ha : Sv ta G (isD (.int i))) (h0 : 0 ≤ i) (h1 : i ≤ 16777216) : Svl (tLstRg (tRg1 ta)) G ((List.range i.toNat).map fun k : Nat => PyData.int (k : Int)) := fun M0 σ B M H Q q => ha M0 σ B M H _ fun x B1 e1 d1 p1 =>
  ⟨i, dp_int p1, RgOk.of_le (by omega) (by omega) (by omega) h0, fun l hl => q l _ B1 e1 d1 hl (by
    have e : rgV 0 i = ((List.range i.toNat).map fun k : Nat => (k : Int)).map V.int := by
      unfold rgV
      rw [Int.sub_zero, List.map_map]
      apply List.map_congr_left
      intro k _
      show V.int (0 + (k : Int)) = V.int (k : Int)
      rw [Int.zero_add]
    rw [e]
    have e2 : ((List.range i.toNat).map fun k : Nat => PyData.int (k : Int)) = ((List.range i.toNat).map fun k : Nat => (k : Int)).map PyData.int := by rw [List.map_map]; rfl
    rw [e2]
    exact DqAll_ofInts _)⟩

/-! tests, and, or, not -/
theorem st_test (h : Sv te G (isD (.bool b))) : St' (tTest te) G b := fun M0 σ B M H Q q => h M0 σ B M H _ fun v B' e d p => ⟨b, dp_bool p, q B' e d⟩
theorem st_B (h : Sv te G (isD (.bool b))) : St' (tB te) G b := fun M0 σ B M H Q q => h M0 σ B M H _ fun v B' e d p => ⟨b, dp_bool p, q B' e d⟩
theorem st_not (h : St' tt G b) : St' (tNot tt) G (!b) := fun M0 σ B M H Q q => h M0 σ B M H _ fun B' e d => q B' e d
theorem st_and (h : St' tt G b) (h2 : b = true → St' tu G c) : St' (tAnd tt tu) G (b && c) := fun M0 σ B M H Q q => h M0 σ B M H _ fun B' e d => by
  cases b with
  | true => exact h2 rfl M0 σ B' M (H.ext e d) Q fun B2 e2 d2 => q B2 (e.trans e2) d2
  | false => exact q B' e d
theorem st_or (h : St' tt G b) (h2 : b = false → St' tu G c) : St' (tOr tt tu) G (b || c) := fun M0 σ B M H Q q => h M0 σ B M H _ fun B' e d => by
  cases b with
  | true => exact q B' e d
  | false => exact h2 rfl M0 σ B' M (H.ext e d) Q fun B2 e2 d2 => q B2 (e.trans e2) d2
theorem sv_and (h : Sv ta G (isD (.bool b))) (h2 : b = true → Sv tb G (isD (.bool c))) : Sv (tAndV ta tb) G (isD (.bool (b && c))) := fun M0 σ B M H Q q => h M0 σ B M H _ fun v B' e d p => ⟨b, dp_bool p, by
  cases b with
  | true => exact h2 rfl M0 σ B' M (H.ext e d) Q fun v2 B2 e2 d2 p2 => q v2 B2 (e.trans e2) d2 p2
  | false => exact q _ B' e d (.bl _)⟩
theorem sv_or (h : Sv ta G (isD (.bool b))) (h2 : b = false → Sv tb G (isD (.bool c))) : Sv (tOrV ta tb) G (isD (.bool (b || c))) := fun M0 σ B M H Q q => h M0 σ B M H _ fun v B' e d p => ⟨b, dp_bool p, by
  cases b with
  | true => exact q _ B' e d (.bl _)
  | false => exact h2 rfl M0 σ B' M (H.ext e d) Q fun v2 B2 e2 d2 p2 => q v2 B2 (e.trans e2) d2 p2⟩
theorem sv_not (h : Sv ta G (isD (.bool b))) : Sv (tNotV ta) G (isD (.bool (!b))) := fun M0 σ B M H Q q => h M0 σ B M H _ fun v B' e d p => ⟨b, dp_bool p, q _ B' e d (.bl _)⟩
theorem sv_ite (h : St' tt G b) (h1 : b = true → Sv ta G P) (h2 : b = false → Sv tb G P) : Sv (tIf tt ta tb) G P := fun M0 σ B M H Q q => h M0 σ B M H _ fun B' e d => by
  cases b with
  | true => exact h1 rfl M0 σ B' M (H.ext e d) Q fun v2 B2 e2 d2 p2 => q v2 B2 (e.trans e2) d2 p2
  | false => exact h2 rfl M0 σ B' M (H.ext e d) Q fun v2 B2 e2 d2 p2 => q v2 B2 (e.trans e2) d2 p2
end
end Mini

namespace Mini
open PySem L2 Evl

/-! ### instances -/
structure Fl where
  r : List (Str × V) → Hp → Prop
  mono : ∀ {fs : List (Str × V)} {B B' : Hp}, Ex B B' → r fs B → r fs B'
def isI (C : Addr) (F : Fl) : Ty := isO C F.r F.mono
/-- an instance that is being made -/
def owI (C p dx : Addr) (F : Fl) : Ow := ⟨fun a o B => a = p ∧ ∃ fs, o = .ins C dx fs ∧ F.r fs B ∧ fs.length < 1000, fun e h => by obtain ⟨h0, fs, h1, h2, h3⟩ := h; exact ⟨h0, fs, h1, F.mono e h2, h3⟩⟩
/-- just these fields, each of its type -/
inductive FldsOk : List (Str × Ty) → List (Str × V) → Hp → Prop where
  | nil {B} : FldsOk [] [] B
  | cons {f P v fs vs B} : P.p v B → FldsOk fs vs B → FldsOk ((f, P) :: fs) ((f, v) :: vs) B
theorem FldsOk.ext {fs : List (Str × Ty)} {vs : List (Str × V)} {B B' : Hp} (e : Ex B B') (h : FldsOk fs vs B) : FldsOk fs vs B' := by
  induction h with
  | nil => exact .nil
  | cons a _ ih => exact .cons (Ty.mono _ e a) (ih e)
theorem FldsOk.len {fs : List (Str × Ty)} {vs : List (Str × V)} {B : Hp} (h : FldsOk fs vs B) : vs.length = fs.length := by
  induction h with
  | nil => rfl
  | cons a _ ih => simp [ih]
theorem FldsOk.look {fs : List (Str × Ty)} {vs : List (Str × V)} {B : Hp} (h : FldsOk fs vs B) {f : Str} : (∀ P, fs.lookup f = some P → ∃ v, vs.lookup f = some v ∧ P.p v B) ∧ (fs.lookup f = none → vs.lookup f = none) := by
  induction h with
  | nil => exact ⟨fun P q => (by cases q), fun _ => rfl⟩
  | @cons g P v fs vs B a _ ih =>
    by_cases e : f = g
    · subst e
      refine ⟨fun P' q => ⟨v, ?_, ?_⟩, fun q => ?_⟩
      · simp [List.lookup]
      · simp [List.lookup] at q; subst q; exact a
      · simp [List.lookup] at q
    · have eb : (f == g) = false := beq_eq_false_iff_ne.mpr e
      simp only [List.lookup, eb]
      exact ih
theorem FldsOk.put {fs : List (Str × Ty)} {vs : List (Str × V)} {B : Hp} (h : FldsOk fs vs B) {f : Str} {P : Ty} {v : V} (hv : P.p v B) (hn : fs.lookup f = none) : FldsOk (fs ++ [(f, P)]) (putF f v vs) B := by
  induction h with
  | nil => exact .cons hv .nil
  | @cons g P' v' fs vs B a _ ih =>
    by_cases e : f = g
    · subst e; simp [List.lookup] at hn
    · have eb : (f == g) = false := beq_eq_false_iff_ne.mpr e
      simp only [List.lookup, eb] at hn
      show FldsOk _ (if g = f then (g, v) :: vs else (g, v') :: putF f v vs) _
      rw [if_neg (fun z => e z.symm)]
      exact .cons a (ih hv hn)
def flds (fs : List (Str × Ty)) : Fl := ⟨fun vs B => FldsOk fs vs B, fun e h => h.ext e⟩

section
variable {K : PySem.W.Frag} {G G1 : Gm} {te ta tb tc tl tv : TE} {tt tu : TT} {tas : TA} {ts : TS} {P Pa Pb Pc : Ty} {R : Ow} {d e : PyData} {ds es : List PyData} {b c : Bool} {i j : Int} {E : L2.St → XK} {C D : Addr} {F : Fl} {fs : List (Str × Ty)} {f m : Str} {n : Nat}
theorem sv_fld (ha : Sv ta G (isI C (flds fs))) (hf : fs.lookup f = some P) (c : Cls K C) (hn : NoAttr K C f) : Sv (tFld K ta f) G P := fun M0 σ B M H Q q => ha M0 σ B M H _ fun x B1 e1 d1 p1 => by
  obtain ⟨p, dx, vs, rfl, h1, h2⟩ := p1
  obtain ⟨v, hv, pv⟩ := h2.look.1 P hf
  exact ⟨p, C, dx, vs, v, rfl, jn_B d1 h1, c, hn, hv, q v B1 e1 d1 pv⟩
/-- self.f = e, self being made -/
theorem ss_fld {p dx : Addr} (h : G[n]? = some (.ow (owI C p dx (flds fs)))) (he : Sv tv G P) (hf : fs.lookup f = none) (hl : fs.length < 999) (c : Cls K C) (hn : NoAttr K C f) : Ss E (sFld K (tVar n) tv f) G (.nx (G.set n (.ow (owI C p dx (flds (fs ++ [(f, P)])))))) := fun M0 D σ B M H q => by
  obtain ⟨l, ob, a, c1, ⟨h0, vs, rfl, r, hl2⟩, f1⟩ := H.ow n _ h
  refine he M0 σ B M H _ fun v B' e dj pv => ?_
  refine ⟨.ref l, a, l, C, dx, vs, rfl, jn_M c1, c, hn, hl2, ?_⟩
  rw [upd_own]
  have r' := (FldsOk.ext e r).put pv hf
  exact q σ B' _ e ((H.ext e dj).change h a c1 ⟨h0, _, rfl, r', by rw [r'.len, List.length_append, List.length_singleton]; omega⟩)

/-! ### own calls -/
theorem sv_call {S : Fs} {as : List Ar} (ha : Sa tas G as) (x : S.α) (hx : S.ars x = as) (hr : S.res x = .ok P) : Sv (tCallS (spF S) E tas) G P := fun M0 σ B M H Q q => ha M0 σ B M H _ fun vs B1 e1 d1 p1 =>
  ⟨x, B1, M, rfl, d1, by rw [hx]; exact p1, by rw [hr]; exact fun v B' e d p => q v B' (e1.trans e) d p⟩
theorem svl_call {S : Fs} {as : List Ar} (ha : Sa tas G as) (x : S.α) (hx : S.ars x = as) (hr : S.res x = .ol ds) : Svl (tCallS (spF S) E tas) G ds := fun M0 σ B M H Q q => ha M0 σ B M H _ fun vs B1 e1 d1 p1 =>
  ⟨x, B1, M, rfl, d1, by rw [hx]; exact p1, by rw [hr]; exact fun p us B' e d hn hd => q p us B' (e1.trans e) d hn hd⟩
/-- what raises C -/
def Sb (te : TE) (G : Gm) (E : L2.St → XK) (C : Addr) : Prop := ∀ (M0 : Hp) (σ : L2.St) (B M : Hp), Holds M0 G σ B M → ∀ Q : VK, (∀ B', Ex B B' → Dj B' M → E σ (.ref C) none (jn B' M)) → te σ (jn B M) Q
def Stb (tt : TT) (G : Gm) (E : L2.St → XK) (C : Addr) : Prop := ∀ (M0 : Hp) (σ : L2.St) (B M : Hp), Holds M0 G σ B M → ∀ Q : Bool → Hp → Prop, (∀ B', Ex B B' → Dj B' M → E σ (.ref C) none (jn B' M)) → tt σ (jn B M) Q
theorem sb_call {S : Fs} {as : List Ar} (ha : Sa tas G as) (x : S.α) (hx : S.ars x = as) (hr : S.res x = .bad D) : Sb (tCallS (spF S) E tas) G E D := fun M0 σ B M H Q q => ha M0 σ B M H _ fun vs B1 e1 d1 p1 =>
  ⟨x, B1, M, rfl, d1, by rw [hx]; exact p1, by rw [hr]; exact fun B' e d => q B' (e1.trans e) d⟩
theorem tMt_of {S : Fs} {as : List Ar} (ho : Sv ta G (isI C F)) (hm : ∀ vs B, F.r vs B → vs.lookup m = none) (ha : Sa tas G as) {M0 : Hp} {σ : L2.St} {B M : Hp} (H : Holds M0 G σ B M) {Q : VK}
    (k : ∀ vs B1, Ex B B1 → Dj B1 M → ArsOk (.im (isI C F) :: as) vs B1 M → spF S vs (jn B1 M) Q (E σ)) : tMt C m (spF S) E ta tas σ (jn B M) Q :=
  ho M0 σ B M H _ fun x B1 e1 d1 p1 => by
    obtain ⟨p, dx, vs, rfl, h1, h2⟩ := p1
    refine ⟨p, dx, vs, rfl, jn_B d1 h1, hm vs B1 h2, ?_⟩
    refine ha M0 σ B1 M (H.ext e1 d1) _ fun us B2 e2 d2 p2 => ?_
    exact k _ B2 (e1.trans e2) d2 (.cons (Ty.mono (isI C F) e2 ⟨p, dx, vs, rfl, h1, h2⟩) p2)
theorem sv_mt {S : Fs} {as : List Ar} (ho : Sv ta G (isI C F)) (hm : ∀ vs B, F.r vs B → vs.lookup m = none) (ha : Sa tas G as) (x : S.α) (hx : S.ars x = .im (isI C F) :: as) (hr : S.res x = .ok P) : Sv (tMt C m (spF S) E ta tas) G P := fun M0 σ B M H Q q =>
  tMt_of ho hm ha H fun vs B1 e1 d1 p1 => ⟨x, B1, M, rfl, d1, by rw [hx]; exact p1, by rw [hr]; exact fun v B' e d p => q v B' (e1.trans e) d p⟩
theorem svl_mt {S : Fs} {as : List Ar} (ho : Sv ta G (isI C F)) (hm : ∀ vs B, F.r vs B → vs.lookup m = none) (ha : Sa tas G as) (x : S.α) (hx : S.ars x = .im (isI C F) :: as) (hr : S.res x = .ol ds) : Svl (tMt C m (spF S) E ta tas) G ds := fun M0 σ B M H Q q =>
  tMt_of ho hm ha H fun vs B1 e1 d1 p1 => ⟨x, B1, M, rfl, d1, by rw [hx]; exact p1, by rw [hr]; exact fun p us B' e d hn hd => q p us B' (e1.trans e) d hn hd⟩
theorem sb_mt {S : Fs} {as : List Ar} (ho : Sv ta G (isI C F)) (hm : ∀ vs B, F.r vs B → vs.lookup m = none) (ha : Sa tas G as) (x : S.α) (hx : S.ars x = .im (isI C F) :: as) (hr : S.res x = .bad D) : Sb (tMt C m (spF S) E ta tas) G E D := fun M0 σ B M H Q q =>
  tMt_of ho hm ha H fun vs B1 e1 d1 p1 => ⟨x, B1, M, rfl, d1, by rw [hx]; exact p1, by rw [hr]; exact fun B' e d => q B' (e1.trans e) d⟩
end
/-- an __init__'s promise: what the instance becomes, or what is raised -/
structure Ini where
  α : Type
  n : Nat
  ars : α → List Ar
  len : ∀ x, (ars x).length = n
  res : α → Fl ⊕ Addr
def spN (C : Addr) (S : Ini) : Sp := fun vs H Q E => ∃ (x : S.α) (B M : Hp) (p dx : Addr) (us : List V), vs = .ref p :: us ∧ H = jn B M ∧ Dj B M ∧ M p = some (.ins C dx []) ∧ ArsOk (S.ars x) us B (del M p) ∧
  match S.res x with
  | .inl F => ∀ B' fs, Ex B B' → Dj B' M → F.r fs B' → Q .non (jn B' (upd M p (.ins C dx fs)))
  | .inr X => ∀ B' fs, Ex B B' → Dj B' M → E (.ref X) none (jn B' (upd M p (.ins C dx fs)))
theorem spN_len {C : Addr} {S : Ini} {vs H Q E} (h : spN C S vs H Q E) : vs.length = S.n + 1 := by
  obtain ⟨x, B, M, p, dx, us, rfl, _, _, _, a, _⟩ := h
  rw [List.length_cons, a.len, S.len]
section
variable {K : PySem.W.Frag} {G G1 : Gm} {te ta tb tc tl tv : TE} {tt tu : TT} {tas : TA} {ts : TS} {P Pa Pb Pc : Ty} {R : Ow} {d e : PyData} {ds es : List PyData} {b c : Bool} {i j : Int} {E : L2.St → XK} {C D : Addr} {F : Fl} {fs : List (Str × Ty)} {f m : Str} {n : Nat}
theorem mk_heap {B M : Hp} {x dx C : Addr} (dj : Dj B M) (hx : jn B M x = none) (hd : jn B M dx = none) (ne : dx ≠ x) :
    upd (upd (jn B M) dx (.own x)) x (.ins C dx []) = jn (upd B dx (.own x)) (upd M x (.ins C dx [])) ∧ Dj (upd B dx (.own x)) (upd M x (.ins C dx [])) ∧ Ex B (upd B dx (.own x)) := by
  refine ⟨?_, ?_, ex_new hd⟩
  · rw [upd_new hd, upd_own]
  · refine dj_own (dj_new dj hd) ?_
    rw [upd_ne (Ne.symm ne)]
    exact (jn_free hx).1
theorem ArOk.more {a : Ar} {v : V} {B M : Hp} {p : Addr} {o : HO} (hp : M p = none) (h : ArOk a v B M) : ArOk a v B (upd M p o) := by
  cases a with
  | im P => exact h
  | ow R => obtain ⟨l, o', h1, h2, h3⟩ := h; exact ⟨l, o', h1, by rw [upd_ne (ne_of_none h2 hp)]; exact h2, h3⟩
theorem ArsOk.more {as : List Ar} {vs : List V} {B M : Hp} {p : Addr} {o : HO} (hp : M p = none) (h : ArsOk as vs B M) : ArsOk as vs B (upd M p o) := by
  induction h with
  | nil => exact .nil
  | cons a _ ih => exact .cons (a.more hp) (ih hp)
theorem del_upd {M : Hp} {p : Addr} {o : HO} (h : M p = none) : del (upd M p o) p = M := by
  funext a
  by_cases e : a = p
  · rw [e, h]; exact if_pos rfl
  · rw [del_ne e, upd_ne e]
theorem jn_push {B M : Hp} {x : Addr} {o : HO} (hM : M x = none) : jn B (upd M x o) = jn (upd B x o) M := by
  funext a
  by_cases e : a = x
  · subst e
    rw [jn_M upd_same, jn_N hM, upd_same]
  · unfold jn
    rw [upd_ne e, upd_ne e]
theorem dj_push {B M : Hp} {x : Addr} {o o' : HO} (dj : Dj B (upd M x o)) (hM : M x = none) : Dj (upd B x o') M := fun a u q => by
  by_cases e : a = x
  · rw [e]; exact hM
  · rw [upd_ne e] at q
    have := dj a u q
    rw [upd_ne e] at this
    exact this
theorem sv_mk {S : Ini} {as : List Ar} (ha : Sa tas G as) (x : S.α) (hx : S.ars x = as) (hr : S.res x = .inl F) : Sv (tMk C (spN C S) E tas) G (isI C F) := fun M0 σ B M H Q q => ha M0 σ B M H _ fun vs B1 e1 d1 p1 => fun p dx hp hd ne => by
  obtain ⟨h1, h2, h3⟩ := mk_heap (C := C) d1 hp hd ne
  rw [h1]
  refine ⟨x, _, _, p, dx, vs, rfl, rfl, h2, upd_same, by rw [hx, del_upd (jn_free hp).2]; exact p1.ext h3, ?_⟩
  rw [hr]
  intro B' fs e d r
  refine ⟨rfl, ?_⟩
  have hM := (jn_free hp).2
  have hB' : B' p = none := dj_free d upd_same
  rw [upd_upd, jn_push hM]
  have ex : Ex B' (upd B' p (.ins C dx fs)) := Ex.new hB'
  exact q _ _ (((e1.trans h3).trans e).trans ex) (dj_push d hM) ⟨p, dx, fs, rfl, upd_same, F.mono ex r⟩
theorem sb_mk {S : Ini} {as : List Ar} (ha : Sa tas G as) (x : S.α) (hx : S.ars x = as) (hr : S.res x = .inr D) : Sb (tMk C (spN C S) E tas) G E D := fun M0 σ B M H Q q => ha M0 σ B M H _ fun vs B1 e1 d1 p1 => fun p dx hp hd ne => by
  obtain ⟨h1, h2, h3⟩ := mk_heap (C := C) d1 hp hd ne
  rw [h1]
  refine ⟨x, _, _, p, dx, vs, rfl, rfl, h2, upd_same, by rw [hx, del_upd (jn_free hp).2]; exact p1.ext h3, ?_⟩
  rw [hr]
  intro B' fs e d
  have hM := (jn_free hp).2
  have hB' : B' p = none := dj_free d upd_same
  rw [upd_upd, jn_push hM]
  exact q _ (((e1.trans h3).trans e).trans (Ex.new hB')) (dj_push d hM)

/-! raising within -/
theorem ss_retBad (h : Sb te G E C) : Ss E (tRet te) G (.bad C G) := fun M0 D σ B M H q => h M0 σ B M H _ fun B' e d => q σ B' M e (H.ext e d)
theorem ss_dropBad (h : Sb te G E C) : Ss E (tDrop te) G (.bad C G) := fun M0 D σ B M H q => h M0 σ B M H _ fun B' e d => q σ B' M e (H.ext e d)
theorem ss_setBad (h : Sb te G E C) : Ss E (tAsg te (gName n)) G (.bad C G) := fun M0 D σ B M H q => h M0 σ B M H _ fun B' e d => q σ B' M e (H.ext e d)
theorem ss_ifBad {tu' : TS} (h : Stb tt G E C) : Ss E (tIfS tt ts tu') G (.bad C G) := fun M0 D σ B M H q => h M0 σ B M H _ fun B' e d => q σ B' M e (H.ext e d)
theorem stb_test (h : Sb te G E C) : Stb (tTest te) G E C := fun M0 σ B M H Q q => h M0 σ B M H _ q
theorem sb_op1 {r : R2} (h : Sb ta G E C) : Sb (tOp r ta tb) G E C := fun M0 σ B M H Q q => h M0 σ B M H _ q
/-- raise C(..) -/
theorem ss_raise {W : L2.St → XK} (hW : ∀ σ cls d H, W σ cls d H → E σ cls d H → True) : Ss E (fun _ σ H => (fun (_ : L2.St) (H : Hp) (Q : XK) => Q (.ref C) none H) σ H fun cls d H' => E σ cls d H') G (.bad C G) := fun M0 D σ B M H q => q σ B M (Ex.refl B) H
end
end Mini

namespace Mini
open PySem L2 Evl

/-! ### loops -/
def Turn (E : L2.St → XK) (tu : TS) (Ga Gb : Gm) : Prop := Ss E tu Ga (.nx Gb) ∨ Ss E tu Ga (.ct Gb)
/-- how a turn that ends the loop leaves it -/
inductive Lv : Out → Out → Prop where
  | rt {P} : Lv (.rt P) (.rt P)
  | rl {ds} : Lv (.rl ds) (.rl ds)
  | bk {G} : Lv (.bk G) (.nx G)
  | bad {C G} : Lv (.bad C G) (.bad C G)
def Pvl (M0 B : Hp) (Gi : Nat → Gm) (N : Nat) (i : Nat) (σ : L2.St) (H : Hp) : Prop := i ≤ N ∧ ∃ B' M', H = jn B' M' ∧ Ex B B' ∧ Holds M0 (Gi i) σ B' M'
theorem turn_ok {E : L2.St → XK} {tu : TS} {G : Gm} {Gi : Nat → Gm} {N i : Nat} {o : Out} {D : Ends} {M0 B B1 M1 : Hp} {σ : L2.St} (hi : i ≤ N) (H : Holds M0 G σ B1 M1) (e : Ex B B1) (hs : i < N → Turn E tu G (Gi (i + 1)))
    (hd : i = N → ∃ o', Ss E tu G o' ∧ Lv o' o) (q : o.ok E D M0 B) : tu { D with nx := Pvl M0 B Gi N (i + 1), ct := Pvl M0 B Gi N (i + 1), bk := D.nx } σ (jn B1 M1) := by
  by_cases hN : i < N
  · have k : ∀ σ' B' M', Ex B1 B' → Holds M0 (Gi (i + 1)) σ' B' M' → Pvl M0 B Gi N (i + 1) σ' (jn B' M') := fun σ' B' M' e' H' => ⟨hN, B', M', rfl, e.trans e', H'⟩
    rcases hs hN with h | h
    · exact h M0 _ σ B1 M1 H k
    · exact h M0 _ σ B1 M1 H k
  · obtain ⟨o', h, l⟩ := hd (by omega)
    refine h M0 _ σ B1 M1 H ?_
    cases l with
    | rt => exact fun v B' M' e' => q v B' M' (e.trans e')
    | rl => exact fun p vs B' M' e' => q p vs B' M' (e.trans e')
    | bk => exact fun σ' B' M' e' H' => q σ' B' M' (e.trans e') H'
    | bad => exact fun σ' B' M' e' H' => q σ' B' M' (e.trans e') H'
section
variable {K : PySem.W.Frag} {E : L2.St → XK} {tu ts : TS} {te tl ta : TE} {tt : TT} {G : Gm} {o : Out} {ds es : List PyData} {n lo hi : Int} {j : Nat}
/-- how the loop ends: behind all turns, or in the turn N -/
def EndsAs (E : L2.St → XK) (tu : TS) (Gi Gt : Nat → Gm) (N all : Nat) (o : Out) : Prop := (N = all ∧ o = .nx (Gi N)) ∨ (N < all ∧ ∃ o', Ss E tu (Gt N) o' ∧ Lv o' o)
theorem ss_forR (h : Sv te G (isD (.int n))) (hn : n ≤ 2 ^ 60) (Gi : Nat → Gm) (N : Nat) (hN : N ≤ n.toNat) (h0 : Le G (Gi 0)) (hj : ∀ i, i ≤ N → j < (Gi i).length)
    (hs : ∀ i : Nat, i < N → Turn E tu ((Gi i).set j (.im (isD (.int (i : Int))))) (Gi (i + 1))) (hd : EndsAs E tu Gi (fun i => (Gi i).set j (.im (isD (.int (i : Int))))) N n.toNat o) (hlo : -(2 ^ 60) ≤ n := by first | omega | decide) :
    Ss E (tFor (iRng1 (tCons te tNil)) (gName j) tu) G o := fun M0 D σ B M H q =>
  h M0 σ B M H _ fun v B1 e1 d1 p1 => ⟨n, by rw [dp_int p1], by omega, by omega, by
    refine for_range (lo := 0) (n := n.toNat) (Pvl M0 B Gi N) ⟨Nat.zero_le _, B1, M, rfl, e1, (H.ext e1 d1).le h0⟩ (fun i σ' H' hi p => ?_) (fun σ' H' p => ?_)
    · obtain ⟨hiN, B', M', rfl, e, H'⟩ := p
      have e0 : (0 : Int) + (i : Int) = (i : Int) := Int.zero_add _
      show tu _ (σ'.set j (some (.int ((0 : Int) + (i : Int))))) _
      rw [e0]
      refine turn_ok (o := o) hiN (H'.setIm (hj i hiN) (P := isD (.int _)) (Dq.int _)) e (fun l => hs i l) (fun l => ?_) q
      rcases hd with ⟨a, _⟩ | ⟨_, b⟩
      · omega
      · rw [l]; exact b
    · obtain ⟨hiN, B', M', rfl, e, H'⟩ := p
      rcases hd with ⟨a, b⟩ | ⟨a, _⟩
      · rw [b] at q
        rw [← a] at H'
        exact q σ' B' M' e H'
      · omega⟩
theorem ss_forR2 (h : Sv ta G (isD (.int lo))) (h2 : Sv te G (isD (.int hi))) (hb : -(2 ^ 60) ≤ lo ∧ lo ≤ 2 ^ 60 ∧ -(2 ^ 60) ≤ hi ∧ hi ≤ 2 ^ 60) (Gi : Nat → Gm) (N : Nat) (hN : N ≤ (hi - lo).toNat) (h0 : Le G (Gi 0)) (hj : ∀ i, i ≤ N → j < (Gi i).length)
    (hs : ∀ i : Nat, i < N → Turn E tu ((Gi i).set j (.im (isD (.int (lo + (i : Int)))))) (Gi (i + 1))) (hd : EndsAs E tu Gi (fun i => (Gi i).set j (.im (isD (.int (lo + (i : Int)))))) N (hi - lo).toNat o) :
    Ss E (tFor (iRng2 (tCons ta (tCons te tNil))) (gName j) tu) G o := fun M0 D σ B M H q =>
  h M0 σ B M H _ fun v B0 e0 d0 p0 => h2 M0 σ B0 M (H.ext e0 d0) _ fun v2 B1 e1' d1 p1 => ⟨lo, hi, by rw [dp_int p0, dp_int p1], ⟨by omega, by omega, by omega, by omega⟩, by
    have e1 := e0.trans e1'
    refine for_range (lo := lo) (n := (hi - lo).toNat) (Pvl M0 B Gi N) ⟨Nat.zero_le _, B1, M, rfl, e1, (H.ext e1 d1).le h0⟩ (fun i σ' H' hi p => ?_) (fun σ' H' p => ?_)
    · obtain ⟨hiN, B', M', rfl, e, H'⟩ := p
      refine turn_ok (o := o) hiN (H'.setIm (hj i hiN) (P := isD (.int _)) (Dq.int _)) e (fun l => hs i l) (fun l => ?_) q
      rcases hd with ⟨a, _⟩ | ⟨_, b⟩
      · omega
      · rw [l]; exact b
    · obtain ⟨hiN, B', M', rfl, e, H'⟩ := p
      rcases hd with ⟨a, b⟩ | ⟨a, _⟩
      · rw [b] at q
        rw [← a] at H'
        exact q σ' B' M' e H'
      · omega⟩
/-- over a list that stays -/
theorem ss_forL (h : Sv tl G (isD (.list ds))) (Gi : Nat → Gm) (N : Nat) (hN : N ≤ ds.length) (h0 : Le G (Gi 0)) (hj : ∀ i, i ≤ N → j < (Gi i).length)
    (hs : ∀ i d, ds[i]? = some d → i < N → Turn E tu ((Gi i).set j (.im (isD d))) (Gi (i + 1))) (hd : EndsAs E tu Gi (fun i => (Gi i).set j (.im (isD (ds.getD i .none)))) N ds.length o) :
    Ss E (tFor (iList K tl) (gName j) tu) G o := fun M0 D σ B M H q =>
  h M0 σ B M H _ fun v B1 e1 d1 p1 => by
    obtain ⟨a, vs, rfl, ha, hv⟩ := dq_lst p1
    have hlen := DqAll_len hv
    refine ⟨a, rfl, ⟨vs, sq_of (jn_B d1 ha)⟩, ?_⟩
    have wide : ∀ i σ' H', Pvl M0 B1 Gi N i σ' H' → SqL K H' a vs := fun i σ' H' p => by
      obtain ⟨_, B', M', rfl, e, H'⟩ := p
      exact sq_of (jn_B H'.dj (e _ _ ha))
    refine for_list (xs := vs) (Pvl M0 B1 Gi N) ⟨Nat.zero_le _, B1, M, rfl, Ex.refl B1, (H.ext e1 d1).le h0⟩ (fun i σ' H' _ p => wide i σ' H' p) (fun i x σ' H' hx p => ?_) (fun σ' H' p => ?_)
    · obtain ⟨hiN, B', M', rfl, e, H'⟩ := p
      obtain ⟨d, hd1, px⟩ := DqAll_getV hv hx
      refine turn_ok (o := o) hiN (H'.setIm (hj i hiN) (P := isD d) (Dq_ex e d x px)) e (fun l => hs i d hd1 l) (fun l => ?_) (q.ext e1)
      rcases hd with ⟨b, _⟩ | ⟨_, b⟩
      · have := (List.getElem?_eq_some_iff.mp hx).1; omega
      · have z : ds.getD N .none = d := by rw [← l, List.getD_eq_getElem?_getD, hd1]; rfl
        dsimp only at b
        rw [z, ← l] at b
        exact b
    · obtain ⟨hiN, B', M', rfl, e, H'⟩ := p
      rcases hd with ⟨b, c⟩ | ⟨b, _⟩
      · rw [c] at q
        rw [hlen, ← b] at H'
        exact q σ' B' M' (e1.trans e) H'
      · omega
/-- over a tuple -/
theorem ss_forT (h : Sv tl G (isD (.tuple ds))) (Gi : Nat → Gm) (N : Nat) (hN : N ≤ ds.length) (h0 : Le G (Gi 0)) (hj : ∀ i, i ≤ N → j < (Gi i).length)
    (hs : ∀ i d, ds[i]? = some d → i < N → Turn E tu ((Gi i).set j (.im (isD d))) (Gi (i + 1))) (hd : EndsAs E tu Gi (fun i => (Gi i).set j (.im (isD (ds.getD i .none)))) N ds.length o) :
    Ss E (tFor (iTup K tl) (gName j) tu) G o := fun M0 D σ B M H q =>
  h M0 σ B M H _ fun v B1 e1 d1 p1 => by
    obtain ⟨a, vs, rfl, ha, hv⟩ := dq_tup p1
    have hlen := DqAll_len hv
    refine ⟨a, rfl, ⟨vs, st_of (jn_B d1 ha)⟩, ?_⟩
    have wide : ∀ i σ' H', Pvl M0 B1 Gi N i σ' H' → SqT K H' a vs := fun i σ' H' p => by
      obtain ⟨_, B', M', rfl, e, H'⟩ := p
      exact st_of (jn_B H'.dj (e _ _ ha))
    refine for_tup (xs := vs) (Pvl M0 B1 Gi N) ⟨Nat.zero_le _, B1, M, rfl, Ex.refl B1, (H.ext e1 d1).le h0⟩ (fun i σ' H' _ p => wide i σ' H' p) (fun i x σ' H' hx p => ?_) (fun σ' H' p => ?_)
    · obtain ⟨hiN, B', M', rfl, e, H'⟩ := p
      obtain ⟨d, hd1, px⟩ := DqAll_getV hv hx
      refine turn_ok (o := o) hiN (H'.setIm (hj i hiN) (P := isD d) (Dq_ex e d x px)) e (fun l => hs i d hd1 l) (fun l => ?_) (q.ext e1)
      rcases hd with ⟨b, _⟩ | ⟨_, b⟩
      · have := (List.getElem?_eq_some_iff.mp hx).1; omega
      · have z : ds.getD N .none = d := by rw [← l, List.getD_eq_getElem?_getD, hd1]; rfl
        dsimp only at b
        rw [z, ← l] at b
        exact b
    · obtain ⟨hiN, B', M', rfl, e, H'⟩ := p
      rcases hd with ⟨b, c⟩ | ⟨b, _⟩
      · rw [c] at q
        rw [hlen, ← b] at H'
        exact q σ' B' M' (e1.trans e) H'
      · omega
/-- while: N turns -/
theorem ss_while (Gi : Nat → Gm) (N : Nat) (h0 : Le G (Gi 0)) (ht : ∀ i, i < N → St' tt (Gi i) true) (hs : ∀ i, i < N → Turn E tu (Gi i) (Gi (i + 1)))
    (hd : (St' tt (Gi N) false ∧ o = .nx (Gi N)) ∨ (St' tt (Gi N) true ∧ ∃ o', Ss E tu (Gi N) o' ∧ Lv o' o)) : Ss E (tWhile tt tu) G o := fun M0 D σ B M H q => by
  refine ⟨fun m σ' H' => ∃ i, i + m = N ∧ Pvl M0 B Gi N i σ' H', ⟨N, 0, Nat.zero_add _, Nat.zero_le _, B, M, rfl, Ex.refl B, H.le h0⟩, fun m σ' H' w => ?_⟩
  obtain ⟨i, him, hiN, B1, M1, rfl, e, H1⟩ := w
  by_cases hN : i < N
  · refine ht i hN M0 σ' B1 M1 H1 _ fun B2 e2 d2 => ?_
    refine ⟨fun σ2 H2 => Pvl M0 B Gi N (i + 1) σ2 H2, fun σ2 H2 p => ⟨m - 1, by omega, i + 1, by omega, p⟩, ?_⟩
    exact turn_ok (o := o) hiN (H1.ext e2 d2) (e.trans e2) (fun l => hs i l) (fun l => by omega) q
  · have hiE : i = N := by omega
    subst hiE
    rcases hd with ⟨a, b⟩ | ⟨a, b⟩
    · refine a M0 σ' B1 M1 H1 _ fun B2 e2 d2 => ?_
      rw [b] at q
      exact q σ' B2 M1 (e.trans e2) (H1.ext e2 d2)
    · refine a M0 σ' B1 M1 H1 _ fun B2 e2 d2 => ?_
      refine ⟨fun σ2 H2 => Pvl M0 B Gi i (i + 1) σ2 H2, fun σ2 H2 p => by have := p.1; omega, ?_⟩
      exact turn_ok (o := o) hiN (H1.ext e2 d2) (e.trans e2) (fun l => by omega) (fun l => b) q

/-! ### comprehensions: es i is what i turns have given -/
def Pvc (B M : Hp) (Dl : Addr) (es : Nat → List PyData) (i : Nat) (H : Hp) : Prop := ∃ B' acc, H = jn B' (upd M Dl (.lst acc)) ∧ Ex B B' ∧ Dj B' (upd M Dl (.lst acc)) ∧ DqAll B' acc (es i)
def Gv (G : Gm) (j : Nat) (d : PyData) : Gm := (wipeG G [j]).set j (.im (isD d))
theorem wipe_one (σ : L2.St) (j : Nat) (x : V) : L2.wipe ((L2.wipe σ [j]).set j (some x)) [j] = L2.wipe σ [j] := by
  show (((σ.set j none).set j (some x)).set j none) = σ.set j none
  rw [List.set_set, List.set_set]
theorem lc_turn {M0 B M : Hp} {σ : L2.St} {Dl : Addr} {es : Nat → List PyData} {i : Nat} {d y : PyData} {x : V} {b : Bool} {B' : Hp} {acc : List V} (H : Holds M0 G σ B M) (hj : j < G.length) (hM : M Dl = none) (e : Ex B B') (dj : Dj B' (upd M Dl (.lst acc))) (ha : DqAll B' acc (es i)) (hz : (es i).length < sizeLine)
    (hx : Dq B' x d) (ht : St' tt (Gv G j d) b) (he : b = true → Sv te (Gv G j d) (isD y)) (hs : es (i + 1) = if b then es i ++ [y] else es i) :
    (gName j) x (L2.wipe σ [j]) (jn B' (upd M Dl (.lst acc))) fun σ2 H2 => L2.wipe σ2 [j] = L2.wipe σ [j] ∧ tt σ2 H2 fun b H3 =>
      if b = true then te σ2 H3 fun y H4 => ∃ acc, H4 Dl = some (.lst acc) ∧ acc.length < sizeLine ∧ Pvc B M Dl es (i + 1) (upd H4 Dl (.lst (acc ++ [y]))) else Pvc B M Dl es (i + 1) H3 := by
  refine ⟨wipe_one σ j x, ?_⟩
  have hB' : B' Dl = none := dj_free dj upd_same
  have djM : Dj B' M := fun a u q => by
    have := dj a u q
    by_cases z : a = Dl
    · rw [z]; exact hM
    · rw [upd_ne z] at this; exact this
  have H2 : Holds M0 (Gv G j d) ((L2.wipe σ [j]).set j (some x)) B' (upd M Dl (.lst acc)) := by
    have h1 := ((H.ext e djM).wipes [j]).more (p := Dl) (o := .lst acc) (show jn B' M Dl = none by rw [jn_N hM]; exact hB')
    exact h1.setIm (by show j < (G.set j .no).length; rw [List.length_set]; exact hj) hx
  refine ht M0 _ _ _ H2 _ fun B3 e3 d3 => ?_
  cases b with
  | true =>
    rw [if_pos rfl]
    refine he rfl M0 _ _ _ (H2.ext e3 d3) _ fun v B4 e4 d4 p4 => ?_
    refine ⟨acc, jn_M upd_same, by rw [DqAll_len ha]; exact hz, ?_⟩
    rw [upd_own, upd_upd]
    refine ⟨B4, acc ++ [v], rfl, (e.trans e3).trans e4, ?_, ?_⟩
    · intro a u q
      have := d4 a u q
      by_cases z : a = Dl
      · rw [z, upd_same] at this; cases this
      · rw [upd_ne z] at this ⊢; exact this
    · rw [hs, if_pos rfl]
      exact DqAll_append (DqAll_ex (e3.trans e4) ha) (.cons p4 .nil)
  | false =>
    rw [if_neg Bool.false_ne_true]
    refine ⟨B3, acc, rfl, e.trans e3, d3, ?_⟩
    rw [hs, if_neg Bool.false_ne_true]
    exact DqAll_ex e3 ha
theorem lc_end {B M : Hp} {Dl : Addr} {es : Nat → List PyData} {i : Nat} {Q : VK} (hM : M Dl = none) (hB : Ex B B) (q : ∀ p vs B', Ex B B' → Dj B' M → jn B' M p = none → DqAll B' vs (es i) → Q (.ref p) (upd (jn B' M) p (.lst vs))) (H : Hp) (p : Pvc B M Dl es i H) : Q (.ref Dl) H := by
  obtain ⟨B', acc, rfl, e, dj, ha⟩ := p
  have hB' : B' Dl = none := dj_free dj upd_same
  have djM : Dj B' M := fun a u q => by
    have := dj a u q
    by_cases z : a = Dl
    · rw [z]; exact hM
    · rw [upd_ne z] at this; exact this
  have := q Dl acc B' e djM (by rw [jn_N hM]; exact hB') ha
  rw [upd_own] at this
  exact this
theorem svl_lcL (h : Rl tl G ds) (es : Nat → List PyData) (f : Nat → Bool) (y : Nat → PyData) (hj : j < G.length) (h0 : es 0 = []) (hz : ds.length < 10000000)
    (ht : ∀ i d, ds[i]? = some d → St' tt (Gv G j d) (f i)) (he : ∀ i d, ds[i]? = some d → f i = true → Sv te (Gv G j d) (isD (y i))) (hs : ∀ i, i < ds.length → es (i + 1) = if f i then es i ++ [y i] else es i) :
    Svl (tLc (iList K tl) (gName j) tt te [j]) G (es ds.length) := fun M0 σ B M H Q q => h M0 σ B M H _ fun a vs B1 e1 d1 hh q1 => by
  have hlen := DqAll_len q1
  refine ⟨a, rfl, ⟨vs, sq_of hh⟩, fun Dl hD => ?_⟩
  have hM := (jn_free hD).2
  have hl : ∀ i, i ≤ ds.length → (es i).length ≤ i := fun i => by
    induction i with
    | zero => intro _; rw [h0]; exact Nat.le_refl _
    | succ i ih => intro hi; rw [hs i (by omega)]; have := ih (by omega); split <;> simp <;> omega
  refine lc_list (xs := vs) (Pvc B1 M Dl es) ⟨B1, [], by rw [upd_own], Ex.refl B1, dj_own d1 (jn_free hD).1, by rw [h0]; exact .nil⟩ (fun i H' _ p => ?_) (fun i x H' hx p => ?_) (fun H' p => ?_)
  · obtain ⟨B', acc, rfl, e, dj, _⟩ := p
    refine sq_of ?_
    have hne : a ≠ Dl := fun z => by rw [z, hD] at hh; cases hh
    unfold jn at hh ⊢
    rw [upd_ne hne]
    cases z : M a with
    | some u => rw [z] at hh; exact hh
    | none => rw [z] at hh; exact e _ _ hh
  · obtain ⟨B', acc, rfl, e, dj, ha⟩ := p
    obtain ⟨d, hd, px⟩ := DqAll_getV q1 hx
    have hi := (List.getElem?_eq_some_iff.mp hd).1
    exact lc_turn (H.ext e1 d1) hj hM e dj ha (by have := hl i (by omega); rw [sizeLine_eq]; omega) (Dq_ex e d x px) (ht i d hd) (he i d hd) (hs i hi)
  · rw [hlen] at p
    exact lc_end hM (Ex.refl _) (fun p vs B' e dj hf hv => q p vs B' (e1.trans e) dj hf hv) H' p
theorem svl_lcT (h : Sv tl G (isD (.tuple ds))) (es : Nat → List PyData) (f : Nat → Bool) (y : Nat → PyData) (hj : j < G.length) (h0 : es 0 = []) (hz : ds.length < 10000000)
    (ht : ∀ i d, ds[i]? = some d → St' tt (Gv G j d) (f i)) (he : ∀ i d, ds[i]? = some d → f i = true → Sv te (Gv G j d) (isD (y i))) (hs : ∀ i, i < ds.length → es (i + 1) = if f i then es i ++ [y i] else es i) :
    Svl (tLc (iTup K tl) (gName j) tt te [j]) G (es ds.length) := fun M0 σ B M H Q q => h M0 σ B M H _ fun v B1 e1 d1 p1 => by
  obtain ⟨a, vs, rfl, hh, q1⟩ := dq_tup p1
  have hlen := DqAll_len q1
  refine ⟨a, rfl, ⟨vs, st_of (jn_B d1 hh)⟩, fun Dl hD => ?_⟩
  have hM := (jn_free hD).2
  have hl : ∀ i, i ≤ ds.length → (es i).length ≤ i := fun i => by
    induction i with
    | zero => intro _; rw [h0]; exact Nat.le_refl _
    | succ i ih => intro hi; rw [hs i (by omega)]; have := ih (by omega); split <;> simp <;> omega
  refine lc_tup (xs := vs) (Pvc B1 M Dl es) ⟨B1, [], by rw [upd_own], Ex.refl B1, dj_own d1 (jn_free hD).1, by rw [h0]; exact .nil⟩ (fun i H' _ p => ?_) (fun i x H' hx p => ?_) (fun H' p => ?_)
  · obtain ⟨B', acc, rfl, e, dj, _⟩ := p
    exact st_of (jn_B dj (e _ _ hh))
  · obtain ⟨B', acc, rfl, e, dj, ha⟩ := p
    obtain ⟨d, hd, px⟩ := DqAll_getV q1 hx
    have hi := (List.getElem?_eq_some_iff.mp hd).1
    exact lc_turn (H.ext e1 d1) hj hM e dj ha (by have := hl i (by omega); rw [sizeLine_eq]; omega) (Dq_ex e d x px) (ht i d hd) (he i d hd) (hs i hi)
  · rw [hlen] at p
    exact lc_end hM (Ex.refl _) (fun p vs B' e dj hf hv => q p vs B' (e1.trans e) dj hf hv) H' p
theorem svl_lcR (h : Sv te G (isD (.int n))) {tel : TE} (es : Nat → List PyData) (f : Nat → Bool) (y : Nat → PyData) (hj : j < G.length) (h0 : es 0 = []) (hz : n < 10000000) (hlo : -(2 ^ 60) ≤ n)
    (ht : ∀ i : Nat, i < n.toNat → St' tt (Gv G j (.int (i : Int))) (f i)) (he : ∀ i : Nat, i < n.toNat → f i = true → Sv tel (Gv G j (.int (i : Int))) (isD (y i))) (hs : ∀ i, i < n.toNat → es (i + 1) = if f i then es i ++ [y i] else es i) :
    Svl (tLc (iRng1 (tCons te tNil)) (gName j) tt tel [j]) G (es n.toNat) := fun M0 σ B M H Q q => h M0 σ B M H _ fun v B1 e1 d1 p1 => by
  refine ⟨n, by rw [dp_int p1], by omega, by omega, fun Dl hD => ?_⟩
  have hM := (jn_free hD).2
  have hl : ∀ i, i ≤ n.toNat → (es i).length ≤ i := fun i => by
    induction i with
    | zero => intro _; rw [h0]; exact Nat.le_refl _
    | succ i ih => intro hi; rw [hs i (by omega)]; have := ih (by omega); split <;> simp <;> omega
  refine lc_range (lo := 0) (n := n.toNat) (Pvc B1 M Dl es) ⟨B1, [], by rw [upd_own], Ex.refl B1, dj_own d1 (jn_free hD).1, by rw [h0]; exact .nil⟩ (fun i H' hi p => ?_) (fun H' p => ?_)
  · obtain ⟨B', acc, rfl, e, dj, ha⟩ := p
    have e0 : (0 : Int) + (i : Int) = (i : Int) := Int.zero_add _
    rw [e0]
    exact lc_turn (H.ext e1 d1) hj hM e dj ha (by have := hl i (by omega); rw [sizeLine_eq]; omega) (.int _) (ht i hi) (he i hi) (hs i hi)
  · exact lc_end hM (Ex.refl _) (fun p vs B' e dj hf hv => q p vs B' (e1.trans e) dj hf hv) H' p
theorem st_yes : St' tYes G true := fun M0 σ B M H Q q => q B (Ex.refl B) H.dj
/-- no test: a map -/
theorem svl_lcMap (h : Rl tl G ds) (g : PyData → PyData) (hj : j < G.length) (hz : ds.length < 10000000) (he : ∀ d, d ∈ ds → Sv te (Gv G j d) (isD (g d))) : Svl (tLc (iList K tl) (gName j) tYes te [j]) G (ds.map g) := by
  have z := svl_lcL (K := K) (j := j) (te := te) (tt := tYes) h (fun i => (ds.take i).map g) (fun _ => true) (fun i => g (ds.getD i .none)) hj rfl hz (fun _ _ _ => st_yes) (fun i d hd _ => ?_) (fun i hi => ?_)
  · rw [List.take_length] at z; exact z
  · have e : ds.getD i .none = d := by rw [List.getD_eq_getElem?_getD, hd]; rfl
    rw [e]; exact he d (List.mem_of_getElem? hd)
  · have e : ds.getD i .none = ds[i] := by rw [List.getD_eq_getElem?_getD, List.getElem?_eq_getElem hi]; rfl
    simp only [if_true]
    rw [e, List.take_succ, List.getElem?_eq_getElem hi, List.map_append]; rfl
theorem svl_lcMapT (h : Sv tl G (isD (.tuple ds))) (g : PyData → PyData) (hj : j < G.length) (hz : ds.length < 10000000) (he : ∀ d, d ∈ ds → Sv te (Gv G j d) (isD (g d))) : Svl (tLc (iTup K tl) (gName j) tYes te [j]) G (ds.map g) := by
  have z := svl_lcT (K := K) (j := j) (te := te) (tt := tYes) h (fun i => (ds.take i).map g) (fun _ => true) (fun i => g (ds.getD i .none)) hj rfl hz (fun _ _ _ => st_yes) (fun i d hd _ => ?_) (fun i hi => ?_)
  · rw [List.take_length] at z; exact z
  · have e : ds.getD i .none = d := by rw [List.getD_eq_getElem?_getD, hd]; rfl
    rw [e]; exact he d (List.mem_of_getElem? hd)
  · have e : ds.getD i .none = ds[i] := by rw [List.getD_eq_getElem?_getD, List.getElem?_eq_getElem hi]; rfl
    simp only [if_true]
    rw [e, List.take_succ, List.getElem?_eq_getElem hi, List.map_append]; rfl
theorem svl_lcMapR (h : Sv te G (isD (.int n))) {tel : TE} (g : Nat → PyData) (hj : j < G.length) (hz : n < 10000000) (hlo : -(2 ^ 60) ≤ n) (he : ∀ i : Nat, i < n.toNat → Sv tel (Gv G j (.int (i : Int))) (isD (g i))) :
    Svl (tLc (iRng1 (tCons te tNil)) (gName j) tYes tel [j]) G ((List.range n.toNat).map g) :=
  svl_lcR (j := j) (te := te) (tt := tYes) h (fun i => (List.range i).map g) (fun _ => true) g hj rfl hz hlo (fun _ _ => st_yes) (fun i hi _ => he i hi) (fun i _ => by simp only [if_true]; rw [List.range_succ, List.map_append]; rfl)
end
end Mini

namespace Mini
open PySem L2 Evl PyProof.Rows
abbrev startV (N : List Str) (vs : List V) : L2.St := L2.start N vs

/-! ### two stores at once -/
section
variable {K : PySem.W.Frag} {E : L2.St → XK} {ta tb : TE} {G : Gm} {P P' : Ty} {ds es : List PyData} {i j : Nat}
theorem ss_par (ha : Sv ta G P) (hb : Sv tb G P') (hi : i < G.length := by exact Nat.le_of_ble_eq_true rfl) (hj : j < G.length := by exact Nat.le_of_ble_eq_true rfl) : Ss E (tPar i j (tCons ta (tCons tb tNil))) G (.nx ((G.set i (.im P)).set j (.im P'))) := fun M0 D σ B M H q =>
  ha M0 σ B M H _ fun x B1 e1 d1 p1 => hb M0 σ B1 M (H.ext e1 d1) _ fun y B2 e2 d2 p2 =>
    ⟨x, y, rfl, q _ B2 M (e1.trans e2) ((((H.ext e1 d1).ext e2 d2).setIm hi (P.mono e2 p1)).setIm (by rw [List.length_set]; exact hj) p2)⟩
theorem ss_parLL (ha : Svl ta G ds) (hb : Svl tb G es) (hi : i < G.length := by exact Nat.le_of_ble_eq_true rfl) (hj : j < G.length := by exact Nat.le_of_ble_eq_true rfl) : Ss E (tPar i j (tCons ta (tCons tb tNil))) G (.nx ((G.set i (.ow (isL ds))).set j (.ow (isL es)))) := fun M0 D σ B M H q =>
  ha M0 σ B M H _ fun p vs B1 e1 d1 hf ha1 => by
    rw [upd_own]
    have H1 := (H.ext e1 d1).more (p := p) (o := .lst vs) hf
    refine hb M0 σ B1 (upd M p (.lst vs)) H1 _ fun p2 us B2 e2 d2 hf2 ha2 => ?_
    rw [upd_own]
    refine ⟨.ref p, .ref p2, rfl, q _ B2 _ (e1.trans e2) ?_⟩
    have djM : Dj B2 M := fun a u q => by
      have := d2 a u q
      by_cases z : a = p
      · rw [z]; exact (jn_free hf).2
      · rw [upd_ne z] at this; exact this
    have hf' : jn B2 M p = none := by
      rw [jn_N (jn_free hf).2]; exact dj_free d2 upd_same
    have H2 : Holds M0 (G.set i (.ow (isL ds))) (σ.set i (some (.ref p))) B2 (upd M p (.lst vs)) := ((H.ext e1 d1).ext e2 djM).setOw hi hf' ⟨vs, rfl, DqAll_ex e2 ha1⟩
    exact H2.setOw (by rw [List.length_set]; exact hj) hf2 ⟨us, rfl, ha2⟩
end

/-! ### raise, try -/
def tRs (E : L2.St → XK) (C : Addr) : TS := fun _ σ H => E σ (.ref C) none H
theorem ps_rs {X : Cx} {e : Expr} {pos : Pos} {E : XK} {C : Addr} (hc : X.calm = true) (tk : Takes X (fun cls d _ H => E cls d H)) (he : PMk X e (fun _ H Q => Q (.ref C) none H)) : PS X (.Raise (some e) none pos) (tRs (fun _ => E) C) := ps_raise hc tk he
/-- what an own error class without an __init__ must be -/
structure ErrC (K : PySem.W.Frag) (mg : Str → Option Value) (x : Str) (C : Addr) (bm : List Value) : Prop where
  g : mg x = some (.ref C)
  ex : PySem.W.excIn K C bm "ValueError.__new__" = true
  kp : PySem.W.keepIn K (.ref C) = true
  sub : PySem.W.subIn K (.ref C) (.type "BaseException") = some true
  ty : PySem.W.typeIn K (.ref C) = some (.type "type")
theorem pmk_err {X : Cx} {x m : Str} {j : Nat} {p p2 pos : Pos} {C : Addr} (T : ErrC X.K X.mg x C [.type "ValueError", .type "Exception", .type "BaseException", .type "object"]) (hg : Gl X x := by rfl) (hdb : (x == ("__debug__" : Str)) = false := by decide) :
    PMk X (.Call (.Name x p) [.Constant (.str m) j p2] [] pos) (fun _ H Q => Q (.ref C) none H) := pmk_own PySem.F.excBase_ValueError T.ex T.g T.kp (raises_own T.sub T.ty) hg hdb
def isX (a : Addr) : Ty := isV (.ref a)
section
variable {K : PySem.W.Frag} {E : L2.St → XK} {G G1 G2 : Gm} {o o' : Out} {C : Addr} {i : Nat} {tb : WX → TS} {ts : Addr → Value → Option Addr → TS} {Wout : WX} {c : Value} {te ta : TE}
theorem ss_rs : Ss E (tRs E C) G (.bad C G) := fun M0 D σ B M H q => q σ B M (Ex.refl B) H
/-- the body of a try raises nothing -/
theorem ss_tryOk (h : ∀ W, Ss (fun σ cls d H => W cls d σ H) (tb W) G o) (hb : ∀ C G', o ≠ .bad C G') : Ss E (fun D σ H => tb (wAs K c i ts Wout D) D σ H) G o := fun M0 D σ B M H q => h _ M0 D σ B M H (by
  cases o with
  | nx G => exact q
  | rt P => exact q
  | rl ds => exact q
  | bk G => exact q
  | ct G => exact q
  | bad C G' => exact absurd rfl (hb C G'))
/-- what is left of a suite's way out: the exception's slot is empty behind it -/
def Out.offs (o : Out) (i : Nat) : Out := match o with
  | .nx G => .nx (G.set i .no)
  | .bk G => .bk (G.set i .no)
  | .ct G => .ct (G.set i .no)
  | o => o
/-- it raises C, and the clause takes it -/
theorem ss_tryBad (h : ∀ W, Ss (fun σ cls d H => W cls d σ H) (tb W) G (.bad C G1)) (hc : PySem.W.exmOne K (.ref C) c = some true) (hi : i < G1.length) (hs : ∀ a, Ss (fun _ => E0) (ts a (.ref C) none) (G1.set i (.im (isX a))) o) (hb : ∀ C G', o ≠ .bad C G') :
    Ss E (fun D σ H => tb (wAs K c i ts Wout D) D σ H) G (o.offs i) := fun M0 D σ B M H q => h _ M0 D σ B M H fun σ' B' M' e H' => by
  refine ⟨true, hc, fun _ a ha => ?_, fun z => by cases z⟩
  refine hs a M0 _ (σ'.set i (some (.ref a))) B' M' (H'.setIm hi rfl) ?_
  cases o with
  | nx G => exact fun σ2 B2 M2 e2 H2 => q _ B2 M2 (e.trans e2) (H2.wipe i none)
  | rt P => exact fun v B2 M2 e2 => q v B2 M2 (e.trans e2)
  | rl ds => exact fun p vs B2 M2 e2 => q p vs B2 M2 (e.trans e2)
  | bk G => exact fun σ2 B2 M2 e2 H2 => q _ B2 M2 (e.trans e2) (H2.wipe i none)
  | ct G => exact fun σ2 B2 M2 e2 H2 => q _ B2 M2 (e.trans e2) (H2.wipe i none)
  | bad C G' => exact absurd rfl (hb C G')
end
/-- isinstance(e, c) in a suite, e the exception at a of whatever class -/
def rIsX (K : PySem.W.Frag) (a : Addr) (cls : Value) (d : Option Addr) : List V → Hp → VK → Prop := fun xs H Q => ∃ D, cls = .ref D ∧ d = none ∧ ExcC K D ∧ rIsE K D a xs H Q
theorem call_isX {X : Cx} {a : Addr} {cls : Value} {d : Option Addr} {oe : Obj} {pn : List (Addr × Obj)} (hz : Zc cls d oe) (hf : ∃ vs, oe.data = .fields vs) : CallR (X.suite a ((a, oe) :: pn)) (.builtin "isinstance") (rIsX X.K a cls d) := by
  intro pins s σ H xs us Q I r h
  obtain ⟨D, e1, e2, C, q⟩ := h
  subst e1 e2
  exact call_isE C hz hf pins s σ H xs us Q I r q
theorem sv_isX {K : PySem.W.Frag} {G : Gm} {te ta : TE} {a D C : Addr} {b : Bool} (he : Sv te G (isX a)) (hc : Sv ta G (isV (.ref C))) (X : ExcC K D) (h : PySem.W.kitOne K (.ref D) (.ref C) = some b) : Sv (tCB (rIsX K a (.ref D) none) (tCons te (tCons ta tNil))) G (isD (.bool b)) := fun M0 σ B M H Q q =>
  he M0 σ B M H _ fun x B1 e1 d1 p1 => hc M0 σ B1 M (H.ext e1 d1) _ fun y B2 e2 d2 p2 => by
    rw [show x = .ref a from p1, show y = .ref C from p2]
    exact ⟨D, rfl, rfl, X, .ref C, .ref C, b, rfl, fun u r => r, h, q _ B2 (e1.trans e2) d2 (.bl _)⟩

/-! ### a def's body keeps its promise -/
def entG : List Ar → Gm
  | [] => []
  | .im P :: as => .im P :: entG as
  | .ow R :: as => .bw R :: entG as
theorem entG_len : ∀ as, (entG as).length = as.length
  | [] => rfl
  | .im P :: as => by simp [entG, entG_len as]
  | .ow R :: as => by simp [entG, entG_len as]
def startG (n : Nat) (as : List Ar) : Gm := entG as ++ List.replicate (n - as.length) .no
theorem ent_get : ∀ {as : List Ar} {vs : List V} {B M : Hp} {i : Nat} {S : Sl}, ArsOk as vs B M → (entG as)[i]? = some S → (∃ P v, S = .im P ∧ vs[i]? = some v ∧ P.p v B) ∨ (∃ R l o, S = .bw R ∧ vs[i]? = some (.ref l) ∧ M l = some o ∧ R.r l o B)
  | [], _, _, _, i, S, h, e => by simp [entG] at e
  | .im P :: as, _, _, _, 0, S, h, e => by
    cases h with | cons a b => simp [entG] at e; subst e; exact .inl ⟨P, _, rfl, rfl, a⟩
  | .ow R :: as, _, _, _, 0, S, h, e => by
    cases h with | cons a b => simp [entG] at e; subst e; obtain ⟨l, o, h1, h2, h3⟩ := a; exact .inr ⟨R, l, o, rfl, by rw [h1]; rfl, h2, h3⟩
  | .im P :: as, _, _, _, i + 1, S, h, e => by
    cases h with | cons a b => simpa using ent_get (i := i) b (by simpa [entG] using e)
  | .ow R :: as, _, _, _, i + 1, S, h, e => by
    cases h with | cons a b => simpa using ent_get (i := i) b (by simpa [entG] using e)
theorem start_get {N : List Str} {as : List Ar} {vs : List V} {B M : Hp} (h : ArsOk as vs B M) {i : Nat} {S : Sl} (e : (startG N.length as)[i]? = some S) (hn : S ≠ .no) : i < vs.length ∧ (entG as)[i]? = some S := by
  unfold startG at e
  by_cases hi : i < (entG as).length
  · rw [List.getElem?_append_left hi] at e
    exact ⟨by rw [h.len, ← entG_len]; exact hi, e⟩
  · rw [List.getElem?_append_right (by omega), List.getElem?_replicate] at e
    split at e
    · exact absurd (Option.some.inj e).symm hn
    · cases e
theorem holds_start {N : List Str} {as : List Ar} {vs : List V} {B M : Hp} (dj : Dj B M) (h : ArsOk as vs B M) (hN : as.length ≤ N.length) : Holds M (startG N.length as) (L2.start N vs) B M where
  len := by unfold L2.start startG; simp [entG_len, h.len]
  dj := dj
  cal := fun _ _ h => h
  im := fun i P q => by
    obtain ⟨hi, e⟩ := start_get h q (by intro z; cases z)
    rcases ent_get h e with ⟨P', v, h1, h2, h3⟩ | ⟨R, l, o, h1, _⟩
    · cases h1
      exact ⟨v, by unfold L2.start; rw [List.getElem?_append_left (by simpa using hi), List.getElem?_map, h2]; rfl, h3⟩
    · cases h1
  ow := fun i R q => by
    obtain ⟨hi, e⟩ := start_get h q (by intro z; cases z)
    rcases ent_get h e with ⟨P', v, h1, _⟩ | ⟨R, l, o, h1, _⟩ <;> cases h1
  bw := fun i R q => by
    obtain ⟨hi, e⟩ := start_get h q (by intro z; cases z)
    rcases ent_get h e with ⟨P', v, h1, _⟩ | ⟨R', l, o, h1, h2, h3, h4⟩
    · cases h1
    · cases h1
      exact ⟨l, o, by unfold L2.start; rw [List.getElem?_append_left (by simpa using hi), List.getElem?_map, h2]; rfl, h3, h4⟩
  ne := fun i j R R' l q q' => by
    obtain ⟨hi, e⟩ := start_get h q (by intro z; cases z)
    rcases ent_get h e with ⟨P', v, h1, _⟩ | ⟨R, l, o, h1, _⟩ <;> cases h1
/-- all that is not the caller's is let stand -/
def rst (M0 H : Hp) : Hp := fun a => match M0 a with
  | some _ => none
  | none => H a
theorem rst_jn {M0 B M : Hp} (e : Ex M0 M) : jn (rst M0 (jn B M)) M0 = jn B M := by
  funext a
  unfold jn rst
  dsimp only
  cases h : M0 a with
  | some o => rw [e a o h]
  | none => rfl
theorem rst_dj {M0 H : Hp} : Dj (rst M0 H) M0 := fun a o h => by
  unfold rst at h
  cases q : M0 a with
  | some o => rw [q] at h; cases h
  | none => rfl
theorem rst_ex {M0 B M : Hp} (e : Ex M0 M) (d : Dj B M) : Ex B (rst M0 (jn B M)) := fun a o h => by
  unfold rst
  cases q : M0 a with
  | some u => have := d a o h; rw [e a u q] at this; cases this
  | none => exact jn_B d h
/-- how the result of a def is told -/
inductive Ans (E : L2.St → XK) (ts : TS) (G : Gm) : Rs → Prop where
  | ok {P} : Ss E ts G (.rt P) → Ans E ts G (.ok P)
  | non {G'} : Ss E ts G (.nx G') → Ans E ts G (.ok (isD .none))
  | ol {ds} : Ss E ts G (.rl ds) → Ans E ts G (.ol ds)
  | oll {ds} : Ss E ts G (.rl ds) → Ans E ts G (.ok (isD (.list ds)))
  | bad {C G'} : Ss E ts G (.bad C G') → Ans E ts G (.bad C)
theorem ans_run {E : XK} {ts : TS} {N : List Str} {as : List Ar} {vs : List V} {B M : Hp} {r : Rs} {Q : VK} (dj : Dj B M) (h : ArsOk as vs B M) (hN : as.length ≤ N.length) (w : r.wp B M Q E) (a : Ans (fun _ => E) ts (startG N.length as) r) :
    ts { nx := fun _ H' => Q .non H', rt := Q } (L2.start N vs) (jn B M) := by
  have H := holds_start dj h hN
  cases a with
  | ok s =>
    refine s M _ _ B M H fun v B' M' e d c p => ?_
    · have := w v (rst M (jn B' M')) (e.trans (rst_ex c d)) rst_dj (Ty.mono _ (rst_ex c d) p)
      rw [rst_jn c] at this
      exact this
  | non s =>
    refine s M _ _ B M H fun σ' B' M' e H' => ?_
    · have := w .non (rst M (jn B' M')) (e.trans (rst_ex H'.cal H'.dj)) rst_dj Dq.non
      rw [rst_jn H'.cal] at this
      exact this
  | ol s =>
    refine s M _ _ B M H fun p us B' M' e d c f hp hd => ?_
    ·
      -- the list stays its own: all else is let stand
      have hB : B' p = none := dj_free d hp
      have d2 : Dj B' (del M' p) := fun a u q => by
        by_cases z : a = p
        · exact if_pos z
        · rw [del_ne z]; exact d a u q
      have c2 : Ex M (del M' p) := fun a u q => by
        have z : a ≠ p := fun z => by rw [z, f] at q; cases q
        rw [del_ne z]; exact c a u q
      have hf : jn (rst M (jn B' (del M' p))) M p = none := by
        rw [rst_jn c2, jn_N (show del M' p p = none from if_pos rfl)]; exact hB
      have := w p us (rst M (jn B' (del M' p))) (e.trans (rst_ex c2 d2)) rst_dj hf (DqAll_ex (rst_ex c2 d2) hd)
      rw [rst_jn c2, upd_own] at this
      have e3 : upd (del M' p) p (.lst us) = M' := by
        funext a
        by_cases z : a = p
        · rw [z, upd_same, hp]
        · rw [upd_ne z, del_ne z]
      rw [e3] at this
      exact this
  | oll s =>
    refine s M _ _ B M H fun p us B' M' e d c f hp hd => ?_
    ·
      have hx := rst_ex c d
      have := w (.ref p) (rst M (jn B' M')) (e.trans hx) rst_dj (.lst (show rst M (jn B' M') p = some (.lst us) by unfold rst; rw [f]; exact jn_M hp) (DqAll_ex hx hd))
      rw [rst_jn c] at this
      exact this
  | bad s =>
    refine s M _ _ B M H fun σ' B' M' e H' => ?_
    · have := w (rst M (jn B' M')) (e.trans (rst_ex H'.cal H'.dj)) rst_dj
      rw [rst_jn H'.cal] at this
      exact this
section
variable {P : Program} {w : World} {K : PySem.W.Frag} {mg : Str → Option Value} {base : Heap}
abbrev cxD (P : Program) (w : World) (K : PySem.W.Frag) (mg : Str → Option Value) (base : Heap) (N : List Str) (qual : Str) (st : Stmt) (f : Addr) (cdv : Value) (A : Around) (outer : List Env) (s : Shared) (H : Hp) (E : XK) : Cx :=
  cxOf (L2.CX P w) P w K mg base N qual (defScope st) f cdv A outer s H E
theorem fn_ok {x qual : Str} {st : Stmt} {f : Addr} {fd : FuncData} {N ps : List Str} {k : Nat} {S : Fs} (F : Fun K x qual st f fd) (sc : FnScope N ps (defScope st)) (hn : S.n = ps.length)
    (hb : ∀ (cdv : Value) (A : Around) (outer : List Env) (s : Shared) (H : Hp) (E : XK), Room k (A.deeper (envOfC qual (defScope st) s.heap.objs.size f cdv)) →
      ∃ t, PSs (cxD P w K mg base N qual st f cdv A outer s H E) (defBody st) t ∧ ∀ x : S.α, Ans (fun _ => E) t (startG N.length (S.ars x)) (S.res x)) : FnOk P w K mg base (L2.CX P w) (k + 1) f fd ps (spF S) := by
  refine F.okX sc (fun vs H Q E h => by rw [spF_len h, hn]) (fun cdv A outer s H vs Q E hr h => ?_)
  obtain ⟨t, h1, h2⟩ := hb cdv A outer s H E hr
  refine ⟨t, h1, ?_⟩
  obtain ⟨x, B, M, rfl, dj, ha, hw⟩ := h
  refine ans_run dj ha ?_ hw (h2 x)
  have := congrArg List.length sc.pre
  rw [List.length_take] at this
  rw [S.len, hn]
  omega
/-- an __init__: self is its own, in slot 0 -/
theorem ini_ok {x qual : Str} {st : Stmt} {f C : Addr} {fd : FuncData} {N ps : List Str} {k : Nat} {S : Ini} (F : Fun K x qual st f fd) (sc : FnScope N ps (defScope st)) (hn : S.n + 1 = ps.length)
    (hb : ∀ (cdv : Value) (A : Around) (outer : List Env) (s : Shared) (H : Hp) (E : XK), Room k (A.deeper (envOfC qual (defScope st) s.heap.objs.size f cdv)) →
      ∃ t, PSs (cxD P w K mg base N qual st f cdv A outer s H E) (defBody st) t ∧ ∀ x : S.α, match S.res x with
        | .inl F => ∀ p dx, ∃ G', G'[0]? = some (.ow (owI C p dx F)) ∧ Ss (fun _ => E) t (.ow (owI C p dx (flds [])) :: startG (N.length - 1) (S.ars x)) (.nx G')
        | .inr X => ∀ p dx, ∃ G' F', G'[0]? = some (.ow (owI C p dx F')) ∧ Ss (fun _ => E) t (.ow (owI C p dx (flds [])) :: startG (N.length - 1) (S.ars x)) (.bad X G')) : FnOk P w K mg base (L2.CX P w) (k + 1) f fd ps (spN C S) := by
  refine F.okX sc (fun vs H Q E h => by rw [spN_len h, hn]) (fun cdv A outer s H vs Q E hr h => ?_)
  obtain ⟨t, h1, h2⟩ := hb cdv A outer s H E hr
  refine ⟨t, h1, ?_⟩
  obtain ⟨x, B, M, p, dx, us, rfl, rfl, dj, hp, ha, hw⟩ := h
  have hlen : S.n + 1 ≤ N.length := by
    have := congrArg List.length sc.pre
    rw [List.length_take] at this
    omega
  obtain ⟨n0, N', rfl⟩ : ∃ n0 N', N = n0 :: N' := by
    cases N with
    | nil => simp at hlen
    | cons a b => exact ⟨a, b, rfl⟩
  -- the caller's own but the instance
  have dj2 : Dj B (del M p) := fun a u q => by
    by_cases z : a = p
    · exact if_pos z
    · rw [del_ne z]; exact dj a u q
  have H0 : Holds (del M p) (.ow (owI C p dx (flds [])) :: startG N'.length (S.ars x)) (L2.start (n0 :: N') (.ref p :: us)) B M := by
    have a := S.len x
    have e1 : L2.start (n0 :: N') (V.ref p :: us) = some (V.ref p) :: L2.start N' us := by
      unfold L2.start
      simp
    rw [e1]
    have ha' : ∀ {i : Nat} {S1 : Sl}, (startG N'.length (S.ars x))[i]? = some S1 → S1 ≠ .no → i < us.length ∧ (entG (S.ars x))[i]? = some S1 := fun e hn => start_get ha e hn
    have us_get : ∀ {i : Nat} {v : V}, us[i]? = some v → (L2.start N' us)[i]? = some (some v) := fun {i v} e => by
      have hi := (List.getElem?_eq_some_iff.mp e).1
      unfold L2.start
      rw [List.getElem?_append_left (by simpa using hi), List.getElem?_map, e]; rfl
    exact {
      len := by unfold L2.start startG; simp [entG_len, ha.len]
      dj := dj
      cal := fun a o h => by
        by_cases z : a = p
        · rw [z, show del M p p = none from if_pos rfl] at h; cases h
        · rw [del_ne z] at h; exact h
      im := fun i P q => by
        cases i with
        | zero => simp at q
        | succ i =>
          have q : (startG N'.length (S.ars x))[i]? = some (.im P) := by simpa using q
          obtain ⟨hi, e⟩ := ha' q (by intro z; cases z)
          rcases ent_get ha e with ⟨P', v, h1, h2, h3⟩ | ⟨R, l, o, h1, _⟩
          · cases h1; exact ⟨v, by simpa using us_get h2, h3⟩
          · cases h1
      ow := fun i R q => by
        cases i with
        | zero =>
          have q : Sl.ow (owI C p dx (flds [])) = Sl.ow R := by simpa using q
          cases q
          exact ⟨p, _, rfl, hp, ⟨rfl, [], rfl, .nil, by decide⟩, if_pos rfl⟩
        | succ i =>
          have q : (startG N'.length (S.ars x))[i]? = some (.ow R) := by simpa using q
          obtain ⟨hi, e⟩ := ha' q (by intro z; cases z)
          rcases ent_get ha e with ⟨P', v, h1, _⟩ | ⟨R, l, o, h1, _⟩ <;> cases h1
      bw := fun i R q => by
        cases i with
        | zero => simp at q
        | succ i =>
          have q : (startG N'.length (S.ars x))[i]? = some (.bw R) := by simpa using q
          obtain ⟨hi, e⟩ := ha' q (by intro z; cases z)
          rcases ent_get ha e with ⟨P', v, h1, _⟩ | ⟨R', l, o, h1, h2, h3, h4⟩
          · cases h1
          · cases h1
            exact ⟨l, o, by simpa using us_get h2, h3, h4⟩
      ne := fun i j R R' l q q' _ _ => by
        have only : ∀ {i : Nat} {R : Ow}, (Sl.ow (owI C p dx (flds [])) :: startG N'.length (S.ars x))[i]? = some (.ow R) → i = 0 := fun {i R} q => by
          cases i with
          | zero => rfl
          | succ i =>
            have q : (startG N'.length (S.ars x))[i]? = some (.ow R) := by simpa using q
            obtain ⟨hi, e⟩ := ha' q (by intro z; cases z)
            rcases ent_get ha e with ⟨P', v, h1, _⟩ | ⟨R, l, o, h1, _⟩ <;> cases h1
        rw [only q, only q'] }
  have h3 := h2 x
  have back : Ex (del M p) (upd (del M p) p (.ins C dx [])) := fun a o h => by
    have z : a ≠ p := fun z => by rw [z, show del M p p = none from if_pos rfl] at h; cases h
    rw [upd_ne z]; exact h
  cases hr : S.res x with
  | inl F =>
    rw [hr] at hw h3
    obtain ⟨G', hg, s⟩ := h3 p dx
    refine s (del M p) _ _ B M H0 fun σ' B' M' e H' => ?_
    obtain ⟨l, o, a, c, ⟨rfl, fs, rfl, r, _⟩, f⟩ := H'.ow 0 _ hg
    -- all but the caller's and the instance are let stand
    have c1 : Ex (upd (del M l) l (.ins C dx fs)) M' := fun a o h => by
      by_cases z : a = l
      · rw [z] at h ⊢; rw [upd_same] at h; rw [← h]; exact c
      · rw [upd_ne z] at h; exact H'.cal a o h
    have e1 : upd (del M l) l (.ins C dx fs) = upd M l (.ins C dx fs) := by
      funext a
      by_cases z : a = l
      · rw [z, upd_same, upd_same]
      · rw [upd_ne z, upd_ne z, del_ne z]
    rw [e1] at c1
    have hx := rst_ex c1 H'.dj
    have d3 : Dj (rst (upd M l (.ins C dx fs)) (jn B' M')) M := fun a u q => by
      have := rst_dj a u q
      by_cases z : a = l
      · rw [z, upd_same] at this; cases this
      · rw [upd_ne z] at this; exact this
    have d4 : Dj (rst (upd M l (.ins C dx fs)) (jn B' M')) M := d3
    have := hw (rst (upd M l (.ins C dx fs)) (jn B' M')) fs (e.trans hx) d4 (F.mono hx r)
    rw [rst_jn c1] at this
    exact this
  | inr X =>
    rw [hr] at hw h3
    obtain ⟨G', F', hg, s⟩ := h3 p dx
    refine s (del M p) _ _ B M H0 fun σ' B' M' e H' => ?_
    obtain ⟨l, o, a, c, ⟨rfl, fs, rfl, r, _⟩, f⟩ := H'.ow 0 _ hg
    have c1 : Ex (upd (del M l) l (.ins C dx fs)) M' := fun a o h => by
      by_cases z : a = l
      · rw [z] at h ⊢; rw [upd_same] at h; rw [← h]; exact c
      · rw [upd_ne z] at h; exact H'.cal a o h
    have e1 : upd (del M l) l (.ins C dx fs) = upd M l (.ins C dx fs) := by
      funext a
      by_cases z : a = l
      · rw [z, upd_same, upd_same]
      · rw [upd_ne z, upd_ne z, del_ne z]
    rw [e1] at c1
    have hx := rst_ex c1 H'.dj
    have d3 : Dj (rst (upd M l (.ins C dx fs)) (jn B' M')) M := fun a u q => by
      have := rst_dj a u q
      by_cases z : a = l
      · rw [z, upd_same] at this; cases this
      · rw [upd_ne z] at this; exact this
    have := hw (rst (upd M l (.ins C dx fs)) (jn B' M')) fs (e.trans hx) d3
    rw [rst_jn c1] at this
    exact this
end
end Mini

namespace Mini
open PySem L2 Evl PyProof.Rows
/-- a constant of the module -/
def GC (mg : Str → Option Value) (x : Str) (v : V) : Prop := ∃ u, mg x = some u ∧ RelV v u
theorem pe_gc {X : Cx} {x : Str} {v : V} {pos : Pos} (h : GC X.mg x v) (hg : Gl X x := by rfl) (hd : (x == ("__debug__" : Str)) = false := by decide) : PE X (.Name x pos) (tC v) := by
  obtain ⟨u, h1, h2⟩ := h
  exact pe_glob hg h1 h2 hd
theorem pe_err {X : Cx} {x : Str} {C : Addr} {pos : Pos} (h : X.mg x = some (.ref C)) (hg : Gl X x := by rfl) (hd : (x == ("__debug__" : Str)) = false := by decide) : PE X (.Name x pos) (tC (.ref C)) := pe_glob hg h rfl hd
/-- what is no int from 0 on below n -/
def belowB (d : PyData) (n : Int) : Bool := match d with
  | .int i => decide (0 ≤ i) && decide (i < n)
  | _ => false
def argOf : PyData ⊕ List PyData → Ar
  | .inl d => .im (isD d)
  | .inr ds => .ow (isL ds)
def lenD : PyData → Nat
  | .tuple ds => ds.length
  | .list ds => ds.length
  | _ => 0
/-- small enough to be walked -/
def Fit (d : PyData) : Prop := lenD d < 10000000
def Fits (d : PyData) : Prop := match d with
  | .list ds => ds.length < 10000000 ∧ ∀ e ∈ ds, Fit e
  | _ => True
/-- a book's attributes -/
def bookF (m : PyData) (ds : List PyData) : Fl := flds [("letters", isD m), ("size", isD (.int ds.length)), ("_words", isD (.list ds))]
theorem bookF_no {m : PyData} {ds : List PyData} {f : Str} (h : ([("letters", isD m), ("size", isD (.int ds.length)), ("_words", isD (.list ds))] : List (Str × Ty)).lookup f = none) : ∀ vs B, (bookF m ds).r vs B → vs.lookup f = none := fun vs B r => (FldsOk.look r).2 h
def wD (ws : List (List Int)) : List PyData := ws.map fun w => .tuple (w.map .int)
def slOf : PyData ⊕ List PyData → Sl
  | .inl d => .im (isD d)
  | .inr ds => .bw (isL ds)
theorem ent_slOf (a : PyData ⊕ List PyData) (as : List Ar) : entG (argOf a :: as) = slOf a :: entG as := by cases a <;> rfl
def datOf : PyData ⊕ List PyData → PyData
  | .inl d => d
  | .inr ds => .list ds
theorem rl_slOf {a : PyData ⊕ List PyData} {ds : List PyData} (h : datOf a = .list ds) {G : Gm} {n : Nat} (hG : G[n]? = some (slOf a)) : Rl (tVar n) G ds := by
  cases a with
  | inl d => have e : d = .list ds := h; subst e; exact rl_sv (sv_var hG)
  | inr es => have e : es = ds := PyData.list.inj h; subst e; exact rl_bw hG
theorem sv_slOf {a : PyData ⊕ List PyData} (h : ∀ ds, datOf a ≠ .list ds) {G : Gm} {n : Nat} (hG : G[n]? = some (slOf a)) : Sv (tVar n) G (isD (datOf a)) := by
  cases a with
  | inl d => exact sv_var hG
  | inr es => exact absurd rfl (h es)
theorem sa_slOf {a : PyData ⊕ List PyData} {G : Gm} {n : Nat} {tr : TA} {as : List Ar} (h : G[n]? = some (slOf a)) (hr : Sa tr G as) : Sa (tCons (tVar n) tr) G (argOf a :: as) := by
  cases a with
  | inl d => exact sa_im (sv_var h) hr
  | inr ds => exact sa_bw h hr
def tupB (f : PyData → Bool) (d : PyData) : Bool := match d with
  | .tuple ds => ds.all f
  | _ => false
def isWordB (d : PyData) (n : Int) : Bool := tupB (fun e => belowB e n) d && (decide (1 ≤ (lenD d : Int)) && decide ((lenD d : Int) ≤ 5000))
def areWordsB (d : PyData) (n : Int) : Bool := match d with
  | .list ds => decide (ds.length ≤ 60) && ds.all fun e => isWordB e n
  | _ => false
theorem at_getD {ds : List PyData} {i : Int} (h0 : 0 ≤ i) (h1 : i < ds.length) : atI ds i = some (ds.getD i.toNat .none) := by
  obtain ⟨n, rfl⟩ := Int.eq_ofNat_of_zero_le h0
  have hn : n < ds.length := by omega
  have e : ds[n]? = some (ds.getD n .none) := by rw [List.getD_eq_getElem?_getD, List.getElem?_eq_getElem hn]; rfl
  exact atI_nat e
theorem ini_good {E : L2.St → XK} {t : TS} {G G' : Gm} {S : Sl} (h2 : Ss E t G (.nx G')) (h1 : G'[0]? = some S) : ∃ G', G'[0]? = some S ∧ Ss E t G (.nx G') := ⟨G', h1, h2⟩
theorem ini_bad {E : L2.St → XK} {t : TS} {G G' : Gm} {C p dx X : Addr} {F' : Fl} (h2 : Ss E t G (.bad X G')) (h1 : G'[0]? = some (.ow (owI C p dx F'))) : ∃ G' F', G'[0]? = some (.ow (owI C p dx F')) ∧ Ss E t G (.bad X G') := ⟨G', F', h1, h2⟩
theorem all_map_id {α : Type} (f : α → Bool) : ∀ l : List α, (l.map f).all id = l.all f
  | [] => rfl
  | a :: l => by simp [all_map_id f l]
def dInt : PyData → Bool
  | .int _ => true
  | .bool _ => true
  | _ => false
def dBool : PyData → Bool
  | .bool _ => true
  | _ => false
def dStr : PyData → Bool
  | .str _ => true
  | _ => false
def dTup : PyData → Bool
  | .tuple _ => true
  | _ => false
def dLst : PyData → Bool
  | .list _ => true
  | _ => false
theorem kit_int : ∀ d, kitB (tyName d) "int" = some (dInt d)
  | .none => (by decide +kernel : kitB "NoneType" "int" = some false)
  | .bool _ => (by decide +kernel : kitB "bool" "int" = some true)
  | .int _ => (by decide +kernel : kitB "int" "int" = some true)
  | .str _ => (by decide +kernel : kitB "str" "int" = some false)
  | .list _ => (by decide +kernel : kitB "list" "int" = some false)
  | .tuple _ => (by decide +kernel : kitB "tuple" "int" = some false)
  | .dict _ => (by decide +kernel : kitB "dict" "int" = some false)
theorem kit_bool : ∀ d, kitB (tyName d) "bool" = some (dBool d)
  | .none => (by decide +kernel : kitB "NoneType" "bool" = some false)
  | .bool _ => (by decide +kernel : kitB "bool" "bool" = some true)
  | .int _ => (by decide +kernel : kitB "int" "bool" = some false)
  | .str _ => (by decide +kernel : kitB "str" "bool" = some false)
  | .list _ => (by decide +kernel : kitB "list" "bool" = some false)
  | .tuple _ => (by decide +kernel : kitB "tuple" "bool" = some false)
  | .dict _ => (by decide +kernel : kitB "dict" "bool" = some false)
theorem kit_str : ∀ d, kitB (tyName d) "str" = some (dStr d)
  | .none => (by decide +kernel : kitB "NoneType" "str" = some false)
  | .bool _ => (by decide +kernel : kitB "bool" "str" = some false)
  | .int _ => (by decide +kernel : kitB "int" "str" = some false)
  | .str _ => (by decide +kernel : kitB "str" "str" = some true)
  | .list _ => (by decide +kernel : kitB "list" "str" = some false)
  | .tuple _ => (by decide +kernel : kitB "tuple" "str" = some false)
  | .dict _ => (by decide +kernel : kitB "dict" "str" = some false)
theorem kit_tup : ∀ d, kitB (tyName d) "tuple" = some (dTup d)
  | .none => (by decide +kernel : kitB "NoneType" "tuple" = some false)
  | .bool _ => (by decide +kernel : kitB "bool" "tuple" = some false)
  | .int _ => (by decide +kernel : kitB "int" "tuple" = some false)
  | .str _ => (by decide +kernel : kitB "str" "tuple" = some false)
  | .list _ => (by decide +kernel : kitB "list" "tuple" = some false)
  | .tuple _ => (by decide +kernel : kitB "tuple" "tuple" = some true)
  | .dict _ => (by decide +kernel : kitB "dict" "tuple" = some false)
theorem kit_lst : ∀ d, kitB (tyName d) "list" = some (dLst d)
  | .none => (by decide +kernel : kitB "NoneType" "list" = some false)
  | .bool _ => (by decide +kernel : kitB "bool" "list" = some false)
  | .int _ => (by decide +kernel : kitB "int" "list" = some false)
  | .str _ => (by decide +kernel : kitB "str" "list" = some false)
  | .list _ => (by decide +kernel : kitB "list" "list" = some true)
  | .tuple _ => (by decide +kernel : kitB "tuple" "list" = some false)
  | .dict _ => (by decide +kernel : kitB "dict" "list" = some false)
section
variable {K : PySem.W.Frag} {G : Gm} {ta tb : TE} {d : PyData} {ds : List PyData}
theorem sv_isInt (ha : Sv ta G (isD d)) : Sv (tCB (rIsi K) (tCons ta (tCons (tC (.ty "int")) tNil))) G (isD (.bool (dInt d))) := sv_isi ha sv_val (kit_int d)
theorem sv_isBool (ha : Sv ta G (isD d)) : Sv (tCB (rIsi K) (tCons ta (tCons (tC (.ty "bool")) tNil))) G (isD (.bool (dBool d))) := sv_isi ha sv_val (kit_bool d)
theorem sv_isStr (ha : Sv ta G (isD d)) : Sv (tCB (rIsi K) (tCons ta (tCons (tC (.ty "str")) tNil))) G (isD (.bool (dStr d))) := sv_isi ha sv_val (kit_str d)
theorem sv_isTup (ha : Sv ta G (isD d)) : Sv (tCB (rIsi K) (tCons ta (tCons (tC (.ty "tuple")) tNil))) G (isD (.bool (dTup d))) := sv_isi ha sv_val (kit_tup d)
theorem sv_isLst (ha : Sv ta G (isD d)) : Sv (tCB (rIsi K) (tCons ta (tCons (tC (.ty "list")) tNil))) G (isD (.bool (dLst d))) := sv_isi ha sv_val (kit_lst d)
theorem sv_isLstR (ha : Rl ta G ds) : Sv (tCB (rIsi K) (tCons ta (tCons (tC (.ty "list")) tNil))) G (isD (.bool true)) := sv_isiL ha sv_val (kit_lst (.list []))
end
end Mini

namespace Mini
open PySem L2 Evl

/-! ### weaker slots, written out -/
theorem Le.nil : Le [] [] := Le.refl []
theorem Le.eq {S : Sl} {G1 G2 : Gm} (h : Le G1 G2) : Le (S :: G1) (S :: G2) := ⟨by simp [h.1], fun i R q => by
  cases i with
  | zero => exact .inr q
  | succ i => exact h.2 i R (by simpa using q)⟩
theorem Le.no {S : Sl} {G1 G2 : Gm} (h : Le G1 G2) : Le (S :: G1) (.no :: G2) := ⟨by simp [h.1], fun i R q => by
  cases i with
  | zero => have e : Sl.no = R := by simpa using q
            exact .inl e.symm
  | succ i => exact h.2 i R (by simpa using q)⟩

/-! ### the laws' own draws -/
def digS (s : List Int × Int) : List Int × Int := if 0 < s.2 then (s.1 ++ [s.2 % 1009], s.2 / 1009) else s
def itN {α : Type} (f : α → α) : Nat → α → α
  | 0, a => a
  | n + 1, a => f (itN f n a)
def absI (c : Int) : Int := if c < 0 then -c else c
def seedS (s c : Int) : Int := (s * 48271 + absI c + 11) % 2147483647
def cellS (s : List Int × Int) (c : Int) : List Int × Int :=
  if 10 ^ 18 ≤ absI c then ((itN digS 60 (s.1, absI c)).1, seedS s.2 c) else (s.1 ++ [(seedS s.2 c * 16807 + 5) / 3 % 65521], seedS s.2 c)
def fillS (many : Int) (s : List Int × Int) (k : Nat) : List Int × Int :=
  if (s.1.length : Int) < many then (s.1 ++ [(s.2 * 69621 + (k : Int) + 1) % 2147483647 / 7 % 65521], (s.2 * 69621 + (k : Int) + 1) % 2147483647) else s
def cellsS (ns : List Int) (i : Nat) : List Int × Int := (ns.take i).foldl cellS ([], 7)
def fillsS (ns : List Int) (many : Int) (k : Nat) : List Int × Int := (List.range k).foldl (fillS many) (cellsS ns ns.length)
def drawsF (ns : List Int) (many : Int) : List Int := cutD (fillsS (cutD ns none (some 63)) many many.toNat).1 none (some many)
theorem cellsS_succ {ns : List Int} {i : Nat} {c : Int} (h : ns[i]? = some c) : cellsS ns (i + 1) = cellS (cellsS ns i) c := by
  unfold cellsS
  rw [List.take_succ, h, List.foldl_append]
  rfl
theorem fillsS_succ (ns : List Int) (many : Int) (k : Nat) : fillsS ns many (k + 1) = fillS many (fillsS ns many k) k := by
  unfold fillsS
  rw [List.range_succ, List.foldl_append]
  rfl
theorem digS_len (s : List Int × Int) : (digS s).1.length ≤ s.1.length + 1 := by
  unfold digS
  split
  · simp
  · omega
theorem itN_len {n : Nat} {s : List Int × Int} : (itN digS n s).1.length ≤ s.1.length + n := by
  induction n with
  | zero => exact Nat.le_refl _
  | succ n ih =>
    have := digS_len (itN digS n s)
    show (digS (itN digS n s)).1.length ≤ _
    omega
theorem cellS_len (s : List Int × Int) (c : Int) : (cellS s c).1.length ≤ s.1.length + 60 := by
  unfold cellS
  split
  · exact itN_len (s := (s.1, absI c))
  · simp
theorem cellsS_len {ns : List Int} : ∀ i, i ≤ ns.length → (cellsS ns i).1.length ≤ 60 * i
  | 0, _ => by simp [cellsS]
  | i + 1, h => by
    rw [cellsS_succ (List.getElem?_eq_getElem (show i < ns.length by omega))]
    have := cellS_len (cellsS ns i) ns[i]
    have := cellsS_len (ns := ns) i (by omega)
    omega
theorem fillS_len (many : Int) (s : List Int × Int) (k : Nat) : (fillS many s k).1.length ≤ s.1.length + 1 := by
  unfold fillS
  split
  · simp
  · omega
theorem fillsS_len (ns : List Int) (many : Int) : ∀ k, (fillsS ns many k).1.length ≤ 60 * ns.length + k
  | 0 => cellsS_len ns.length (Nat.le_refl _)
  | k + 1 => by
    rw [fillsS_succ]
    have := fillS_len many (fillsS ns many k) k
    have := fillsS_len ns many k
    omega
theorem fillsS_ge (ns : List Int) (many : Int) : ∀ k : Nat, (k : Int) ≤ many → k ≤ (fillsS ns many k).1.length
  | 0, _ => Nat.zero_le _
  | k + 1, h => by
    rw [fillsS_succ]
    have := fillsS_ge ns many k (by omega)
    unfold fillS
    split
    · rw [List.length_append, List.length_singleton]; omega
    · omega
theorem cut_take {α : Type} (ds : List α) {i : Int} (h0 : 0 ≤ i) : cutD ds none (some i) = ds.take i.toNat := by
  unfold cutD
  obtain ⟨n, rfl⟩ := Int.eq_ofNat_of_zero_le h0
  rw [HT.sIx_none]
  show (ds.drop 0).take (HT.sIx ds.length ds.length (some (n : Int)) - 0) = ds.take (n : Int).toNat
  rw [HT.sIx_nat, List.drop_zero, Nat.sub_zero, Int.toNat_natCast]
  by_cases h : n ≤ ds.length
  · rw [Nat.min_eq_left h]
  · rw [Nat.min_eq_right (by omega), List.take_length, List.take_of_length_le (by omega)]
theorem cut_drop {α : Type} (ds : List α) {i : Int} (h0 : 0 ≤ i) : cutD ds (some i) none = ds.drop i.toNat := by
  unfold cutD
  obtain ⟨n, rfl⟩ := Int.eq_ofNat_of_zero_le h0
  rw [HT.sIx_none, HT.sIx_nat, Int.toNat_natCast]
  by_cases h : n ≤ ds.length
  · rw [Nat.min_eq_left h, List.take_of_length_le (by simp)]
  · rw [Nat.min_eq_right (by omega), Nat.sub_self, List.take_zero, List.drop_eq_nil_of_le (by omega)]
def Dr (v : Int) : Prop := 0 ≤ v ∧ v < 65521
theorem digS_dr {s : List Int × Int} (h : ∀ v ∈ s.1, Dr v) : ∀ v ∈ (digS s).1, Dr v := by
  unfold digS
  split
  · intro v hv
    rcases List.mem_append.mp hv with e | e
    · exact h v e
    · rw [List.mem_singleton] at e
      subst e
      exact ⟨by omega, by omega⟩
  · exact h
theorem itN_dr {n : Nat} {s : List Int × Int} (h : ∀ v ∈ s.1, Dr v) : ∀ v ∈ (itN digS n s).1, Dr v := by
  induction n with
  | zero => exact h
  | succ n ih => exact digS_dr ih
theorem cellS_dr {s : List Int × Int} {c : Int} (h : ∀ v ∈ s.1, Dr v) : ∀ v ∈ (cellS s c).1, Dr v := by
  unfold cellS
  split
  · exact itN_dr (s := (s.1, absI c)) h
  · intro v hv
    rcases List.mem_append.mp hv with e | e
    · exact h v e
    · rw [List.mem_singleton] at e
      subst e
      exact ⟨by omega, by omega⟩
theorem cellsS_dr {ns : List Int} : ∀ i, i ≤ ns.length → ∀ v ∈ (cellsS ns i).1, Dr v
  | 0, _ => fun v hv => by simp [cellsS] at hv
  | i + 1, h => by
    rw [cellsS_succ (List.getElem?_eq_getElem (show i < ns.length by omega))]
    exact cellS_dr (cellsS_dr i (by omega))
theorem fillsS_dr (ns : List Int) (many : Int) : ∀ k, ∀ v ∈ (fillsS ns many k).1, Dr v
  | 0 => cellsS_dr ns.length (Nat.le_refl _)
  | k + 1 => by
    rw [fillsS_succ]
    unfold fillS
    split
    · intro v hv
      rcases List.mem_append.mp hv with e | e
      · exact fillsS_dr ns many k v e
      · rw [List.mem_singleton] at e
        subst e
        exact ⟨by omega, by omega⟩
    · exact fillsS_dr ns many k
theorem drawsF_len {ns : List Int} {many : Int} (h : 0 ≤ many) : (drawsF ns many).length = many.toNat := by
  unfold drawsF
  rw [cut_take _ h, List.length_take]
  have := fillsS_ge (cutD ns none (some 63)) many many.toNat (by omega)
  omega
theorem drawsF_dr {ns : List Int} {many : Int} (h : 0 ≤ many) : ∀ v ∈ drawsF ns many, Dr v := fun v hv => by
  unfold drawsF at hv
  rw [cut_take _ h] at hv
  exact fillsS_dr _ _ _ v (List.mem_of_mem_take hv)

/-! ### the laws' own words -/
def atD (ds : List Int) (k : Nat) : Int := ds.getD k 0
def primD (j : Nat) : Int := [1, 3, 7, 11, 19, 31, 53, 97].getD (j % 8) 1
def wordD (dr : List Int) (letters longest first : Int) (k : Nat) : List Int :=
  first :: (List.range (atD dr (3 * k + 1) % longest).toNat).map fun j => atD dr (3 * k + 2) / primD j % letters
theorem eraseIdx_map' {α β : Type} (f : α → β) : ∀ (l : List α) (n : Nat), (l.map f).eraseIdx n = (l.eraseIdx n).map f
  | [], n => by simp
  | a :: l, 0 => by simp
  | a :: l, n + 1 => by simp [eraseIdx_map' f l n]
theorem prim_cases (j : Nat) : j % 8 = 0 ∨ j % 8 = 1 ∨ j % 8 = 2 ∨ j % 8 = 3 ∨ j % 8 = 4 ∨ j % 8 = 5 ∨ j % 8 = 6 ∨ j % 8 = 7 := by omega
theorem prim_at (j : Nat) : atI ([.int 1, .int 3, .int 7, .int 11, .int 19, .int 31, .int 53, .int 97] : List PyData) ((j : Int) % 8) = some (.int (primD j)) := by
  have e : (j : Int) % 8 = ((j % 8 : Nat) : Int) := by omega
  rw [e]
  unfold primD
  rcases prim_cases j with h | h | h | h | h | h | h | h <;> rw [h] <;> rfl
theorem prim_div (j : Nat) {i : Int} : CDiv i (primD j) := by
  unfold primD CDiv
  rcases prim_cases j with h | h | h | h | h | h | h | h <;> rw [h] <;> decide
/-- the letters that are left, the words so far -/
def wordsS (dr : List Int) (letters longest : Int) (apart : Bool) : Nat → List Int × List (List Int)
  | 0 => ((List.range letters.toNat).map fun k : Nat => (k : Int), [])
  | k + 1 =>
    let s := wordsS dr letters longest apart k
    if apart then (s.1.eraseIdx (atD dr (3 * k) % (s.1.length : Int)).toNat, s.2 ++ [wordD dr letters longest (s.1.getD (atD dr (3 * k) % (s.1.length : Int)).toNat 0) k])
    else (s.1, s.2 ++ [wordD dr letters longest (atD dr (3 * k) % (if 1 > letters then 1 else letters)) k])
def wordsF (dr : List Int) (letters size longest : Int) (apart : Bool) : List (List Int) := (wordsS dr letters longest apart size.toNat).2
theorem wordsS_len (dr : List Int) (letters longest : Int) (apart : Bool) : ∀ k, (wordsS dr letters longest apart k).2.length = k
  | 0 => rfl
  | k + 1 => by
    have ih := wordsS_len dr letters longest apart k
    unfold wordsS
    cases apart <;> simp [ih]
theorem leftS_len (dr : List Int) (letters longest : Int) : ∀ k : Nat, (∀ i, 0 ≤ atD dr i) → (k : Int) ≤ letters → ((wordsS dr letters longest true k).1.length : Int) = letters - k
  | 0, _, h => by simp [wordsS]; omega
  | k + 1, hp, h => by
    have ih := leftS_len dr letters longest k hp (by omega)
    unfold wordsS
    simp only [if_true]
    have h1 := hp (3 * k)
    have h2 : 0 ≤ atD dr (3 * k) % ((wordsS dr letters longest true k).1.length : Int) := Int.emod_nonneg _ (by omega)
    have h3 : atD dr (3 * k) % ((wordsS dr letters longest true k).1.length : Int) < ((wordsS dr letters longest true k).1.length : Int) := Int.emod_lt_of_pos _ (by omega)
    rw [List.length_eraseIdx, if_pos (by omega)]
    omega
end Mini

namespace Mini
open PySem L2 Evl

theorem eqvI_iff : ∀ (a b : List Int), PyData.eqvAll (a.map .int) (b.map .int) = decide (a = b)
  | [], [] => by simp [PyData.eqvAll]
  | [], _ :: _ => by simp [PyData.eqvAll]
  | _ :: _, [] => by simp [PyData.eqvAll]
  | x :: xs, y :: ys => by
    rw [List.map_cons, List.map_cons, PyData.eqvAll, eqvI_iff xs ys, PyData.eqv]
    by_cases h : x = y
    · subst h; simp
    · have h' : ¬ (x :: xs = y :: ys) := fun e => h (List.cons.inj e).1
      rw [decide_eq_false h', beq_eq_false_iff_ne.mpr h, Bool.false_and]
theorem eqvW_iff : ∀ (a b : List (List Int)), PyData.eqvAll (wD a) (wD b) = decide (a = b)
  | [], [] => by simp [PyData.eqvAll, wD]
  | [], _ :: _ => by simp [PyData.eqvAll, wD]
  | _ :: _, [] => by simp [PyData.eqvAll, wD]
  | x :: xs, y :: ys => by
    have ih := eqvW_iff xs ys
    unfold wD at ih ⊢
    rw [List.map_cons, List.map_cons, PyData.eqvAll, ih, PyData.eqv, eqvI_iff]
    by_cases h : x = y
    · subst h; simp
    · have h' : ¬ (x :: xs = y :: ys) := fun e => h (List.cons.inj e).1
      rw [decide_eq_false h', decide_eq_false h, Bool.false_and]
theorem eqv_wD (a b : List (List Int)) : PyData.eqv (.list (wD a)) (.list (wD b)) = decide (a = b) := by rw [PyData.eqv, eqvW_iff]
theorem eqv_ints (a b : List Int) : PyData.eqv (.list (a.map .int)) (.list (b.map .int)) = decide (a = b) := by rw [PyData.eqv, eqvI_iff]
theorem eqv_tints (a b : List Int) : PyData.eqv (.tuple (a.map .int)) (.tuple (b.map .int)) = decide (a = b) := by rw [PyData.eqv, eqvI_iff]
theorem canI : ∀ a : List Int, PyData.canLayAll0 (a.map .int) = true
  | [] => by simp [PyData.canLayAll0]
  | x :: xs => by simp [PyData.canLayAll0, PyData.canLay0, canI xs]
theorem depI : ∀ a : List Int, PyData.depthAll (a.map .int) = 0
  | [] => by simp [PyData.depthAll]
  | x :: xs => by simp [PyData.depthAll, PyData.depth, depI xs]
theorem canW : ∀ a : List (List Int), PyData.canLayAll0 (wD a) = true
  | [] => by simp [PyData.canLayAll0, wD]
  | x :: xs => by
    have ih := canW xs
    unfold wD at ih ⊢
    simp [PyData.canLayAll0, PyData.canLay0, ih, canI]
theorem depW : ∀ a : List (List Int), PyData.depthAll (wD a) ≤ 1
  | [] => by simp [PyData.depthAll, wD]
  | x :: xs => by
    have ih := depW xs
    unfold wD at ih ⊢
    simp [PyData.depthAll, PyData.depth, depI, ih]
theorem shaped_wD (a : List (List Int)) : SeqAt.shaped (.list (wD a)) = true := by
  unfold SeqAt.shaped
  have h := depW a
  rw [Bool.and_eq_true]
  refine ⟨by rw [PyData.canLay0]; exact canW a, decide_eq_true ?_⟩
  rw [PyData.depth]
  omega
theorem shaped_ints (a : List Int) : SeqAt.shaped (.list (a.map .int)) = true := by
  unfold SeqAt.shaped
  rw [Bool.and_eq_true]
  refine ⟨by rw [PyData.canLay0]; exact canI a, decide_eq_true ?_⟩
  rw [PyData.depth, depI]
  omega
theorem shaped_tints (a : List Int) : SeqAt.shaped (.tuple (a.map .int)) = true := by
  unfold SeqAt.shaped
  rw [Bool.and_eq_true]
  refine ⟨by rw [PyData.canLay0]; exact canI a, decide_eq_true ?_⟩
  rw [PyData.depth, depI]
  omega
/-- words of a book over m letters -/
def GoodW (W : List (List Int)) (m : Int) : Prop := W.length ≤ 60 ∧ ∀ w ∈ W, 1 ≤ w.length ∧ w.length ≤ 5000 ∧ ∀ v ∈ w, 0 ≤ v ∧ v < m
theorem word_iff (w : List Int) (m : Int) : isWordB (.tuple (w.map .int)) m = true ↔ 1 ≤ w.length ∧ w.length ≤ 5000 ∧ ∀ v ∈ w, 0 ≤ v ∧ v < m := by
  have e : (isWordB (.tuple (w.map .int)) m) = ((w.map PyData.int).all (fun e => belowB e m) && (decide (1 ≤ ((w.map PyData.int).length : Int)) && decide (((w.map PyData.int).length : Int) ≤ 5000))) := rfl
  rw [e]
  simp only [Bool.and_eq_true, List.all_eq_true, List.length_map, decide_eq_true_eq, List.mem_map, forall_exists_index, and_imp, forall_apply_eq_imp_iff₂]
  constructor
  · rintro ⟨h1, h2, h3⟩
    refine ⟨by omega, by omega, fun v hv => ?_⟩
    have := h1 v hv
    simpa [belowB] using this
  · rintro ⟨h1, h2, h3⟩
    refine ⟨fun v hv => ?_, by omega, by omega⟩
    simpa [belowB] using h3 v hv
theorem areWords_iff (W : List (List Int)) (m : Int) : areWordsB (.list (wD W)) m = true ↔ GoodW W m := by
  have e : areWordsB (.list (wD W)) m = (decide ((wD W).length ≤ 60) && (wD W).all fun e => isWordB e m) := rfl
  rw [e]
  unfold wD GoodW
  simp only [Bool.and_eq_true, List.all_eq_true, List.length_map, decide_eq_true_eq, List.mem_map, forall_exists_index, and_imp, forall_apply_eq_imp_iff₂, word_iff]
theorem fits_wD {W : List (List Int)} (h1 : W.length < 10000000) (h2 : ∀ w ∈ W, w.length < 10000000) : Fits (.list (wD W)) := by
  refine ⟨by unfold wD; rw [List.length_map]; exact h1, fun e he => ?_⟩
  unfold wD at he
  obtain ⟨w, hw, rfl⟩ := List.mem_map.mp he
  show (w.map PyData.int).length < 10000000
  rw [List.length_map]
  exact h2 w hw
theorem GoodW.fits {W : List (List Int)} {m : Int} (h : GoodW W m) : Fits (.list (wD W)) := fits_wD (by have := h.1; omega) fun w hw => by have := (h.2 w hw).2.1; omega
theorem belowB_int (i n : Int) : belowB (.int i) n = true ↔ 0 ≤ i ∧ i < n := by simp [belowB]
/-- the drawn words are words -/
theorem wordD_ok {dr : List Int} {letters longest first : Int} {k : Nat} (hl : 1 ≤ letters) (hg : 1 ≤ longest) (hf : 0 ≤ first ∧ first < letters) : 1 ≤ (wordD dr letters longest first k).length ∧ (wordD dr letters longest first k).length ≤ longest ∧ ∀ v ∈ wordD dr letters longest first k, 0 ≤ v ∧ v < letters := by
  unfold wordD
  have h1 : 0 ≤ atD dr (3 * k + 1) % longest := Int.emod_nonneg _ (by omega)
  have h2 : atD dr (3 * k + 1) % longest < longest := Int.emod_lt_of_pos _ (by omega)
  refine ⟨by simp, by rw [List.length_cons, List.length_map, List.length_range]; omega, fun v hv => ?_⟩
  rcases List.mem_cons.mp hv with e | e
  · rw [e]; exact hf
  · obtain ⟨j, _, rfl⟩ := List.mem_map.mp e
    exact ⟨Int.emod_nonneg _ (by omega), Int.emod_lt_of_pos _ (by omega)⟩
theorem leftS_mem {dr : List Int} {letters longest : Int} {apart : Bool} (hl : 0 ≤ letters) : ∀ k v, v ∈ (wordsS dr letters longest apart k).1 → 0 ≤ v ∧ v < letters
  | 0, v, h => by
    obtain ⟨j, hj, rfl⟩ := List.mem_map.mp (show v ∈ (List.range letters.toNat).map fun k : Nat => (k : Int) from h)
    have := List.mem_range.mp hj
    exact ⟨by omega, by omega⟩
  | k + 1, v, h => by
    unfold wordsS at h
    cases apart with
    | true => exact leftS_mem hl k v (List.mem_of_mem_eraseIdx h)
    | false => exact leftS_mem hl k v h
theorem wordsS_ok {dr : List Int} {letters longest : Int} {apart : Bool} (hl : 1 ≤ letters) (hg : 1 ≤ longest) (hp : ∀ i, 0 ≤ atD dr i) : ∀ k : Nat, (apart = true → (k : Int) ≤ letters) → ∀ w ∈ (wordsS dr letters longest apart k).2, 1 ≤ w.length ∧ w.length ≤ longest ∧ ∀ v ∈ w, 0 ≤ v ∧ v < letters
  | 0, _ => fun w h => by simp [wordsS] at h
  | k + 1, ha => fun w h => by
    have ih := wordsS_ok (dr := dr) (letters := letters) (longest := longest) (apart := apart) hl hg hp k (fun e => by have := ha e; omega)
    have hlen := leftS_len dr letters longest k hp
    unfold wordsS at h
    cases apart with
    | true =>
      simp only [if_true] at h
      rcases List.mem_append.mp h with e | e
      · exact ih w e
      · rw [List.mem_singleton] at e
        rw [e]
        have hk : (k : Int) + 1 ≤ letters := ha rfl
        have hlen' := hlen (by omega)
        refine wordD_ok hl hg ?_
        have i0 : 0 ≤ atD dr (3 * k) % ((wordsS dr letters longest true k).1.length : Int) := Int.emod_nonneg _ (by omega)
        have i1 : atD dr (3 * k) % ((wordsS dr letters longest true k).1.length : Int) < ((wordsS dr letters longest true k).1.length : Int) := Int.emod_lt_of_pos _ (by omega)
        have i2 : (atD dr (3 * k) % ((wordsS dr letters longest true k).1.length : Int)).toNat < (wordsS dr letters longest true k).1.length := by omega
        have e3 : (wordsS dr letters longest true k).1.getD (atD dr (3 * k) % ((wordsS dr letters longest true k).1.length : Int)).toNat 0 = (wordsS dr letters longest true k).1[(atD dr (3 * k) % ((wordsS dr letters longest true k).1.length : Int)).toNat] := by
          rw [List.getD_eq_getElem?_getD, List.getElem?_eq_getElem i2]; rfl
        rw [e3]
        exact leftS_mem (by omega) k _ (List.getElem_mem i2)
    | false =>
      have h : w ∈ (wordsS dr letters longest false k).2 ++ [wordD dr letters longest (atD dr (3 * k) % (if 1 > letters then 1 else letters)) k] := h
      rcases List.mem_append.mp h with e | e
      · exact ih w e
      · rw [List.mem_singleton] at e
        rw [e]
        have q : (if 1 > letters then 1 else letters) = letters := if_neg (by omega)
        rw [q]
        exact wordD_ok hl hg ⟨Int.emod_nonneg _ (by omega), Int.emod_lt_of_pos _ (by omega)⟩
theorem wordsF_len {dr : List Int} {letters size longest : Int} {apart : Bool} : (wordsF dr letters size longest apart).length = size.toNat := wordsS_len _ _ _ _ _
theorem atD_dr {ds : List Int} (h : ∀ v ∈ ds, Dr v) (k : Nat) : Dr (atD ds k) := by
  unfold atD
  rw [List.getD_eq_getElem?_getD]
  cases e : ds[k]? with
  | none => exact ⟨Int.le_refl 0, by decide⟩
  | some v => exact h v (List.mem_of_getElem? e)
theorem atI_ints {ds : List Int} {k : Nat} (h : k < ds.length) : atI (ds.map PyData.int) (k : Int) = some (.int (atD ds k)) := by
  have e : (ds.map PyData.int)[k]? = some (.int (atD ds k)) := by
    rw [List.getElem?_map, List.getElem?_eq_getElem h]
    unfold atD
    rw [List.getD_eq_getElem?_getD, List.getElem?_eq_getElem h]
    rfl
  exact atI_nat e
/-- ds[:-1] -/
theorem cut_init {α : Type} (ds : List α) (x : α) : cutD (ds ++ [x]) none (some (-1)) = ds := by
  unfold cutD
  have e : HT.sIx (ds ++ [x]).length (ds ++ [x]).length (some (-1)) = ds.length := by
    show (if (-1 : Int) < 0 then ((-1 : Int) + ((ds ++ [x]).length : Int)).toNat else min (-1 : Int).toNat (ds ++ [x]).length) = _
    rw [if_pos (by decide), List.length_append, List.length_singleton]
    omega
  rw [e, HT.sIx_none, List.drop_zero, Nat.sub_zero, List.take_append_of_le_length (Nat.le_refl _), List.take_length]
theorem rep_one {α : Type} (x : α) : ∀ n : Nat, (List.replicate n [x]).flatten = List.replicate n x
  | 0 => rfl
  | n + 1 => by rw [List.replicate_succ, List.flatten_cons, rep_one x n]; rfl
theorem range_getD (ds : List PyData) : ((List.range ds.length).map fun i => ds.getD i .none) = ds := by
  apply List.ext_getElem
  · simp
  · intro i h1 h2
    rw [List.getElem_map, List.getElem_range, List.getD_eq_getElem?_getD, List.getElem?_eq_getElem h2]
    rfl
section
variable {K : PySem.W.Frag} {G : Gm} {ta tb : TE} {x y : Str}
theorem sv_neS (ha : Sv ta G (isD (.str x))) (hb : Sv tb G (isD (.str y))) (h1 : PyData.strOk x = true) (h2 : PyData.strOk y = true) : Sv (tOp (rNeD K) ta tb) G (isD (.bool (!(x == y)))) := by
  have s : ∀ z, PyData.strOk z = true → SeqAt.shaped (.str z) = true := fun z h => by
    unfold SeqAt.shaped
    rw [Bool.and_eq_true]
    exact ⟨by rw [PyData.canLay0]; exact h, by rw [PyData.depth]; rfl⟩
  refine sv_is (sv_ne ha hb (s x h1) (s y h2)) ?_
  rw [PyData.eqv]
/-- draws[k] -/
theorem sv_dr {D : List Int} {n : Nat} {k : Nat} (h : G[n]? = some (.im (isD (.list (D.map .int))))) (hk : k < D.length) : Sv (tCB cInt (tCons (tOp (rIx K) (tVar n) (tC (.int (k : Int)))) tNil)) G (isD (.int (atD D k))) :=
  sv_int1 (sv_ixL (rl_sv (sv_var h)) sv_int (atI_ints hk))
end
end Mini
namespace Mini
open PySem L2 Evl
theorem neI (a : List Int) : (!PyData.eqv (.list (a.map .int)) (.list (a.map .int))) = false := by rw [eqv_ints]; simp
theorem neW (a : List (List Int)) : (!PyData.eqv (.list (wD a)) (.list (wD a))) = false := by rw [eqv_wD]; simp
theorem areW_bad {X : List PyData} {e : PyData} {n : Int} (h : isWordB e n = false) : areWordsB (.list (X ++ [e])) n = false := by
  show (decide ((X ++ [e]).length ≤ 60) && (X ++ [e]).all fun e => isWordB e n) = false
  rw [List.all_append]
  simp [h]
theorem fits_add {X : List PyData} {e : PyData} (h : Fits (.list X)) (hn : X.length < 9999999) (he : Fit e) : Fits (.list (X ++ [e])) := by
  refine ⟨by rw [List.length_append, List.length_singleton]; omega, fun x hx => ?_⟩
  rcases List.mem_append.mp hx with q | q
  · exact h.2 x q
  · rw [List.mem_singleton] at q; rw [q]; exact he
theorem wD_take (W : List (List Int)) (n : Nat) : (wD W).take n = wD (W.take n) := by unfold wD; rw [List.map_take]
theorem wD_get {W : List (List Int)} {j : Nat} (h : j < W.length) : (wD W)[j]? = some (.tuple ((W.getD j []).map .int)) := by
  unfold wD
  rw [List.getElem?_map, List.getElem?_eq_getElem h, List.getD_eq_getElem?_getD, List.getElem?_eq_getElem h]
  rfl
theorem wD_set (W : List (List Int)) (j : Nat) (w : List Int) : (wD W).set j (.tuple (w.map .int)) = wD (W.set j w) := by unfold wD; rw [List.map_set]
theorem set_ne {W : List (List Int)} {j : Nat} (h : j < W.length) (v : Int) : W ≠ W.set j (W.getD j [] ++ [v]) := fun e => by
  have h1 : (W.set j (W.getD j [] ++ [v]))[j]? = some (W.getD j [] ++ [v]) := List.getElem?_set_self h
  rw [← e, List.getElem?_eq_getElem h, List.getD_eq_getElem?_getD, List.getElem?_eq_getElem h] at h1
  have h2 := congrArg List.length (Option.some.inj h1)
  simp at h2
theorem GoodW.set {W : List (List Int)} {m : Int} {j : Nat} (h : GoodW W m) (hj : j < W.length) (hm : 0 < m) (hl : (W.getD j []).length + 1 ≤ 5000) : GoodW (W.set j (W.getD j [] ++ [0])) m := by
  refine ⟨by rw [List.length_set]; exact h.1, fun w hw => ?_⟩
  rcases List.mem_or_eq_of_mem_set hw with q | q
  · exact h.2 w q
  · rw [q, List.length_append, List.length_singleton]
    have hmem : W.getD j [] ∈ W := by rw [List.getD_eq_getElem?_getD, List.getElem?_eq_getElem hj]; exact List.getElem_mem hj
    refine ⟨by omega, by omega, fun v hv => ?_⟩
    rcases List.mem_append.mp hv with q | q
    · exact (h.2 _ hmem).2.2 v q
    · rw [List.mem_singleton] at q; rw [q]; exact ⟨Int.le_refl 0, hm⟩
theorem GoodW.more {W : List (List Int)} {m : Int} (h : GoodW W m) : GoodW W (m + 1) := ⟨h.1, fun w hw => ⟨(h.2 w hw).1, (h.2 w hw).2.1, fun v hv => by have := (h.2 w hw).2.2 v hv; omega⟩⟩
theorem ixN_of {n j : Nat} {i : Int} (h : i = (j : Int)) (hj : j < n) : ixN n i = some j := by rw [h]; exact ixN_nat hj
end Mini

namespace Mini
open PySem L2 Evl PyProof.Rows

/-! ### sets of ints: what they are for is their length -/
/-- the different ones, in their first order -/
def dl (ns : List Int) : List Int := ns.foldl (fun acc x => if acc.any (fun y => y == x) = true then acc else acc ++ [x]) []
theorem dl_snoc (ns : List Int) (x : Int) : dl (ns ++ [x]) = if (dl ns).any (fun y => y == x) = true then dl ns else dl ns ++ [x] := by
  unfold dl; rw [List.foldl_append]; rfl
theorem dl_le : ∀ (ns : List Int), (dl ns).length ≤ ns.length := fun ns => by
  suffices h : ∀ (l acc : List Int), (l.foldl (fun acc x => if acc.any (fun y => y == x) = true then acc else acc ++ [x]) acc).length ≤ acc.length + l.length by
    have := h ns []; simp only [List.length_nil, Nat.zero_add] at this; exact this
  intro l
  induction l with
  | nil => intro acc; simp
  | cons a l ih =>
    intro acc
    rw [List.foldl_cons]
    split
    · have := ih acc; rw [List.length_cons]; omega
    · have := ih (acc ++ [a]); rw [List.length_append, List.length_singleton] at this; rw [List.length_cons]; omega
theorem firstMet_dl (ns : List Int) : firstMet (fun i => ns.getD i 0) ns.length = dl ns := by
  have e : (List.range ns.length).map (fun i => ns.getD i 0) = ns := by
    apply List.ext_getElem
    · simp
    · intro i h1 h2; simp [List.getD_eq_getElem?_getD, List.getElem?_eq_getElem h2]
  unfold firstMet
  rw [e]
  rfl
theorem addI_ok {X : Cx} {pins : List (Addr × Obj)} {σ : L2.St} {H : Hp} {s : Shared} {E : Value → Shared → Prop} {D : Addr} {S : Int → Bool} {n : Nat} {y : Int} {tk : Tok} {Q : Value → Shared → Prop} (I : L2.Inv X pins σ H s) (hD : H D = some (SetO X.w D S n)) (hz : n + 1 < scanBound)
    (k : ∀ s', L2.Inv X pins σ (upd H D (SetO X.w D (fun j => S j || decide (j = y)) (if S y = true then n else n + 1))) s' → Q .none s') : wpAny (model X.prog X.w) X.A (call (.builtin "set.add") [.ref D, .int y tk]) Q E s := by
  refine setR_add (setO_get I hD) hz fun h' sb hR => k _ ?_
  have ho : ∃ u, h'.get? D = some u := by
    obtain ⟨o, _, _, _, ho, _⟩ := hR
    exact ⟨o, ho⟩
  exact I.write (by rw [hD]; exact trivial) (.inl rfl) (fun b u ne e => (sb.2 b ne).trans e) ho (setO_new hR)

def tScI (w : World) (wi : TI) (g : TG) (tt : TT) (te : TE) (vs : List Nat) : TE := fun σ H Q => wi σ H fun J H1 => ∀ D, H1 D = none → ∃ W : Nat → Nat → Hp → Prop,
  (∃ m, W 0 m (upd H1 D (SetO w D (fun _ => false) 0))) ∧ ∀ i m H, W i m H → (J.stop i H ∧ Q (.ref D) H) ∨ (J.go i H ∧ ∃ Nx : Hp → Prop, (∀ H', Nx H' → ∃ m', m' < m ∧ W (i + 1) m' H') ∧ ∀ x H', J.yld i H x H' →
    g x (L2.wipe σ vs) H' fun σ2 H2 => L2.wipe σ2 vs = L2.wipe σ vs ∧ tt σ2 H2 fun b H3 => if b = true then te σ2 H3 fun y H4 => ∃ (c : Int) (S : Int → Bool) (n : Nat), y = .int c ∧ H4 D = some (SetO w D S n) ∧ n + 1 < scanBound ∧
      Nx (upd H4 D (SetO w D (fun j => S j || decide (j = c)) (if S c = true then n else n + 1))) else Nx H3)

theorem pe_scI {X : Cx} {elt tg iter : Expr} {ifs : List Expr} {scope : Scope} {own : List (Str × Nat)} {pos : Pos} {wi : TI} {g : TG} {tt : TT} {te : TE} (hc : X.calm = true) (hN : X.N.Nodup) (hi : PI X tg iter wi) (ok : BlkOk X.N X.env.scope scope own)
    (hg : ∀ (s : Shared) (H : Hp) (C : Addr) (cl : List (Str × Addr)) (fp : List Addr), PG (X.blk s H scope (compEnvC scope cl C X.env) fp) tg g)
    (ht : ∀ (s : Shared) (H : Hp) (C : Addr) (cl : List (Str × Addr)) (fp : List Addr), PTs (X.blk s H scope (compEnvC scope cl C X.env) fp) ifs tt)
    (he : ∀ (s : Shared) (H : Hp) (C : Addr) (cl : List (Str × Addr)) (fp : List Addr), PE (X.blk s H scope (compEnvC scope cl C X.env) fp) elt te)
    (hs : ∀ x, foldedSetIterable iter X.env x = pure x := by exact fun _ => rfl) : PE X (.SetComp elt [⟨tg, iter, ifs, 0⟩] scope pos) (tScI X.w wi g tt te (own.map (·.2))) := by
  refine ⟨fun pins s σ H Q I h => ?_⟩
  rw [PpSet.eval_SetComp]
  have hfree : ∀ y ∈ scope.names, y.2 = .free → ∃ c, X.env.cells.lookup y.1 = some c := fun y hy e => by
    rcases ok.free y hy e with k | k
    · exact I.ok.has y.1 (.inl k)
    · exact I.ok.has y.1 (.inr k)
  refine wpAny_comprehension_free rfl hs (closure_ok hfree) ok.kind (fun y hy e => by rw [ok.uniq y hy, e]) ?_
  refine thn (hi.run pins s σ H _ I h) fun xv s1 hx => thn hx fun itv s2 h2 => ?_
  obtain ⟨it, fp, tn, J, H2, rfl, I2, T, st2, f2, q⟩ := h2
  refine PpSet.newSet_ok (newEnv_comp ?_)
  have hDn : H2 s2.heap.objs.size = none := I2.hok.fresh (Nat.le_refl _)
  obtain ⟨W, ⟨m0, w0⟩, turn⟩ := q _ hDn
  have I3 := I2.laid (t' := s2.toks) (h' := s2.heap.push { cls := Value.type "set", data := Data.set #[] 0 (SetTable.fresh 0 0 !X.w.params.followText "set-order") }) (fun b o e => Heap.get?_push_of_some _ e) (Nat.le_refl _) (setO_new (P := X.prog) (H := upd H2 s2.heap.objs.size (SetO X.w s2.heap.objs.size (fun _ => false) 0)) (setR_fresh X.w))
  have sz : ∀ b ∈ fp, b < s2.heap.objs.size := fun b hb => by
    obtain ⟨o, e, _⟩ := T.obj 0 s2.heap st2 b hb
    exact Heap.lt_size e
  generalize hh3 : s2.heap.push { cls := Value.type "set", data := Data.set #[] 0 (SetTable.fresh 0 0 !X.w.params.followText "set-order") } = h3 at I3 ⊢
  have hk3 : ∀ b o, s2.heap.get? b = some o → h3.get? b = some o := fun b o e => by rw [← hh3]; exact Heap.get?_push_of_some _ e
  have hsz : h3.objs.size = s2.heap.objs.size + 1 := by rw [← hh3]; exact Heap.size_push _ _
  have f3 : ∀ b ∈ fp, FpOk X pins (upd H2 s2.heap.objs.size (SetO X.w s2.heap.objs.size (fun _ => false) 0)) b ∧ b < h3.objs.size := fun b hb => by
    have hlt := sz b hb
    obtain ⟨z1, z2⟩ := f2 b hb
    exact ⟨⟨by rw [upd_ne (Nat.ne_of_lt hlt)]; exact z1, z2⟩, by rw [hsz]; exact Nat.lt_succ_of_lt hlt⟩
  have st3 := T.keep 0 s2.heap h3 st2 fun b _ o e => hk3 b o e
  have I4 := block_start I3 ok hN f3
  have nfp : ∀ b ∈ fp, upd H2 s2.heap.objs.size (SetO X.w s2.heap.objs.size (fun _ => false) 0) b = none := fun b hb => (f3 b hb).1.1
  generalize upd H2 s2.heap.objs.size (SetO X.w s2.heap.objs.size (fun _ => false) 0) = H3 at I3 f3 I4 nfp w0
  generalize s2.heap.objs.size = D at turn ⊢
  have pg := hg ⟨h3, s2.gens, s2.drawn, s2.toks, s2.os⟩ H3 h3.objs.size (cellsFrom (h3.objs.size + 1) scope.names (cloFrom X.env.cells scope.names [])) fp
  have pt := ht ⟨h3, s2.gens, s2.drawn, s2.toks, s2.os⟩ H3 h3.objs.size (cellsFrom (h3.objs.size + 1) scope.names (cloFrom X.env.cells scope.names [])) fp
  have pe := he ⟨h3, s2.gens, s2.drawn, s2.toks, s2.os⟩ H3 h3.objs.size (cellsFrom (h3.objs.size + 1) scope.names (cloFrom X.env.cells scope.names [])) fp
  have st4 : tn 0 (pushCells (h3.push { cls := Value.type "dict", data := Data.dict #[] }) scope.names) := T.keep 0 h3 _ st3 fun b _ o e => pushCells_keeps _ _ _ _ (Heap.get?_push_of_some _ e)
  refine (fun loop => PpSet.codeAny_compStart_set loop (T.self X.A 0 _ _ _ st4 loop)) ?_
  refine PpSet.compLoopS_any (fun n s' => ∃ i H', L2.Inv (X.blk ⟨h3, s2.gens, s2.drawn, s2.toks, s2.os⟩ H3 scope (compEnvC scope (cellsFrom (h3.objs.size + 1) scope.names (cloFrom X.env.cells scope.names [])) h3.objs.size X.env) fp) [] (L2.wipe σ (own.map (·.2))) H' s' ∧ tn i s'.heap ∧ (∀ b ∈ fp, H' b = none) ∧ W i n H') (fun n s5 a => ?_) m0 ⟨0, H3, I4, st4, nfp, w0⟩
  obtain ⟨i, H5, I5, st5, n5, w5⟩ := a
  have stat : ∀ {σ' : L2.St} {H' : Hp} {s' : Shared}, L2.Inv (X.blk ⟨h3, s2.gens, s2.drawn, s2.toks, s2.os⟩ H3 scope (compEnvC scope (cellsFrom (h3.objs.size + 1) scope.names (cloFrom X.env.cells scope.names [])) h3.objs.size X.env) fp) [] σ' H' s' → (∀ b ∈ fp, H' b = none) → ∀ b ∈ fp, FpOk (X.blk ⟨h3, s2.gens, s2.drawn, s2.toks, s2.os⟩ H3 scope (compEnvC scope (cellsFrom (h3.objs.size + 1) scope.names (cloFrom X.env.cells scope.names [])) h3.objs.size X.env) fp) [] H' b := fun I' hn b hb =>
    ⟨hn b hb, (I'.ok.exf b hb).1, I'.ok.exfs b hb, .inl hb, fun x c e => (I'.ok.exf b hb).2 x c e, fun p hp => absurd (show p ∈ ([] : List (Addr × Obj)) ++ [] from hp) (by simp)⟩
  rcases turn i n H5 w5 with ⟨stop, qq⟩ | ⟨go, Nx, hNx, step⟩
  · refine thnF (T.done (X.blk ⟨h3, s2.gens, s2.drawn, s2.toks, s2.os⟩ H3 scope (compEnvC scope (cellsFrom (h3.objs.size + 1) scope.names (cloFrom X.env.cells scope.names [])) h3.objs.size X.env) fp) rfl rfl rfl hc i [] s5 _ H5 _ I5 (stat I5 n5) st5 stop) fun r s6 hr => ?_
    obtain ⟨rfl, I6⟩ := hr
    have I7 := Inv.call' I3 I6.os I6.base I6.hok I6.bare fun b hb => ⟨(f3 b hb).1.2.2.2.1, (f3 b hb).1.2.1, (f3 b hb).1.2.2.2.2.1, (f3 b hb).1.2.2.2.2.2⟩
    obtain ⟨m, hn, _⟩ := I6.loc
    have f := Inv.fpOk I3 (Nat.le_refl h3.objs.size) (show H5 h3.objs.size = none from I6.free)
    refine ⟨m, hn, fun h'' sb => ⟨.ref D, H5, Inv.turned I7 (fun b o hb e => (sb.2 b hb).trans e) f.1 f.2.1 f.2.2.2.1 f.2.2.2.2.1 f.2.2.2.2.2, rfl, qq⟩⟩
  · refine thnF (T.item (X.blk ⟨h3, s2.gens, s2.drawn, s2.toks, s2.os⟩ H3 scope (compEnvC scope (cellsFrom (h3.objs.size + 1) scope.names (cloFrom X.env.cells scope.names [])) h3.objs.size X.env) fp) rfl rfl rfl hc i [] s5 _ H5 _ I5 (stat I5 n5) st5 go) fun r s6 hr => ?_
    obtain ⟨u, rfl, h6⟩ := hr
    refine thnF h6 fun _ s7 h7 => ?_
    obtain ⟨x, H7, I7, r7, y7, st7, n7⟩ := h7
    have I7' := Inv.pinned I7 (stat I7 n7) (T.obj (i + 1) s7.heap st7)
    refine thnF (pg.run ([] ++ pinsAt fp s7.heap) s7 _ H7 x u _ I7' r7 (step x H7 y7)) fun _ s8 h8 => ?_
    obtain ⟨σ8, H8, I8, hw8, q8⟩ := h8
    refine thnF (pt.run ([] ++ pinsAt fp s7.heap) s8 σ8 H8 _ I8 q8) fun b s9 h9 => ?_
    obtain ⟨H9, I9, q9⟩ := h9
    have fin : ∀ {s' : Shared} {H' : Hp}, L2.Inv (X.blk ⟨h3, s2.gens, s2.drawn, s2.toks, s2.os⟩ H3 scope (compEnvC scope (cellsFrom (h3.objs.size + 1) scope.names (cloFrom X.env.cells scope.names [])) h3.objs.size X.env) fp) ([] ++ pinsAt fp s7.heap) σ8 H' s' → Nx H' → ∃ m', m' < n ∧ ∃ i H', L2.Inv (X.blk ⟨h3, s2.gens, s2.drawn, s2.toks, s2.os⟩ H3 scope (compEnvC scope (cellsFrom (h3.objs.size + 1) scope.names (cloFrom X.env.cells scope.names [])) h3.objs.size X.env) fp) [] (L2.wipe σ (own.map (·.2))) H' s' ∧ tn i s'.heap ∧ (∀ b ∈ fp, H' b = none) ∧ W i m' H' := fun {s' H'} I' nx => by
      obtain ⟨m', hm, w'⟩ := hNx H' nx
      have pin' : ∀ b ∈ fp, ∀ o, s7.heap.get? b = some o → s'.heap.get? b = some o ∧ H' b = none := fun b hb o e => by
        have z := I'.pin (b, o) (List.mem_append_right _ (List.mem_append_right _ (mem_pinsAt hb e)))
        exact ⟨z.1, z.2.1⟩
      refine ⟨m', hm, i + 1, H', Inv.weak (Inv.unpinned I') (by rw [← hw8]; exact wipe_length _ _) (fun j v e => (wipe_some (by rw [← hw8] at e; exact e)).1), T.keep (i + 1) s7.heap s'.heap st7 fun b hb o e => (pin' b hb o e).1, fun b hb => ?_, w'⟩
      obtain ⟨o, e, _⟩ := T.obj (i + 1) s7.heap st7 b hb
      exact (pin' b hb o e).2
    cases b with
    | false =>
      rw [if_neg Bool.false_ne_true] at q9 ⊢
      exact fin I9 q9
    | true =>
      rw [if_pos rfl] at q9 ⊢
      refine thnF (pe.run ([] ++ pinsAt fp s7.heap) s9 σ8 H9 _ I9 q9) fun v s10 h10 => ?_
      obtain ⟨y, H10, I10, r10, c, S, k, rfl, hD10, hz10, nx⟩ := h10
      obtain ⟨tk, rfl⟩ := r10
      exact addI_ok (X := X.blk ⟨h3, s2.gens, s2.drawn, s2.toks, s2.os⟩ H3 scope (compEnvC scope (cellsFrom (h3.objs.size + 1) scope.names (cloFrom X.env.cells scope.names [])) h3.objs.size X.env) fp) I10 hD10 hz10 fun s11 I11 => fin I11 nx

/-- len of a set of ints -/
def rLenSO (w : World) : List V → Hp → VK → Prop := fun xs H Q => ∃ a S n, xs = [.ref a] ∧ H a = some (SetO w a S n) ∧ Q (.int (n : Nat)) H
theorem call_lenSO {X : Cx} : CallR X (.builtin "len") (rLenSO X.w) := fun pins s σ H xs us Q I r h => by
  obtain ⟨a, S, n, rfl, hD, q⟩ := h
  cases r with
  | cons r1 r2 =>
    cases r2
    cases (show _ = Value.ref a from r1)
    obtain ⟨o, es, ep, t, ho, hx, hd, _, _, _, hb, hf, hn, _⟩ := setO_get I hD
    refine call_len_set ho hx hd hf (by have : scanBound = 4096 := rfl; omega) ?_
    exact ⟨.int (n : Nat), H, I.tok _, ⟨_, by rw [← hn]⟩, q⟩
/-- len(set(xs)) -/
def tLenSetG (K : PySem.W.Frag) (ta : TE) : TE := fun σ H Q => ta σ H fun x H1 => ∃ (l : Addr) (ns : List Int), x = .ref l ∧ SqL K H1 l (ns.map V.int) ∧ ns.length < 4000 ∧ Q (.int (dl ns).length) H1
theorem pe_lenSetG {X : Cx} {a : Expr} {ta : TE} {p p2 q pos : Pos} (hm : X.mg "len" = none) (hm2 : X.mg "set" = none) (ha : PE X a ta) (hc : X.calm = true) (hg : Gl X "len" := by rfl) (hg2 : Gl X "set" := by rfl) (hst : starEach [a] X.env = (false, eval a X.env) :: starEach [] X.env := by rfl) :
    PE X (.Call (.Name "len" p) [.Call (.Name "set" p2) [a] [] q] [] pos) (tLenSetG X.K ta) := by
  refine ⟨fun pins s σ H Q I h => ?_⟩
  refine Call_ (ld_blt I hg hm boot_len (callWith_builtin1 (args_cons (Call_ (ld_blt I hg2 hm2 boot_set (callWith_type1 (args_cons (thn (ha.run pins s σ H _ I h) fun v s1 hh => args_nil ?_) hst) hst))))))
  obtain ⟨x, H1, I1, r1, l, ns, rfl, hq, hl, q1⟩ := hh
  obtain rfl : v = Value.ref l := r1
  obtain ⟨its, r, pl, _⟩ := I1.list hq
  have hlen : its.toArray.size = ns.length := by rw [List.size_toArray, ← r.length, List.length_map]
  refine call_set_list (I1.ok.hd hc) pl.isList (RZ.intsAre_vals r) (by rw [hlen]; have : scanBound = 4096 := rfl; omega) fun h' tk hS hk => args_nil ?_
  rw [hlen, firstMet_dl] at hS
  obtain ⟨o, es, ep, t, ho, hx, hd, _, _, hb, hf, hn⟩ := hS
  refine call_len_set ho hx hd hf (by have : scanBound = 4096 := rfl; omega) ?_
  refine ⟨.int (dl ns).length, H1, I1.kept fun b u e => hk b u (Heap.lt_size e) e, ⟨_, by rw [← hn]⟩, q1⟩

theorem scI_list {w : World} {K : PySem.W.Frag} {a : Addr} {xs : List V} {g : TG} {tt : TT} {te : TE} {vs : List Nat} {σ : L2.St} {H1 : Hp} {D : Addr} {Qd : Hp → Prop} (Pv : Nat → Hp → Prop) (h0 : Pv 0 (upd H1 D (SetO w D (fun _ => false) 0)))
    (hl : ∀ i H, i ≤ xs.length → Pv i H → SqL K H a xs)
    (hs : ∀ i x H, xs[i]? = some x → Pv i H → g x (L2.wipe σ vs) H fun σ2 H2 => L2.wipe σ2 vs = L2.wipe σ vs ∧ tt σ2 H2 fun b H3 => if b = true then te σ2 H3 fun y H4 => ∃ (c : Int) (S : Int → Bool) (n : Nat), y = .int c ∧ H4 D = some (SetO w D S n) ∧ n + 1 < scanBound ∧
      Pv (i + 1) (upd H4 D (SetO w D (fun j => S j || decide (j = c)) (if S c = true then n else n + 1))) else Pv (i + 1) H3)
    (he : ∀ H, Pv xs.length H → Qd H) : ∃ W : Nat → Nat → Hp → Prop, (∃ m, W 0 m (upd H1 D (SetO w D (fun _ => false) 0))) ∧ ∀ i m H, W i m H → ((Itl K a).stop i H ∧ Qd H) ∨ ((Itl K a).go i H ∧ ∃ Nx : Hp → Prop, (∀ H', Nx H' → ∃ m', m' < m ∧ W (i + 1) m' H') ∧ ∀ x H', (Itl K a).yld i H x H' →
    g x (L2.wipe σ vs) H' fun σ2 H2 => L2.wipe σ2 vs = L2.wipe σ vs ∧ tt σ2 H2 fun b H3 => if b = true then te σ2 H3 fun y H4 => ∃ (c : Int) (S : Int → Bool) (n : Nat), y = .int c ∧ H4 D = some (SetO w D S n) ∧ n + 1 < scanBound ∧
      Nx (upd H4 D (SetO w D (fun j => S j || decide (j = c)) (if S c = true then n else n + 1))) else Nx H3) := by
  refine ⟨fun i m H => i ≤ xs.length ∧ m = xs.length - i ∧ Pv i H, ⟨xs.length, Nat.zero_le _, rfl, h0⟩, fun i m H hW => ?_⟩
  obtain ⟨hi, rfl, hP⟩ := hW
  have hL := hl i H hi hP
  by_cases z : i < xs.length
  · refine .inr ⟨⟨xs, xs[i], hL, List.getElem?_eq_getElem z⟩, Pv (i + 1), fun H' p => ⟨xs.length - (i + 1), by omega, by omega, rfl, p⟩, fun x H' hy => ?_⟩
    obtain ⟨rfl, hx⟩ := hy
    exact hs i x _ (hx xs hL) hP
  · have e : i = xs.length := by omega
    subst e
    exact .inl ⟨⟨xs, hL, Nat.le_refl _⟩, he H hP⟩
theorem dl_any (l : List Int) (c : Int) : (l.any fun y => y == c) = decide (c ∈ l) := by
  rw [Bool.eq_iff_iff, List.any_eq_true, decide_eq_true_iff]
  constructor
  · rintro ⟨y, h, e⟩
    rw [beq_iff_eq] at e
    exact e ▸ h
  · exact fun h => ⟨c, h, beq_self_eq_true c⟩
def setL (w : World) (D : Addr) (l : List Int) : HO := SetO w D (fun j => decide (j ∈ dl l)) (dl l).length
theorem setL_snoc {w : World} {D : Addr} {l : List Int} {c : Int} : SetO w D (fun j => decide (j ∈ dl l) || decide (j = c)) (if decide (c ∈ dl l) = true then (dl l).length else (dl l).length + 1) = setL w D (l ++ [c]) := by
  unfold setL
  rw [dl_snoc, dl_any]
  by_cases h : c ∈ dl l
  · rw [decide_eq_true h, if_pos rfl, if_pos rfl]
    have : (fun j => decide (j ∈ dl l) || decide (j = c)) = fun j => decide (j ∈ dl l) := by
      funext j
      by_cases e : j = c
      · rw [e, decide_eq_true h]; rfl
      · rw [decide_eq_false e, Bool.or_false]
    rw [this]
  · rw [decide_eq_false h, if_neg Bool.false_ne_true, if_neg Bool.false_ne_true]
    have : (fun j => decide (j ∈ dl l) || decide (j = c)) = fun j => decide (j ∈ dl l ++ [c]) := by
      funext j
      rw [Bool.eq_iff_iff]
      simp
    rw [this, List.length_append, List.length_singleton]
section
variable {K : PySem.W.Frag} {w : World} {G : Gm} {te tl ta : TE} {j : Nat} {ds : List PyData}
theorem sv_lenSetG {ns : List Int} (ha : Rl ta G (ns.map PyData.int)) (hz : ns.length < 4000) : Sv (tLenSetG K ta) G (isD (.int ((dl ns).length : Nat))) := fun M0 σ B M H Q q => ha M0 σ B M H _ fun a vs B1 e1 d1 hh q1 =>
  ⟨a, ns, rfl, by rw [← DqAll_ints q1]; exact sq_of hh, hz, q _ B1 e1 d1 (.int _)⟩
theorem sv_lenSc (h : Rl tl G ds) (g : PyData → Int) (hj : j < G.length) (hz : ds.length < 4000) (he : ∀ d, d ∈ ds → Sv te (Gv G j d) (isD (.int (g d)))) : Sv (tCB (rLenSO w) (tCons (tScI w (iList K tl) (gName j) tYes te [j]) tNil)) G (isD (.int ((dl (ds.map g)).length : Nat))) := fun M0 σ B M H Q q => h M0 σ B M H _ fun a vs B1 e1 d1 hh q1 => by
  have hlen := DqAll_len q1
  refine ⟨a, rfl, ⟨vs, sq_of hh⟩, fun D hD => ?_⟩
  have hM := (jn_free hD).2
  refine scI_list (xs := vs) (fun i H => ∃ B', H = jn B' (upd M D (setL w D ((ds.take i).map g))) ∧ Ex B1 B' ∧ Dj B' (upd M D (setL w D ((ds.take i).map g)))) ⟨B1, ?_, Ex.refl B1, ?_⟩ (fun i H' _ p => ?_) (fun i x H' hx p => ?_) (fun H' p => ?_)
  · show upd (jn B1 M) D _ = jn B1 (upd M D _)
    rw [← upd_own]
    rfl
  · exact dj_own d1 (jn_free hD).1
  · obtain ⟨B', rfl, e, dj⟩ := p
    refine sq_of ?_
    have hne : a ≠ D := fun z => by rw [z, hD] at hh; cases hh
    unfold jn at hh ⊢
    rw [upd_ne hne]
    cases z : M a with
    | some u => rw [z] at hh; exact hh
    | none => rw [z] at hh; exact e _ _ hh
  · obtain ⟨B', rfl, e, dj⟩ := p
    obtain ⟨d, hd, px⟩ := DqAll_getV q1 hx
    have hi := (List.getElem?_eq_some_iff.mp hd).1
    refine ⟨wipe_one σ j x, ?_⟩
    have hB' : B' D = none := dj_free dj upd_same
    have djM : Dj B' M := fun b u z => by
      have := dj b u z
      by_cases y : b = D
      · rw [y]; exact hM
      · rw [upd_ne y] at this; exact this
    have H2 : Holds M0 (Gv G j d) ((L2.wipe σ [j]).set j (some x)) B' (upd M D (setL w D ((ds.take i).map g))) := by
      have h1 := (((H.ext e1 d1).ext e djM).wipes [j]).more (p := D) (o := setL w D ((ds.take i).map g)) (show jn B' M D = none by rw [jn_N hM]; exact hB')
      exact h1.setIm (by show j < (G.set j .no).length; rw [List.length_set]; exact hj) (Dq_ex e d x px)
    refine st_yes M0 _ _ _ H2 _ fun B3 e3 d3 => ?_
    rw [if_pos rfl]
    refine he d (List.mem_of_getElem? hd) M0 _ _ _ (H2.ext e3 d3) _ fun v B4 e4 d4 p4 => ?_
    refine ⟨g d, fun j => decide (j ∈ dl ((ds.take i).map g)), (dl ((ds.take i).map g)).length, dp_int p4, jn_M upd_same, ?_, ?_⟩
    · have := dl_le ((ds.take i).map g)
      rw [List.length_map, List.length_take] at this
      have : scanBound = 4096 := rfl
      omega
    · have es : (ds.take (i + 1)).map g = (ds.take i).map g ++ [g d] := by rw [List.take_succ, hd, List.map_append]; rfl
      refine ⟨B4, ?_, (e.trans e3).trans e4, ?_⟩
      · rw [upd_own, upd_upd, setL_snoc, es]
      · intro b u z
        have := d4 b u z
        by_cases y : b = D
        · rw [y, upd_same] at this; cases this
        · rw [upd_ne y] at this ⊢; exact this
  · obtain ⟨B', rfl, e, dj⟩ := p
    rw [hlen, List.take_length] at *
    have hB' : B' D = none := dj_free dj upd_same
    refine ⟨D, _, _, rfl, jn_M upd_same, ?_⟩
    rw [jn_push hM]
    exact q _ _ ((e1.trans e).trans (ex_new (M := M) (by rw [jn_N hM]; exact hB'))) (dj_push dj hM) (.int _)
end
end Mini

namespace Mini
open PySem L2 Evl PyProof.Rows

/-! ### t[::-1] of a tuple -/
theorem rev_places (n : Nat) : Builtin.Slice.slicePlaces ((n : Int) - 1) (-1) (-1) = n := by
  unfold Builtin.Slice.slicePlaces
  rw [if_neg (by omega)]
  by_cases h : (n : Int) - 1 > -1
  · rw [if_pos h]
    have : ((n : Int) - 1 - -1 - 1) / - -1 + 1 = n := by rw [Int.neg_neg, Int.ediv_one]; omega
    rw [this]; rfl
  · rw [if_neg h]; omega
theorem sliceApplied_rev {prog : Program} {w : World} {A : Around} {E : Value → Shared → Prop} {s : Shared} {sl : Addr} {st : Value} {n : Nat} {Q : Int × Int × Nat → Shared → Prop} (hs : s.heap.IsSliceOf sl .none .none st) (hp : IsPart st (some (-1))) (q : Q ((n : Int) - 1, -1, n) s) :
    wpAny (model prog w) A (Builtin.Slice.sliceApplied (.ref sl) (pure (n : Int))) Q E s := by
  obtain ⟨o, h1, _, h2⟩ := hs
  unfold Builtin.Slice.sliceApplied Builtin.Slice.sliceFields
  refine wpAny_bind (wpAny_bind (wpAny_field (i := 0) h1 h2 rfl (wpAny_bind (wpAny_field (i := 1) h1 h2 rfl (wpAny_bind (wpAny_field (i := 2) h1 h2 rfl (wpAny_pure ?_)))))))
  refine wpAny_bind (HT.slicePart_ hp ?_)
  rw [if_neg (by decide)]
  refine wpAny_bind (slicePart_none (wpAny_bind (slicePart_none (wpAny_bind (wpAny_pure (wpAny_pure ?_))))))
  have e : Builtin.Slice.sliceAdjust none none (-1) (n : Int) = ((n : Int) - 1, -1) := rfl
  show Q ((n : Int) - 1, -1, Builtin.Slice.slicePlaces ((n : Int) - 1) (-1) (-1)) s
  rw [rev_places]
  exact q
theorem rev_pick (xs : List Value) : (List.range xs.length).filterMap (fun k : Nat => xs.toArray[(((xs.length : Nat) : Int) - 1 + (k : Int) * (-1)).toNat]?) = xs.reverse := by
  have h : ∀ k ∈ List.range xs.length, (fun k : Nat => xs.toArray[(((xs.length : Nat) : Int) - 1 + (k : Int) * (-1)).toNat]?) k = some (xs.reverse.getD k .none) := fun k hk => by
    have hk := List.mem_range.mp hk
    have e : (((xs.length : Nat) : Int) - 1 + (k : Int) * (-1)).toNat = xs.length - 1 - k := by omega
    show xs.toArray[_]? = _
    rw [e, List.getElem?_toArray, List.getD_eq_getElem?_getD, List.getElem?_reverse hk, List.getElem?_eq_getElem (by omega)]
    rfl
  have f : ∀ (l : List Nat), (∀ k ∈ l, xs.toArray[(((xs.length : Nat) : Int) - 1 + ((k : Nat) : Int) * (-1)).toNat]? = some (xs.reverse.getD k .none)) → l.filterMap (fun k : Nat => xs.toArray[(((xs.length : Nat) : Int) - 1 + (k : Int) * (-1)).toNat]?) = l.map fun k => xs.reverse.getD k .none := by
    intro l
    induction l with
    | nil => intro _; rfl
    | cons a l ih => intro g; rw [List.filterMap_cons, g a List.mem_cons_self, List.map_cons, ih fun k hk => g k (List.mem_cons_of_mem _ hk)]
  rw [f _ h]
  apply List.ext_getElem
  · simp
  · intro i h1 h2
    simp [List.getD_eq_getElem?_getD, List.getElem?_eq_getElem h2]
theorem getItem_tup_rev {prog : Program} {w : World} {A : Around} {E : Value → Shared → Prop} {s : Shared} {t sl : Addr} {xs : List Value} {st : Value} {Q : Value → Shared → Prop} (ht : IsTup s.heap t xs.toArray) (hs : s.heap.IsSliceOf sl .none .none st) (hp : IsPart st (some (-1)))
    (q : Q (.ref s.heap.objs.size) ⟨s.heap.push { cls := .type "tuple", data := Data.seq xs.reverse.toArray }, s.gens, s.drawn, s.toks, s.os⟩) (hz : xs.length ≤ sizeLine) : wpAny (model prog w) A (getItem (.ref t) (.ref sl)) Q E s := by
  have hsl : s.TypeIs (.ref sl) "slice" := by
    obtain ⟨o, h1, h2, h3⟩ := hs
    exact ⟨o, h1, h2⟩
  refine wpAny_getItem_slot ht.typeIs (by decide) slot_tuple_getitem (wpAny_call_entry slot_tuple_getitem ht.typeIs entry_tuple_getitem ?_ (args_tuple_getitem _ _))
  show wpAny _ _ (Builtin.Tuple.tupleItemsOf (.ref t) >>= _) _ _ _
  refine wpAny_bind (tupleItemsOf_ ht (wpAny_bind (wpAny_typeOf hsl ?_)))
  rw [if_pos (by decide)]
  refine wpAny_bind ?_
  rw [List.size_toArray]
  refine sliceApplied_rev hs hp ?_
  dsimp only
  rw [if_neg (by simp)]
  rw [rev_pick]
  refine wpAny_bind (wpAny_newObj_type ?_ (by show xs.reverse.toArray.size ≤ sizeLine; rw [List.size_toArray, List.length_reverse]; exact hz))
  exact wpAny_pure ⟨_, rfl, q⟩

def tRevT (K : PySem.W.Frag) (te : TE) : TE := fun σ H Q => te σ H fun x H1 => ∃ a xs, x = .ref a ∧ SqT K H1 a xs ∧ ∀ p, H1 p = none → Q (.ref p) (upd H1 p (.tup xs.reverse))
theorem pe_revT {X : Cx} {K : PySem.W.Frag} {e : Expr} {te : TE} {k : Nat} {p1 p2 p3 pos : Pos} (he : PE X e te) (hK : X.K = K := by rfl) : PE X (.Subscript e (.Slice none none (some (.UnaryOp .USub (.Constant (.int 1) k p1) p2)) p3) pos) (tRevT K te) := by
  subst hK
  refine ⟨fun pins s σ H Q I h => ?_⟩
  refine Subscript_ (thn (he.run pins s σ H _ I h) fun v s1 hh => ?_)
  obtain ⟨x, H1, I1, rx, a, xs, rfl, hx, q⟩ := hh
  obtain rfl : v = Value.ref a := rx
  have hst : PO X (some (.UnaryOp .USub (.Constant (.int 1) k p1) p2)) (tPart (tUn (rU fun i => .int (-i)) (tC (.int 1)))) := po_some (pe_un un_neg pe_int)
  refine wpAny_Slice (thn (po_none.run pins s1 σ H1 (fun o H2 => o = none ∧ H2 = H1) I1 ⟨rfl, rfl⟩) fun vl s2 h2 => ?_)
  obtain ⟨_, _, I2, pl, rfl, rfl⟩ := h2
  refine thn (po_none.run pins s2 σ _ (fun o H2 => o = none ∧ H2 = _) I2 ⟨rfl, rfl⟩) fun vu s3 h3 => ?_
  obtain ⟨_, _, I3, pu, rfl, rfl⟩ := h3
  refine thn (hst.run pins s3 σ _ (fun o H4 => o = some (-1) ∧ H4 = _) I3 ⟨1, rfl, -1, rfl, rfl, rfl⟩) fun vs s4 h4 => ?_
  obtain ⟨_, _, I4, ps, rfl, rfl⟩ := h4
  cases pl
  cases pu
  have I5 := I4.kept (t' := s4.toks) (h' := s4.heap.push { cls := Value.type "slice", data := Data.fields #[.none, .none, vs] }) fun b ob q => Heap.get?_push_of_some _ q
  obtain ⟨its, r, ht, hz⟩ := I5.tuple hx
  refine tail_any ht.typeIs slot_tuple_getitem.lookup ?_ rfl
  refine getItem_tup_rev ht (Heap.IsSliceOf.new _ _ _ _) ps ?_ (by rw [← r.length]; exact hz)
  refine ⟨.ref _, _, I5.laid (fun b o e => Heap.get?_push_of_some _ e) (Nat.le_refl _) ?_, rfl, q _ (I5.hok.fresh (Nat.le_refl _))⟩
  exact ⟨by rw [List.length_reverse]; exact hz, _, r.reverse, IsTup.new _ _⟩
section
variable {K : PySem.W.Frag} {G : Gm} {ta : TE} {ds : List PyData}
theorem DqAll_rev {B : Hp} : ∀ {ds : List PyData} {vs : List V}, DqAll B vs ds → DqAll B vs.reverse ds.reverse
  | [], _, h => by cases h; exact .nil
  | d :: ds, _, h => by
    cases h with
    | cons a b => rw [List.reverse_cons, List.reverse_cons]; exact DqAll_append (DqAll_rev b) (.cons a .nil)
theorem sv_revT (ha : Sv ta G (isD (.tuple ds))) : Sv (tRevT K ta) G (isD (.tuple ds.reverse)) := fun M0 σ B M H Q q => ha M0 σ B M H _ fun x B1 e1 d1 p1 => by
  obtain ⟨a, vs, rfl, h1, q1⟩ := dq_tup p1
  refine ⟨a, vs, rfl, st_of (jn_B d1 h1), fun p hp => ?_⟩
  rw [upd_new hp]
  exact q _ _ (e1.trans (ex_new hp)) (dj_new d1 hp) (.tup upd_same (DqAll_ex (ex_new hp) (DqAll_rev q1)))
end
end Mini

namespace Mini
open PySem L2 Evl PyProof.Rows

/-! ### a, b, c = a list -/
theorem drawL {prog : Program} {w : World} {A : Around} {E : Value → Shared → Prop} {it l : Addr} {items : Array Value} (ne : l ≠ it) : ∀ (n i : Nat) (s : Shared) (Q : List Value → Shared → Prop), s.heap.IsListIter it l i → s.heap.IsList l items → i + n ≤ items.size →
    (∀ h' : Heap, h'.IsListIter it l (i + n) → Heap.SameBut it s.heap h' → Q ((items.toList.drop i).take n) ⟨h', s.gens, s.drawn, s.toks, s.os⟩) → wpAny (model prog w) A (draw (.ref it) n) Q E s
  | 0, i, s, Q, hi, hl, hn, q => by
    rw [draw]
    refine wpAny_pure ?_
    have := q s.heap hi ⟨rfl, fun _ _ => rfl⟩
    rw [List.take_zero] at this
    exact this
  | n + 1, i, s, Q, hi, hl, hn, q => by
    rw [draw]
    have hlt : i < items.size := by omega
    refine wpAny_bind (wpAny_pyNext_list_item hi hl (Array.getElem?_eq_getElem hlt) fun h' hi' sb => ?_)
    refine wpAny_bind (wpAny_holding ?_)
    have hl' : h'.IsList l items := by
      obtain ⟨o, a, b⟩ := hl
      exact ⟨o, (sb.2 l ne).trans a, b⟩
    refine drawL ne n (i + 1) _ _ hi' hl' (by omega) fun h2 hi2 sb2 => wpAny_pure ?_
    have e : (items.toList.drop i).take (n + 1) = items[i] :: (items.toList.drop (i + 1)).take n := by
      rw [List.drop_eq_getElem_cons (by rw [Array.length_toList]; exact hlt), List.take_succ_cons]
      rfl
    have := q h2 (by rw [show i + (n + 1) = i + 1 + n by omega]; exact hi2) ⟨sb2.1.trans sb.1, fun b hb => (sb2.2 b hb).trans (sb.2 b hb)⟩
    rw [e] at this
    exact this
theorem unpackItemsL {prog : Program} {w : World} {A : Around} {E : Value → Shared → Prop} {s : Shared} {l : Addr} {items : Array Value} {Q : List Value → Shared → Prop} (hA : A.handled = none) (hl : s.heap.IsList l items)
    (q : ∀ h', Heap.ExtBut s.heap.objs.size s.heap h' → Q items.toList ⟨h', s.gens, s.drawn, s.toks, s.os⟩) : wpAny (model prog w) A (unpackItems (.ref l) items.size none) Q E s := by
  have hlt : l < s.heap.objs.size := by
    obtain ⟨o, a, _⟩ := hl
    exact Heap.lt_size a
  unfold unpackItems notIterableAtAll
  refine wpAny_bind (wpAny_bind (wpAny_specialOf hl.typeIs F.slot_list_iter.lookup ?_))
  rw [if_pos (show (some (Value.builtin "list.__iter__")).isSome = true from rfl)]
  refine wpAny_pure ?_
  rw [if_neg Bool.false_ne_true]
  refine wpAny_bind (wpAny_holding (wpAny_pyIter_list hl ?_))
  refine wpAny_bind (wpAny_holding ?_)
  have hl1 : (s.heap.push { cls := .type "list_iterator", data := Data.fields #[.ref l, .int 0 0] }).IsList l items := by
    obtain ⟨o, a, b⟩ := hl
    exact ⟨o, Heap.get?_push_of_some _ a, b⟩
  refine drawL (l := l) (items := items) (Nat.ne_of_lt hlt) items.size 0 _ _ ⟨_, Heap.get?_push_size _ rfl, rfl, rfl⟩ hl1 (by omega) fun h1 hi1 sb1 => ?_
  have e : (items.toList.drop 0).take items.size = items.toList := by rw [List.drop_zero, List.take_of_length_le (by rw [Array.length_toList]; exact Nat.le_refl _)]
  rw [e]
  have hlen : ¬ items.toList.length < items.size := by rw [Array.length_toList]; exact Nat.lt_irrefl _
  rw [if_neg hlen]
  have hl2 : h1.IsList l items := by
    obtain ⟨o, a, b⟩ := hl1
    exact ⟨o, (sb1.2 l (Nat.ne_of_lt hlt)).trans a, b⟩
  refine wpAny_bind (wpAny_holding (wpAny_pyNext_list_end (items := items) hA hi1 hl2 (by rw [Nat.zero_add]; exact Array.getElem?_eq_none (Nat.le_refl _)) fun h2 ex => ?_))
  refine wpAny_pure (q h2 fun b o ne hb => ex b o ne ((sb1.2 b ne).trans (Heap.get?_push_of_some _ hb)))
def gTupL (K : PySem.W.Frag) (n : Nat) (t : TGs) : TG := fun v σ H Q => ∃ a xs, v = .ref a ∧ SqL K H a xs ∧ xs.length = n ∧ t xs σ H Q
theorem pg_tupL {X : Cx} {pos : Pos} {es : List Expr} {k n : Nat} {t : TGs} (hc : X.calm = true) (h : PGs X es t) (hn : (assignEach es X.env).length = n := by rfl) (hs : (assignEach es X.env).findIdx? (fun x => x.1) = none := by rfl) : PG X (.Tuple es k pos) (gTupL X.K n t) := by
  refine ⟨fun pins s σ H v u Q I r hh => ?_⟩
  obtain ⟨a, xs, rfl, hx, hl, q⟩ := hh
  obtain rfl : u = Value.ref a := r
  obtain ⟨its, rv, pl, _⟩ := I.list hx
  have hz : n = its.toArray.size := by rw [List.size_toArray, ← rv.length, hl]
  show wpAny _ _ (do standAt pos; unpack (.ref a) (assignEach es X.env)) _ _ _
  refine wpAny_bind (wpAny_standAt ?_)
  unfold unpack
  rw [hs, hn, hz]
  refine wpAny_bind (wpAny_holding (unpackItemsL (I.ok.hd hc) pl.isList fun h' ex => ?_))
  exact h.run pins _ σ H xs its _ (I.kept fun b o e => ex b o (Nat.ne_of_lt (Heap.lt_size e)) e) rv q

/-! ### lists of typed things -/
inductive AllP (B : Hp) : List V → List Ty → Prop where
  | nil : AllP B [] []
  | cons {v P vs Ps} : P.p v B → AllP B vs Ps → AllP B (v :: vs) (P :: Ps)
theorem AllP.ext {B B' : Hp} (e : Ex B B') {vs : List V} {Ps : List Ty} (h : AllP B vs Ps) : AllP B' vs Ps := by
  induction h with
  | nil => exact .nil
  | cons a _ ih => exact .cons (Ty.mono _ e a) ih
theorem AllP.len {B : Hp} {vs : List V} {Ps : List Ty} (h : AllP B vs Ps) : vs.length = Ps.length := by
  induction h with
  | nil => rfl
  | cons a _ ih => simp [ih]
theorem AllP.snoc {B : Hp} {vs : List V} {Ps : List Ty} (h : AllP B vs Ps) {v : V} {P : Ty} (p : P.p v B) : AllP B (vs ++ [v]) (Ps ++ [P]) := by
  induction h with
  | nil => exact .cons p .nil
  | cons a _ ih => exact .cons a ih
theorem AllP.get {B : Hp} {vs : List V} {Ps : List Ty} (h : AllP B vs Ps) {i : Nat} {v : V} (e : vs[i]? = some v) : ∃ P, Ps[i]? = some P ∧ P.p v B := by
  induction h generalizing i with
  | nil => simp at e
  | @cons u P us Qs a b ih =>
    cases i with
    | zero => simp at e; subst e; exact ⟨P, rfl, a⟩
    | succ i => exact ih e
def isQ (Ps : List Ty) : Ow := ⟨fun _ o B => ∃ vs, o = .lst vs ∧ AllP B vs Ps, fun e ⟨vs, h, q⟩ => ⟨vs, h, q.ext e⟩⟩
def isQI (Ps : List Ty) : Ty := ⟨fun v B => ∃ a vs, v = .ref a ∧ B a = some (.lst vs) ∧ AllP B vs Ps, fun e ⟨a, vs, h1, h2, h3⟩ => ⟨a, vs, h1, e _ _ h2, h3.ext e⟩⟩
section
variable {K : PySem.W.Frag} {E : L2.St → XK} {G : Gm} {te tl ta tb tc : TE} {tt : TT} {ts : TS} {o : Out} {P : Ty} {Ps : List Ty} {n i j l : Nat} {ds es fs : List PyData}
theorem ss_ownQ (h : G[n]? = some (.ow (isL []))) (k : Ss E ts (G.set n (.ow (isQ []))) o) : Ss E ts G o := fun M0 D σ B M H q => by
  obtain ⟨l, ob, a, c, ⟨vs, rfl, r⟩, f⟩ := H.ow n _ h
  cases r
  have H' := H.change (R' := isQ []) (o' := .lst []) h a c ⟨[], rfl, .nil⟩
  have e : upd M l (.lst []) = M := by
    funext b
    by_cases z : b = l
    · rw [z, upd_same, c]
    · rw [upd_ne z]
  rw [e] at H'
  exact k M0 D σ B M H' q
theorem ss_freezeQ (h : G[n]? = some (.ow (isQ Ps))) (k : Ss E ts (G.set n (.im (isQI Ps))) o) : Ss E ts G o := fun M0 D σ B M H q => by
  obtain ⟨l, ob, a, c, ⟨vs, rfl, r⟩, f⟩ := H.ow n _ h
  obtain ⟨H', ex⟩ := H.freeze h a c (P := isQI Ps) ⟨l, vs, rfl, upd_same, r.ext (Ex.new (dj_free H.dj c))⟩
  have k' := k M0 D σ _ _ H' (q.ext ex)
  rw [jn_del c] at k'
  exact k'
theorem ss_appendQ (h : G[n]? = some (.ow (isQ Ps))) (he : Sv te G P) (hz : Ps.length < sizeLine) : Ss E (tDrop (tBM K "list" rAppend (tVar n) (tCons te tNil))) G (.nx (G.set n (.ow (isQ (Ps ++ [P]))))) := fun M0 D σ B M H q => by
  obtain ⟨l, ob, a, c, ⟨vs, rfl, r⟩, f⟩ := H.ow n _ h
  refine ⟨.ref l, a, Or.inl ⟨rfl, vs, sq_of (jn_M c)⟩, ?_⟩
  refine he M0 σ B M H _ fun v B' e dj p => ?_
  refine ⟨l, vs, v, rfl, rfl, jn_M c, by rw [r.len]; exact hz, ?_⟩
  rw [upd_own]
  exact q σ B' _ e ((H.ext e dj).change h a c ⟨_, rfl, (r.ext e).snoc p⟩)
theorem ss_unp3 {P1 P2 P3 : Ty} (h : Sv te G (isQI [P1, P2, P3])) (hi : i < G.length := by exact Nat.le_of_ble_eq_true rfl) (hj : j < G.length := by exact Nat.le_of_ble_eq_true rfl) (hl : l < G.length := by exact Nat.le_of_ble_eq_true rfl) :
    Ss E (tAsg te (gTupL K 3 (gCons (gName i) (gCons (gName j) (gCons (gName l) gNil))))) G (.nx (((G.set i (.im P1)).set j (.im P2)).set l (.im P3))) := fun M0 D σ B M H q => by
  refine h M0 σ B M H _ fun v B' e dj p => ?_
  obtain ⟨a, vs, rfl, h1, h2⟩ := p
  cases h2 with
  | cons p1 h2 => cases h2 with
    | cons p2 h2 => cases h2 with
      | cons p3 h2 =>
        cases h2
        refine ⟨a, _, rfl, sq_of (jn_B dj h1), rfl, _, _, rfl, _, _, rfl, _, _, rfl, rfl, ?_⟩
        exact q _ B' M e ((((H.ext e dj).setIm hi p1).setIm (by rw [List.length_set]; exact hj) p2).setIm (by rw [List.length_set, List.length_set]; exact hl) p3)
end
end Mini

namespace Mini
open PySem L2 Evl PyProof.Rows

/-! ### more comprehensions -/
/-- over typed things -/
def GvP (G : Gm) (j : Nat) (P : Ty) : Gm := (wipeG G [j]).set j (.im P)
section
variable {K : PySem.W.Frag} {G : Gm} {te tl twi : TE} {j l : Nat} {ds : List PyData} {Ps : List Ty}
theorem svl_lcQ (h : Sv tl G (isQI Ps)) (y : Nat → PyData) (hj : j < G.length) (hz : Ps.length < 10000000) (he : ∀ i P, Ps[i]? = some P → Sv te (GvP G j P) (isD (y i))) : Svl (tLc (iList K tl) (gName j) tYes te [j]) G ((List.range Ps.length).map y) := fun M0 σ B M H Q q => h M0 σ B M H _ fun v B1 e1 d1 p1 => by
  obtain ⟨a, vs, rfl, hh, q1⟩ := p1
  have hlen := q1.len
  refine ⟨a, rfl, ⟨vs, sq_of (jn_B d1 hh)⟩, fun Dl hD => ?_⟩
  have hM := (jn_free hD).2
  refine lc_list (xs := vs) (Pvc B1 M Dl fun i => (List.range i).map y) ⟨B1, [], by rw [upd_own], Ex.refl B1, dj_own d1 (jn_free hD).1, .nil⟩ (fun i H' _ p => ?_) (fun i x H' hx p => ?_) (fun H' p => ?_)
  · obtain ⟨B', acc, rfl, e, dj, _⟩ := p
    exact sq_of (jn_B dj (e _ _ hh))
  · obtain ⟨B', acc, rfl, e, dj, ha⟩ := p
    obtain ⟨P, hP, px⟩ := q1.get hx
    have hi := (List.getElem?_eq_some_iff.mp hP).1
    refine ⟨wipe_one σ j x, ?_⟩
    have hB' : B' Dl = none := dj_free dj upd_same
    have djM : Dj B' M := fun a u q => by
      have := dj a u q
      by_cases z : a = Dl
      · rw [z]; exact hM
      · rw [upd_ne z] at this; exact this
    have H2 : Holds M0 (GvP G j P) ((L2.wipe σ [j]).set j (some x)) B' (upd M Dl (.lst acc)) := by
      have h1 := (((H.ext e1 d1).ext e djM).wipes [j]).more (p := Dl) (o := .lst acc) (show jn B' M Dl = none by rw [jn_N hM]; exact hB')
      exact h1.setIm (by show j < (G.set j .no).length; rw [List.length_set]; exact hj) (P.mono e px)
    refine st_yes M0 _ _ _ H2 _ fun B3 e3 d3 => ?_
    rw [if_pos rfl]
    refine he i P hP M0 _ _ _ (H2.ext e3 d3) _ fun v B4 e4 d4 p4 => ?_
    refine ⟨acc, jn_M upd_same, by rw [DqAll_len ha, List.length_map, List.length_range, sizeLine_eq]; omega, ?_⟩
    rw [upd_own, upd_upd]
    refine ⟨B4, acc ++ [v], rfl, (e.trans e3).trans e4, ?_, ?_⟩
    · intro a u q
      have := d4 a u q
      by_cases z : a = Dl
      · rw [z, upd_same] at this; cases this
      · rw [upd_ne z] at this ⊢; exact this
    · show DqAll B4 (acc ++ [v]) ((List.range (i + 1)).map y)
      rw [List.range_succ, List.map_append]
      exact DqAll_append (DqAll_ex (e3.trans e4) ha) (.cons p4 .nil)
  · rw [hlen] at p
    exact lc_end hM (Ex.refl _) (fun p vs B' e dj hf hv => q p vs B' (e1.trans e) dj hf hv) H' p
theorem tyes_ite {σ : L2.St} {H : Hp} {A B : Hp → Prop} (h : A H) : tYes σ H (fun b H3 => if b = true then A H3 else B H3) := by
  show (if true = true then A H else B H)
  rw [if_pos rfl]; exact h
/-- two loops over tuples, the inner thing itself -/
def Gv2 (G : Gm) (j l : Nat) (d : PyData) : Gm := (wipeG G [j, l]).set j (.im (isD d))
theorem wipe_two (σ : L2.St) {j l : Nat} (h : j ≠ l) (x : V) : L2.wipe ((L2.wipe σ [j, l]).set j (some x)) [j, l] = L2.wipe σ [j, l] := by
  show ((((σ.set l none).set j none).set j (some x)).set l none).set j none = (σ.set l none).set j none
  rw [List.set_set, List.set_comm _ _ h, List.set_set, List.set_set]
theorem svl_lc2T (h : Sv tl G (isD (.tuple ds))) (es : PyData → List PyData) (hj : j < G.length) (hl : l < G.length) (hjl : j ≠ l) (hz : (ds.flatMap es).length < 10000000) (hi : ∀ d ∈ ds, Sv twi (Gv2 G j l d) (isD (.tuple (es d)))) :
    Svl (tLc2 (iTup K tl) (gName j) tYes (iTup K twi) (gName l) tYes (tVar l) [j, l] [l]) G (ds.flatMap es) := fun M0 σ B M H Q q => h M0 σ B M H _ fun v B1 e1 d1 p1 => by
  obtain ⟨a, vs, rfl, hh, q1⟩ := dq_tup p1
  have hlen := DqAll_len q1
  refine ⟨a, rfl, ⟨vs, st_of (jn_B d1 hh)⟩, fun Dl hD => ?_⟩
  have hM := (jn_free hD).2
  refine ⟨fun i m H' => i ≤ vs.length ∧ m = vs.length - i ∧ Pvc B1 M Dl (fun i => (ds.take i).flatMap es) i H', ⟨vs.length, Nat.zero_le _, rfl, B1, [], by rw [upd_own], Ex.refl B1, dj_own d1 (jn_free hD).1, .nil⟩, fun i m H' hW => ?_⟩
  obtain ⟨hle, rfl, B', acc, rfl, e, dj, ha⟩ := hW
  have hB' : B' Dl = none := dj_free dj upd_same
  have djM : Dj B' M := fun a u q => by
    have := dj a u q
    by_cases z : a = Dl
    · rw [z]; exact hM
    · rw [upd_ne z] at this; exact this
  have hS : SqT K (jn B' (upd M Dl (.lst acc))) a vs := st_of (jn_B dj (e _ _ hh))
  by_cases z : i < vs.length
  · refine .inr ⟨⟨vs, vs[i], hS, List.getElem?_eq_getElem z⟩, fun H' => Pvc B1 M Dl (fun i => (ds.take i).flatMap es) (i + 1) H', fun H' p => ⟨vs.length - (i + 1), by omega, by omega, rfl, p⟩, fun x H' hy => ?_⟩
    obtain ⟨rfl, hx⟩ := hy
    obtain ⟨d, hd, px⟩ := DqAll_getV q1 (hx vs hS)
    refine ⟨wipe_two σ hjl x, ?_⟩
    have H2 : Holds M0 (Gv2 G j l d) ((L2.wipe σ [j, l]).set j (some x)) B' (upd M Dl (.lst acc)) := by
      have h1 := (((H.ext e1 d1).ext e djM).wipes [j, l]).more (p := Dl) (o := .lst acc) (show jn B' M Dl = none by rw [jn_N hM]; exact hB')
      exact h1.setIm (by show j < ((G.set l .no).set j .no).length; rw [List.length_set, List.length_set]; exact hj) (Dq_ex e d x px)
    refine st_yes M0 _ _ _ H2 _ fun B3 e3 d3 => ?_
    rw [if_pos rfl]
    refine hi d (List.mem_of_getElem? hd) M0 _ _ _ (H2.ext e3 d3) _ fun v B4 e4 d4 p4 => ?_
    obtain ⟨b, us, rfl, hb, q4⟩ := dq_tup p4
    have hlu := DqAll_len q4
    have hlt : ((ds.take (i + 1)).flatMap es) = (ds.take i).flatMap es ++ es d := by rw [List.take_succ, hd, List.flatMap_append]; simp
    have htot : ((ds.take i).flatMap es).length + (es d).length < 10000000 := by
      rw [← List.length_append, ← hlt]
      have e2 : ds.flatMap es = (ds.take (i + 1)).flatMap es ++ (ds.drop (i + 1)).flatMap es := by rw [← List.flatMap_append, List.take_append_drop]
      rw [e2, List.length_append] at hz
      omega
    refine ⟨b, rfl, ⟨us, st_of (jn_B d4 hb)⟩, ?_⟩
    refine ⟨fun r k H' => r ≤ us.length ∧ k = us.length - r ∧ ∃ B5 acc5, H' = jn B5 (upd M Dl (.lst acc5)) ∧ Ex B4 B5 ∧ Dj B5 (upd M Dl (.lst acc5)) ∧ DqAll B5 acc5 ((ds.take i).flatMap es ++ (es d).take r), ⟨us.length, Nat.zero_le _, rfl, B4, acc, rfl, Ex.refl _, d4, ?_⟩, fun r k H' hW1 => ?_⟩
    · rw [List.take_zero, List.append_nil]
      exact DqAll_ex (e3.trans e4) ha
    obtain ⟨hr, rfl, B5, acc5, rfl, e5, dj5, ha5⟩ := hW1
    have hS5 : SqT K (jn B5 (upd M Dl (.lst acc5))) b us := st_of (jn_B dj5 (e5 _ _ hb))
    by_cases zr : r < us.length
    · refine .inr ⟨⟨us, us[r], hS5, List.getElem?_eq_getElem zr⟩, fun H' => ∃ B5 acc5, H' = jn B5 (upd M Dl (.lst acc5)) ∧ Ex B4 B5 ∧ Dj B5 (upd M Dl (.lst acc5)) ∧ DqAll B5 acc5 ((ds.take i).flatMap es ++ (es d).take (r + 1)), fun H' p => ⟨us.length - (r + 1), by omega, by omega, rfl, p⟩, fun y H' hy => ?_⟩
      obtain ⟨rfl, hy⟩ := hy
      obtain ⟨f, hf, py⟩ := DqAll_getV q4 (hy us hS5)
      refine ⟨wipe_one _ l y, ?_⟩
      refine tyes_ite ?_
      have hll : l < ((((σ.set l none).set j none).set j (some x)).set l none).length := by
        rw [List.length_set, List.length_set, List.length_set, List.length_set, H.len]; exact hl
      refine ⟨y, List.getElem?_set_self hll, acc5, jn_M upd_same, ?_, ?_⟩
      · rw [DqAll_len ha5, List.length_append, List.length_take, sizeLine_eq]; omega
      · rw [upd_own, upd_upd]
        refine ⟨B5, acc5 ++ [y], rfl, e5, ?_, ?_⟩
        · intro a u q
          have := dj5 a u q
          by_cases z : a = Dl
          · rw [z, upd_same] at this; cases this
          · rw [upd_ne z] at this ⊢; exact this
        · rw [List.take_succ, hf, ← List.append_assoc]
          exact DqAll_append ha5 (.cons (Dq_ex e5 f y py) .nil)
    · have er : r = us.length := by omega
      subst er
      refine .inl ⟨⟨us, hS5, Nat.le_refl _⟩, B5, acc5, rfl, (e.trans (e3.trans e4)).trans e5, dj5, ?_⟩
      show DqAll B5 acc5 ((ds.take (i + 1)).flatMap es)
      rw [hlt]
      rw [hlu, List.take_length] at ha5
      exact ha5
  · have ei : i = vs.length := by omega
    subst ei
    refine .inl ⟨⟨vs, hS, Nat.le_refl _⟩, ?_⟩
    refine lc_end (es := fun i => (ds.take i).flatMap es) (i := vs.length) hM (Ex.refl _) (fun p us B2 e2 dj2 hf hv => ?_) _ ⟨B', acc, rfl, e, dj, ha⟩
    rw [hlen, List.take_length] at hv
    exact q p us B2 (e1.trans e2) dj2 hf hv
end
end Mini

namespace Mini
open PySem L2 Evl PyProof.Rows
theorem pe_fldK {X : Cx} {K : PySem.W.Frag} {e : Expr} {f : Str} {pos : Pos} {ta : TE} (h : PE X e ta) (hb : attributeBase e f X.env (eval e X.env) = eval e X.env) (hK : X.K = K := by rfl) : PE X (.Attribute e f pos) (tFld K ta f) := hK ▸ pe_fld h hb
theorem pi_tupK {X : Cx} {K : PySem.W.Frag} {tg l : Expr} {tl : TE} (h : PE X l tl) (hK : X.K = K := by rfl) : PI X tg l (iTup K tl) := hK ▸ pi_tup h
theorem pi_listK {X : Cx} {K : PySem.W.Frag} {tg l : Expr} {tl : TE} (h : PE X l tl) (hK : X.K = K := by rfl) : PI X tg l (iList K tl) := hK ▸ pi_list h
abbrev rLenK (K : PySem.W.Frag) : List V → Hp → VK → Prop := fun xs H Q => ∃ x n, xs = [x] ∧ LenV K x H n ∧ Q (.int n) H
section
variable {K : PySem.W.Frag} {E : L2.St → XK} {G : Gm} {ta tb tc : TE} {ds es fs : List PyData} {i j l : Nat}
/-- a, b, c = (new lists), through a tuple -/
theorem ss_tup3 (ha : Svl ta G ds) (hb : Svl tb G es) (hc : Svl tc G fs) (hi : i < G.length := by exact Nat.le_of_ble_eq_true rfl) (hj : j < G.length := by exact Nat.le_of_ble_eq_true rfl) (hl : l < G.length := by exact Nat.le_of_ble_eq_true rfl) :
    Ss E (tAsg (tTup (tCons ta (tCons tb (tCons tc tNil)))) (gTup K 3 (gCons (gName i) (gCons (gName j) (gCons (gName l) gNil))))) G (.nx (((G.set i (.ow (isL ds))).set j (.ow (isL es))).set l (.ow (isL fs)))) := fun M0 D σ B M H q =>
  ha M0 σ B M H _ fun p vs B1 e1 d1 hf ha1 => by
    rw [upd_own]
    have H1 := (H.ext e1 d1).more (p := p) (o := .lst vs) hf
    refine hb M0 σ B1 _ H1 _ fun p2 us B2 e2 d2 hf2 ha2 => ?_
    rw [upd_own]
    have H2 := (H1.ext e2 d2).more (p := p2) (o := .lst us) hf2
    refine hc M0 σ B2 _ H2 _ fun p3 ws B3 e3 d3 hf3 ha3 => ?_
    rw [upd_own]
    have n2 : p ≠ p2 := ne_of_none (show (upd M p (HO.lst vs)) p = some _ from upd_same) (jn_free hf2).2
    have m1 : (upd (upd M p (HO.lst vs)) p2 (HO.lst us)) p = some (.lst vs) := by rw [upd_ne n2]; exact upd_same
    have b1 : B3 p = none := dj_free d3 m1
    have b2 : B3 p2 = none := dj_free d3 upd_same
    have b3 : B3 p3 = none := (jn_free hf3).1
    have djM : Dj B3 M := fun a u z => by
      have w := d3 a u z
      by_cases y2 : a = p2
      · rw [y2] at z; rw [b2] at z; cases z
      · rw [upd_ne y2] at w
        by_cases y1 : a = p
        · rw [y1] at z; rw [b1] at z; cases z
        · rw [upd_ne y1] at w; exact w
    have hM1 := (jn_free hf).2
    have hM2 := (jn_free hf2).2
    have hM3 := (jn_free hf3).2
    have K1 : Holds M0 (G.set i (.ow (isL ds))) (σ.set i (some (.ref p))) B3 (upd M p (.lst vs)) := (((H.ext e1 d1).ext (e2.trans e3) djM)).setOw hi (by rw [jn_N hM1]; exact b1) ⟨vs, rfl, DqAll_ex (e2.trans e3) ha1⟩
    have K2 := K1.setOw (n := j) (R := isL es) (p := p2) (o := .lst us) (by rw [List.length_set]; exact hj) (by rw [jn_N hM2]; exact b2) ⟨us, rfl, DqAll_ex e3 ha2⟩
    have K3 := K2.setOw (n := l) (R := isL fs) (p := p3) (o := .lst ws) (by rw [List.length_set, List.length_set]; exact hl) (by rw [jn_N hM3]; exact b3) ⟨ws, rfl, ha3⟩
    refine ⟨by show 3 ≤ sizeLine; decide, fun t ht => ?_⟩
    rw [upd_new ht]
    refine ⟨t, _, rfl, st_of (jn_B (dj_new K3.dj ht) upd_same), rfl, _, _, rfl, _, _, rfl, _, _, rfl, rfl, ?_⟩
    exact q _ _ _ ((e1.trans (e2.trans e3)).trans (ex_new ht)) (K3.ext (ex_new ht) (dj_new K3.dj ht))
end
end Mini

namespace Mini
open PySem L2 Evl PyProof.Rows

/-! ### dicts from ints to ints -/
/-- y = {..}, y a local name -/
theorem ps_setDc {X : Cx} {i : Nat} {y : Str} {py : Pos} {kx vx tg iter : Expr} {ifs : List Expr} {scope : Scope} {own : List (Str × Nat)} {pos spos : Pos} {wi : TI} {g : TG} {tt : TT} {tk tv : TE} (hc : X.calm = true) (hN : X.N.Nodup) (hy : X.N[i]? = some y) (hyl : X.env.scope.names.lookup y = some .local)
    (hsw : swapsWith (.DictComp kx vx [⟨tg, iter, ifs, 0⟩] scope pos) (some (.Name y py)) spos.line X.env = pure true) (hi : PI X tg iter wi) (ok : BlkOk X.N X.env.scope scope own)
    (hg : ∀ (s : Shared) (H : Hp) (C : Addr) (cl : List (Str × Addr)) (fp : List Addr), PG (X.blk s H scope (compEnvC scope cl C X.env) fp) tg g)
    (ht : ∀ (s : Shared) (H : Hp) (C : Addr) (cl : List (Str × Addr)) (fp : List Addr), PTs (X.blk s H scope (compEnvC scope cl C X.env) fp) ifs tt)
    (hk : ∀ (s : Shared) (H : Hp) (C : Addr) (cl : List (Str × Addr)) (fp : List Addr), PE (X.blk s H scope (compEnvC scope cl C X.env) fp) kx tk)
    (he : ∀ (s : Shared) (H : Hp) (C : Addr) (cl : List (Str × Addr)) (fp : List Addr), PE (X.blk s H scope (compEnvC scope cl C X.env) fp) vx tv)
    (hs : ∀ x, foldedSetIterable iter X.env x = pure x := by exact fun _ => rfl) : PS X (.Assign [.Name y py] (.DictComp kx vx [⟨tg, iter, ifs, 0⟩] scope pos) spos) (tAsg (tDc wi g tt tk tv (own.map (·.2))) (gName i)) := by
  refine ⟨fun pins s σ H D I h => ?_⟩
  rw [exec_Assign_Name_used y py _ spos hsw]
  refine wpAny_bind (wpAny_standAt (wpAny_bind ?_))
  refine wpAny_bind (thn (dc_core hc hN I hi ok hg ht hk he hs h fun L C s' m H' I' q hn f => ?_) fun x s' hq => wpAny_pure (wpAny_pure hq))
  refine wpAny_assign_Name (store_ok2 (v := V.ref L) I' hN hy (.inl hyl) rfl (fun s2 I2 hx => ?_) (.inr hyl))
  obtain ⟨a, sb, ha⟩ := hx
  have haC : C ≠ a := by
    rcases ha with z | z
    · rw [z]; exact f.2.1
    · exact fun e => f.2.2.2.2.1 y a z e.symm
  exact ⟨m, hn.sameBut sb haC, fun h3 sb3 => ⟨σ.set i (some (.ref L)), H', Inv.turned I2 (fun b o hb e => (sb3.2 b hb).trans e) f.1 f.2.1 f.2.2.2.1 f.2.2.2.2.1 f.2.2.2.2.2, q⟩⟩
theorem pg_tupK {X : Cx} {K : PySem.W.Frag} {pos : Pos} {es : List Expr} {k : Nat} {t : TGs} {n : Nat} (hc : X.calm = true) (h : PGs X es t) (hn : (assignEach es X.env).length = n := by rfl) (hs : (assignEach es X.env).findIdx? (fun x => x.1) = none := by rfl) (hK : X.K = K := by rfl) : PG X (.Tuple es k pos) (gTup K n t) := hK ▸ pg_tup hc h hn hs

def putI (kvs : List (Int × Int)) (k v : Int) : List (Int × Int) := if (kvs.any fun p => decide (p.1 = k)) = true then kvs.map (fun p => if p.1 = k then (p.1, v) else p) else kvs ++ [(k, v)]
def dkV (kvs : List (Int × Int)) : List (Key × V) := kvs.map fun p => (Sum.inl p.1, V.int p.2)
theorem put_dkV (kvs : List (Int × Int)) (k v : Int) : putK (dkV kvs) (Sum.inl k) (V.int v) = dkV (putI kvs k v) := by
  have e : ((dkV kvs).any fun kv => decide (kv.1 = (Sum.inl k : Key))) = kvs.any fun p => decide (p.1 = k) := by
    unfold dkV
    rw [List.any_map]
    congr 1
    funext p
    show decide ((Sum.inl p.1 : Key) = Sum.inl k) = decide (p.1 = k)
    by_cases z : p.1 = k
    · rw [decide_eq_true z, decide_eq_true (by rw [z])]
    · rw [decide_eq_false z, decide_eq_false (fun q => z (Sum.inl.inj q))]
  unfold putK putI
  rw [e]
  split
  · unfold dkV
    rw [List.map_map, List.map_map]
    refine List.map_congr_left fun p _ => ?_
    show (if (Sum.inl p.1 : Key) = Sum.inl k then _ else _) = _
    by_cases z : p.1 = k
    · rw [if_pos (by rw [z])]
      show _ = (fun p : Int × Int => ((Sum.inl p.1 : Key), V.int p.2)) (if p.1 = k then (p.1, v) else p)
      rw [if_pos z]
    · rw [if_neg (fun q => z (Sum.inl.inj q))]
      show _ = (fun p : Int × Int => ((Sum.inl p.1 : Key), V.int p.2)) (if p.1 = k then (p.1, v) else p)
      rw [if_neg z]
  · unfold dkV
    rw [List.map_append]
    rfl
theorem putI_len (kvs : List (Int × Int)) (k v : Int) : (putI kvs k v).length ≤ kvs.length + 1 := by
  unfold putI
  split
  · rw [List.length_map]; omega
  · rw [List.length_append, List.length_singleton]; omega
/-- {key of d: its number} -/
def dE (kf : PyData → Int) (ds : List PyData) : Nat → List (Int × Int)
  | 0 => []
  | i + 1 => putI (dE kf ds i) (kf (ds.getD i .none)) i
theorem dE_len (kf : PyData → Int) (ds : List PyData) : ∀ i, (dE kf ds i).length ≤ i
  | 0 => Nat.le_refl 0
  | i + 1 => by
    have := dE_len kf ds i
    have := putI_len (dE kf ds i) (kf (ds.getD i .none)) i
    show (putI (dE kf ds i) _ _).length ≤ i + 1
    omega
def isDi (kvs : List (Int × Int)) : Ty := ⟨fun v B => ∃ a, v = .ref a ∧ B a = some (.dK (dkV kvs)), fun e ⟨a, h1, h2⟩ => ⟨a, h1, e _ _ h2⟩⟩
def getI (kvs : List (Int × Int)) (k : Int) : PyData := match kvs.find? fun p => decide (p.1 = k) with
  | some p => .int p.2
  | none => .none
theorem val_dkV (kvs : List (Int × Int)) (k : Int) : valV (dkV kvs) (Sum.inl k : Key) = (kvs.find? fun p => decide (p.1 = k)).map fun p => V.int p.2 := by
  unfold valV dkV
  rw [List.find?_map, Option.map_map]
  have e : ((fun kv : Key × V => decide (kv.1 = (Sum.inl k : Key))) ∘ fun p : Int × Int => ((Sum.inl p.1 : Key), V.int p.2)) = fun p : Int × Int => decide (p.1 = k) := by
    funext p
    show decide ((Sum.inl p.1 : Key) = Sum.inl k) = decide (p.1 = k)
    by_cases z : p.1 = k
    · rw [decide_eq_true z, decide_eq_true (by rw [z])]
    · rw [decide_eq_false z, decide_eq_false (fun q => z (Sum.inl.inj q))]
  rw [e]
  rfl
def GvE (G : Gm) (j l : Nat) (i : Nat) (d : PyData) : Gm := ((wipeG G [j, l]).set j (.im (isD (.int (i : Int))))).set l (.im (isD d))
section
variable {K : PySem.W.Frag} {E : L2.St → XK} {G : Gm} {td ty tl tk : TE} {j l n : Nat} {k : Int} {kvs : List (Int × Int)} {ds : List PyData}
theorem sv_dget (hd : Sv td G (isDi kvs)) (hk : Sv ty G (isD (.int k))) : Sv (tDGet1 td ty) G (isD (getI kvs k)) := fun M0 σ B M H Q q => hd M0 σ B M H _ fun v B1 e1 d1 p1 => by
  obtain ⟨a, rfl, h1⟩ := p1
  refine ⟨a, rfl, .inl ⟨_, .inl (jn_B d1 h1)⟩, ?_⟩
  refine hk M0 σ B1 M (H.ext e1 d1) _ fun y B2 e2 d2 p2 => ?_
  refine ⟨_, .inl ⟨_, Sum.inl k, .inl (jn_B d2 (e2 _ _ h1)), dp_int p2, rfl⟩, ?_⟩
  refine q _ B2 (e1.trans e2) d2 ?_
  rw [val_dkV]
  show Dq B2 _ (getI kvs k)
  unfold getI
  cases kvs.find? fun p => decide (p.1 = k) with
  | none => exact .non
  | some p => exact .int _
theorem wipe_two2 (σ : L2.St) {j l : Nat} (h : j ≠ l) (x y : V) : L2.wipe (((L2.wipe σ [j, l]).set j (some x)).set l (some y)) [j, l] = L2.wipe σ [j, l] := by
  show (((((σ.set l none).set j none).set j (some x)).set l (some y)).set l none).set j none = (σ.set l none).set j none
  rw [List.set_set, List.set_set, List.set_comm _ _ h, List.set_set, List.set_set]
theorem ss_setDcE (h : Rl tl G ds) (kf : PyData → Int) (hn : n < G.length) (hj : j < G.length) (hl : l < G.length) (hjl : j ≠ l) (hz : ds.length < 1000000) (hk : ∀ i d, ds[i]? = some d → Sv tk (GvE G j l i d) (isD (.int (kf d)))) :
    Ss E (tAsg (tDc (iEnum K (tCons tl tNil)) (gTup K 2 (gCons (gName j) (gCons (gName l) gNil))) tYes tk (tVar j) [j, l]) (gName n)) G (.nx (G.set n (.im (isDi (dE kf ds ds.length))))) := fun M0 D σ B M H q => h M0 σ B M H _ fun a vs B1 e1 d1 hh q1 => by
  have hlen := DqAll_len q1
  refine ⟨a, vs, rfl, sq_of hh, fun Dl hD => ?_⟩
  have hM := (jn_free hD).2
  refine ⟨fun i m H' => i ≤ vs.length ∧ m = vs.length - i ∧ ∃ B', H' = jn B' (upd M Dl (.dK (dkV (dE kf ds i)))) ∧ Ex B1 B' ∧ Dj B' (upd M Dl (.dK (dkV (dE kf ds i)))), ⟨vs.length, Nat.zero_le _, rfl, B1, by rw [upd_own]; rfl, Ex.refl B1, dj_own d1 (jn_free hD).1⟩, fun i m H' hW => ?_⟩
  obtain ⟨hle, rfl, B', rfl, e, dj⟩ := hW
  have hB' : B' Dl = none := dj_free dj upd_same
  have djM : Dj B' M := fun a u q => by
    have := dj a u q
    by_cases z : a = Dl
    · rw [z]; exact hM
    · rw [upd_ne z] at this; exact this
  have hS : SqL K (jn B' (upd M Dl (.dK (dkV (dE kf ds i))))) a vs := by
    refine sq_of ?_
    have hne : a ≠ Dl := fun z => by rw [z, hD] at hh; cases hh
    unfold jn at hh ⊢
    rw [upd_ne hne]
    cases z : M a with
    | some u => rw [z] at hh; exact hh
    | none => rw [z] at hh; exact e _ _ hh
  by_cases z : i < vs.length
  · refine .inr ⟨⟨vs, vs[i], hS, List.getElem?_eq_getElem z⟩, fun H' => ∃ B', H' = jn B' (upd M Dl (.dK (dkV (dE kf ds (i + 1))))) ∧ Ex B1 B' ∧ Dj B' (upd M Dl (.dK (dkV (dE kf ds (i + 1))))), fun H' p => ⟨vs.length - (i + 1), by omega, by omega, rfl, p⟩, fun v H' hy => ?_⟩
    obtain ⟨t, x, rfl, ht, rfl, hx⟩ := hy
    obtain ⟨d, hd, px⟩ := DqAll_getV q1 (hx vs hS)
    rw [upd_new ht]
    refine ⟨t, _, rfl, st_of (jn_B (dj_new dj ht) upd_same), rfl, _, _, rfl, _, _, rfl, rfl, ?_⟩
    refine ⟨wipe_two2 σ hjl _ _, ?_⟩
    have et : Ex B' (upd B' t (.tup [V.int i, x])) := ex_new ht
    have djt : Dj (upd B' t (.tup [V.int i, x])) (upd M Dl (.dK (dkV (dE kf ds i)))) := dj_new dj ht
    have H2 : Holds M0 (GvE G j l i d) (((L2.wipe σ [j, l]).set j (some (V.int i))).set l (some x)) (upd B' t (.tup [V.int i, x])) (upd M Dl (.dK (dkV (dE kf ds i)))) := by
      have h1 := ((((H.ext e1 d1).ext e djM).wipes [j, l]).more (p := Dl) (o := .dK (dkV (dE kf ds i))) (show jn B' M Dl = none by rw [jn_N hM]; exact hB')).ext et djt
      have h2 := h1.setIm (n := j) (v := V.int i) (P := isD (.int (i : Int))) (by show j < ((G.set l .no).set j .no).length; rw [List.length_set, List.length_set]; exact hj) (.int _)
      exact h2.setIm (by rw [List.length_set]; show l < ((G.set l .no).set j .no).length; rw [List.length_set, List.length_set]; exact hl) (Dq_ex (e.trans et) d x px)
    refine tyes_ite ?_
    refine hk i d hd M0 _ _ _ H2 _ fun y B4 e4 d4 p4 => ?_
    have hjj : (((L2.wipe σ [j, l]).set j (some (V.int i))).set l (some x))[j]? = some (some (V.int i)) := by
      rw [List.getElem?_set_ne (Ne.symm hjl)]
      exact List.getElem?_set_self (by show j < ((σ.set l none).set j none).length; rw [List.length_set, List.length_set, H.len]; exact hj)
    refine ⟨_, hjj, dkV (dE kf ds i), Sum.inl (kf d), dp_int p4, jn_M upd_same, ?_, ?_⟩
    · have := dE_len kf ds i
      unfold dkV
      rw [List.length_map, sizeLine_eq]
      omega
    · have ed : ds.getD i .none = d := by rw [List.getD_eq_getElem?_getD, hd]; rfl
      refine ⟨B4, ?_, (e.trans et).trans e4, ?_⟩
      · rw [upd_own, upd_upd, put_dkV]
        show _ = jn B4 (upd M Dl (.dK (dkV (putI (dE kf ds i) (kf (ds.getD i .none)) i))))
        rw [ed]
      · intro b u q
        have := d4 b u q
        by_cases z : b = Dl
        · rw [z, upd_same] at this; cases this
        · rw [upd_ne z] at this ⊢; exact this
  · have ei : i = vs.length := by omega
    subst ei
    refine .inl ⟨⟨vs, hS, Nat.le_refl _⟩, ?_⟩
    show D.nx (σ.set n (some (.ref Dl))) _
    rw [jn_push hM, hlen]
    have hDn : jn B' M Dl = none := by rw [jn_N hM]; exact hB'
    have eN : Ex B' (upd B' Dl (.dK (dkV (dE kf ds ds.length)))) := ex_new hDn
    rw [hlen] at dj
    have djN : Dj (upd B' Dl (.dK (dkV (dE kf ds ds.length)))) M := dj_push dj hM
    exact q _ _ M ((e1.trans e).trans eN) ((((H.ext e1 d1).ext e djM).ext eN djN).setIm hn ⟨Dl, rfl, upd_same⟩)
end
end Mini

namespace Mini
open PySem L2 Evl PyProof.Rows
section
variable {K : PySem.W.Frag} {E : L2.St → XK} {G : Gm} {te : TE} {n : Nat} {i j : Int}
/-- x += e -/
theorem ss_aug (h : G[n]? = some (.im (isD (.int i)))) (he : Sv te G (isD (.int j))) : Ss E (tAug n te (ipI fun i j => i + j)) G (.nx (G.set n (.im (isD (.int (i + j)))))) := fun M0 D σ B M H q => by
  obtain ⟨v, a, b⟩ := H.im n _ h
  refine ⟨v, a, he M0 σ B M H _ fun y B1 e1 d1 p1 => ?_⟩
  refine ⟨i, j, dp_int b, dp_int p1, ?_⟩
  exact q _ B1 M e1 ((H.ext e1 d1).setIm (List.getElem?_eq_some_iff.mp h).1 (.int _))
end
theorem cut_mid {α : Type} (ds : List α) {a b : Int} (h0 : 0 ≤ a) (h1 : a ≤ b) (h2 : a ≤ ds.length) : cutD ds (some a) (some b) = (ds.drop a.toNat).take (b - a).toNat := by
  unfold cutD
  obtain ⟨n, rfl⟩ := Int.eq_ofNat_of_zero_le h0
  obtain ⟨m, rfl⟩ := Int.eq_ofNat_of_zero_le (Int.le_trans h0 h1)
  rw [HT.sIx_nat, HT.sIx_nat, Int.toNat_natCast, Nat.min_eq_left (show n ≤ ds.length by omega)]
  have e : ((m : Int) - (n : Int)).toNat = m - n := by omega
  rw [e]
  by_cases h : m ≤ ds.length
  · rw [Nat.min_eq_left h]
  · rw [Nat.min_eq_right (by omega), List.take_of_length_le (by rw [List.length_drop]; omega), List.take_of_length_le (by rw [List.length_drop]; omega)]
/-! a step that is made as long as it can be -/
def itS {S : Type} (f : S → Option S) (s : S) : Nat → S
  | 0 => s
  | i + 1 => match f (itS f s i) with
    | some s' => s'
    | none => itS f s i
theorem itS_cons {S : Type} {f : S → Option S} {s s' : S} (h : f s = some s') : ∀ i, itS f s (i + 1) = itS f s' i
  | 0 => by show (match f s with | some s' => s' | none => s) = s'; rw [h]
  | i + 1 => by
    show (match f (itS f s (i + 1)) with | some s' => s' | none => itS f s (i + 1)) = _
    rw [itS_cons h i]
    rfl
def runS {S R : Type} (f : S → Option S) (fin : S → R) (d : R) : Nat → S → R
  | 0, _ => d
  | n + 1, s => match f s with
    | some s' => runS f fin d n s'
    | none => fin s
theorem run_stop {S R : Type} {f : S → Option S} {fin : S → R} {d : R} (μ : S → Nat) (hμ : ∀ s s', f s = some s' → μ s' < μ s) : ∀ (n : Nat) (s : S), μ s < n → ∃ N, N ≤ μ s ∧ (∀ i, i < N → ∃ s', f (itS f s i) = some s' ∧ itS f s (i + 1) = s') ∧ f (itS f s N) = none ∧ runS f fin d n s = fin (itS f s N)
  | 0, s, h => absurd h (Nat.not_lt_zero _)
  | n + 1, s, h => by
    cases e : f s with
    | none => exact ⟨0, Nat.zero_le _, fun i hi => absurd hi (Nat.not_lt_zero _), e, by show (match f s with | some s' => runS f fin d n s' | none => fin s) = _; rw [e]; rfl⟩
    | some s' =>
      have hlt := hμ s s' e
      obtain ⟨N, h0, h1, h2, h3⟩ := run_stop μ hμ n s' (by omega)
      refine ⟨N + 1, by omega, fun i hi => ?_, by rw [itS_cons e]; exact h2, by rw [itS_cons e]; show (match f s with | some s' => runS f fin d n s' | none => fin s) = _; rw [e]; exact h3⟩
      cases i with
      | zero => exact ⟨s', e, by rw [itS_cons e]; rfl⟩
      | succ i =>
        rw [itS_cons e, itS_cons e]
        exact h1 i (by omega)
end Mini
namespace Mini
open PySem L2 Evl PyProof.Rows
section
variable {K : PySem.W.Frag} {E : L2.St → XK} {G : Gm} {ta tb : TE} {P : Ty} {ds : List PyData} {i j : Nat}
/-- a, b = (a new list, a value), through a tuple -/
theorem ss_tup2 (ha : Svl ta G ds) (hb : Sv tb G P) (hi : i < G.length := by exact Nat.le_of_ble_eq_true rfl) (hj : j < G.length := by exact Nat.le_of_ble_eq_true rfl) :
    Ss E (tAsg (tTup (tCons ta (tCons tb tNil))) (gTup K 2 (gCons (gName i) (gCons (gName j) gNil)))) G (.nx ((G.set i (.ow (isL ds))).set j (.im P))) := fun M0 D σ B M H q =>
  ha M0 σ B M H _ fun p vs B1 e1 d1 hf ha1 => by
    rw [upd_own]
    have H1 := (H.ext e1 d1).more (p := p) (o := .lst vs) hf
    refine hb M0 σ B1 _ H1 _ fun v B2 e2 d2 p2 => ?_
    have hM1 := (jn_free hf).2
    have b1 : B2 p = none := dj_free d2 upd_same
    have djM : Dj B2 M := fun a u z => by
      have w := d2 a u z
      by_cases y1 : a = p
      · rw [y1] at z; rw [b1] at z; cases z
      · rw [upd_ne y1] at w; exact w
    have K1 : Holds M0 (G.set i (.ow (isL ds))) (σ.set i (some (.ref p))) B2 (upd M p (.lst vs)) := ((H.ext e1 d1).ext e2 djM).setOw hi (by rw [jn_N hM1]; exact b1) ⟨vs, rfl, DqAll_ex e2 ha1⟩
    have K2 := K1.setIm (n := j) (v := v) (P := P) (by rw [List.length_set]; exact hj) p2
    refine ⟨by show 2 ≤ sizeLine; decide, fun t ht => ?_⟩
    rw [upd_new ht]
    refine ⟨t, _, rfl, st_of (jn_B (dj_new K2.dj ht) upd_same), rfl, _, _, rfl, _, _, rfl, rfl, ?_⟩
    exact q _ _ _ ((e1.trans e2).trans (ex_new ht)) (K2.ext (ex_new ht) (dj_new K2.dj ht))
end
end Mini

namespace Mini
open PySem L2 Evl PyProof.Rows
section
variable {K : PySem.W.Frag} {E : L2.St → XK} {G : Gm} {te ta tb tl : TE} {n : Nat} {i j l : Nat} {d d1 d2 d3 e : PyData} {ds es : List PyData} {ns : List Int} {k : Int} {b c : Bool}
/-! in, is True, str(n), tuple(range(n)) -/
theorem inV_ints (k : Int) (ns : List Int) : inV (.int k) (ns.map V.int) = decide (k ∈ ns) := by
  unfold inV
  induction ns with
  | nil => rfl
  | cons a ns ih =>
    rw [List.map_cons, List.any_cons, ih]
    show ((a == k) || decide (k ∈ ns)) = _
    by_cases e : a = k
    · subst e; simp
    · have e' : ¬ k = a := fun z => e z.symm
      simp [e, e']
theorem sv_inT (ha : Sv ta G (isD (.int k))) (hb : Sv tb G (isD (.tuple (ns.map .int)))) : Sv (tOp (rIn K false) ta tb) G (isD (.bool (decide (k ∈ ns)))) := fun M0 σ B M H Q q =>
  ha M0 σ B M H _ fun x B1 e1 d1 p1 => hb M0 σ B1 M (H.ext e1 d1) _ fun y B2 e2 d2 p2 => by
    rw [dp_int p1]
    obtain ⟨a, vs, rfl, h1, h2⟩ := dq_tup p2
    rw [DqAll_ints h2] at h1
    refine ⟨a, ns.map V.int, rfl, .inr (st_of (jn_B d2 h1)), rfl, ?_, ?_⟩
    · rw [List.all_eq_true]
      intro v hv
      obtain ⟨m, _, rfl⟩ := List.mem_map.mp hv
      rfl
    · rw [inV_ints]
      exact q _ B2 (e1.trans e2) d2 (.bl _)
abbrev rIsBl : R2 := fun x y H Q => ∃ a b, x = .bl a ∧ y = .bl b ∧ Q (.bl (decide (a = b))) H
theorem sv_isBl (ha : Sv ta G (isD (.bool b))) (hb : Sv tb G (isD (.bool c))) : Sv (tOp rIsBl ta tb) G (isD (.bool (decide (b = c)))) := fun M0 σ B M H Q q =>
  ha M0 σ B M H _ fun x B1 e1 d1 p1 => hb M0 σ B1 M (H.ext e1 d1) _ fun y B2 e2 d2 p2 => ⟨b, c, dp_bool p1, dp_bool p2, q _ B2 (e1.trans e2) d2 (.bl _)⟩
abbrev cStr : List V → Hp → VK → Prop := fun xs H Q => ∃ i, xs = [.int i] ∧ i.natAbs.log2 < 1920 ∧ Q (.str (toString i)) H
theorem sv_strI (ha : Sv ta G (isD (.int k))) (hk : k.natAbs.log2 < 1920) : Sv (tCB cStr (tCons ta tNil)) G (isD (.str (toString k))) := fun M0 σ B M H Q q =>
  ha M0 σ B M H _ fun x B1 e1 d1 p1 => ⟨k, by rw [dp_int p1], hk, q _ B1 e1 d1 (.str _)⟩
theorem sv_tupRg (ha : Sv ta G (isD (.int k))) (h0 : 0 ≤ k) (h1 : k ≤ 16777216) : Sv (tTupRg (tRg1 ta)) G (isD (.tuple ((List.range k.toNat).map fun i : Nat => PyData.int (i : Int)))) := fun M0 σ B M H Q q =>
  ha M0 σ B M H _ fun x B1 e1 d1 p1 => ⟨k, dp_int p1, RgOk.of_le (by omega) (by omega) (by omega) h0, fun t ht => by
    have e : rgV 0 k = ((List.range k.toNat).map fun i : Nat => (i : Int)).map V.int := by
      unfold rgV
      rw [Int.sub_zero, List.map_map]
      apply List.map_congr_left
      intro i _
      show V.int (0 + (i : Int)) = V.int (i : Int)
      rw [Int.zero_add]
    rw [upd_new ht, e]
    refine q _ _ (e1.trans (ex_new ht)) (dj_new d1 ht) (.tup upd_same ?_)
    have h := DqAll_ofInts (H := upd B1 t (.tup (((List.range k.toNat).map fun i : Nat => (i : Int)).map V.int))) ((List.range k.toNat).map fun i : Nat => (i : Int))
    have e5 : ((List.range k.toNat).map fun i : Nat => (i : Int)).map PyData.int = (List.range k.toNat).map fun i : Nat => PyData.int (i : Int) := by rw [List.map_map]; rfl
    rw [e5] at h
    exact h⟩
/-! a, b, c = a tuple; xs().append(e) of a new list that nobody holds -/
theorem ss_unpT3 (h : Sv te G (isD (.tuple [d1, d2, d3]))) (hi : i < G.length := by exact Nat.le_of_ble_eq_true rfl) (hj : j < G.length := by exact Nat.le_of_ble_eq_true rfl) (hl : l < G.length := by exact Nat.le_of_ble_eq_true rfl) :
    Ss E (tAsg te (gTup K 3 (gCons (gName i) (gCons (gName j) (gCons (gName l) gNil))))) G (.nx (((G.set i (.im (isD d1))).set j (.im (isD d2))).set l (.im (isD d3)))) := fun M0 D σ B M H q => by
  refine h M0 σ B M H _ fun v B' e dj p => ?_
  obtain ⟨a, vs, rfl, h1, h2⟩ := dq_tup p
  cases h2 with
  | cons p1 h2 => cases h2 with
    | cons p2 h2 => cases h2 with
      | cons p3 h2 =>
        cases h2
        refine ⟨a, _, rfl, st_of (jn_B dj h1), rfl, _, _, rfl, _, _, rfl, _, _, rfl, rfl, ?_⟩
        exact q _ B' M e ((((H.ext e dj).setIm (P := isD d1) hi p1).setIm (P := isD d2) (by rw [List.length_set]; exact hj) p2).setIm (P := isD d3) (by rw [List.length_set, List.length_set]; exact hl) p3)
theorem ss_unpT2 (h : Sv te G (isD (.tuple [d1, d2]))) (hi : i < G.length := by exact Nat.le_of_ble_eq_true rfl) (hj : j < G.length := by exact Nat.le_of_ble_eq_true rfl) :
    Ss E (tAsg te (gTup K 2 (gCons (gName i) (gCons (gName j) gNil)))) G (.nx ((G.set i (.im (isD d1))).set j (.im (isD d2)))) := fun M0 D σ B M H q => by
  refine h M0 σ B M H _ fun v B' e dj p => ?_
  obtain ⟨a, vs, rfl, h1, h2⟩ := dq_tup p
  cases h2 with
  | cons p1 h2 => cases h2 with
    | cons p2 h2 =>
      cases h2
      refine ⟨a, _, rfl, st_of (jn_B dj h1), rfl, _, _, rfl, _, _, rfl, rfl, ?_⟩
      exact q _ B' M e (((H.ext e dj).setIm (P := isD d1) hi p1).setIm (P := isD d2) (by rw [List.length_set]; exact hj) p2)
theorem ss_appT (h : Svl tl G ds) (he : Sv te G (isD e)) (hz : ds.length < sizeLine) : Ss E (tDrop (tBM K "list" rAppend tl (tCons te tNil))) G (.nx G) := fun M0 D σ B M H q => by
  refine h M0 σ B M H _ fun p vs B1 e1 d1 hf ha => ?_
  rw [upd_own]
  refine ⟨Or.inl ⟨rfl, vs, sq_of (jn_M upd_same)⟩, ?_⟩
  have H1 := (H.ext e1 d1).more (p := p) (o := .lst vs) hf
  refine he M0 σ B1 _ H1 _ fun v B2 e2 d2 p2 => ?_
  refine ⟨p, vs, v, rfl, rfl, jn_M upd_same, by rw [DqAll_len ha]; exact hz, ?_⟩
  rw [upd_own]
  have djM : Dj B2 M := fun a u z => by
    have w := d2 a u z
    by_cases y1 : a = p
    · subst y1; exact (jn_free hf).2
    · rw [upd_ne y1] at w; exact w
  have hfp : jn B2 M p = none := by rw [jn_N (jn_free hf).2]; exact dj_free d2 upd_same
  have e3 : upd (upd M p (.lst vs)) p (.lst (vs ++ [v])) = upd M p (.lst (vs ++ [v])) := by
    funext a
    by_cases y1 : a = p
    · subst y1; rw [upd_same, upd_same]
    · rw [upd_ne y1, upd_ne y1, upd_ne y1]
  rw [e3]
  exact q σ B2 _ (e1.trans e2) (((H.ext e1 d1).ext e2 djM).more hfp)
end
end Mini

namespace Mini
open PySem L2 Evl PyProof.Rows
theorem eqvB (a b : Bool) : PyData.eqv (.bool a) (.bool b) = decide (a = b) := by cases a <;> cases b <;> decide +kernel
theorem shapedB (a : Bool) : SeqAt.shaped (.bool a) = true := by cases a <;> decide +kernel
theorem eqvInt (a b : Int) : PyData.eqv (.int a) (.int b) = decide (a = b) := by
  unfold PyData.eqv
  by_cases h : a = b
  · simp [h]
  · simp [h]
theorem shapedI (a : Int) : SeqAt.shaped (.int a) = true := by simp [SeqAt.shaped, PyData.canLay0, PyData.depth]
section
variable {K : PySem.W.Frag} {E : L2.St → XK} {G : Gm} {te ta tb tl : TE} {b c : Bool} {i j : Int} {a a' : List Int} {ds es : List PyData}
/-- tests that compare with what is due -/
theorem neB (h1 : Sv ta G (isD (.bool b))) (h2 : Sv tb G (isD (.bool c))) (e : b = c) : St' (tTest (tOp (rNeD K) ta tb)) G false := st_is (st_test (sv_ne h1 h2 (shapedB _) (shapedB _))) (by rw [eqvB, decide_eq_true e]; rfl)
theorem neM (h1 : Sv ta G (isD (.int i))) (h2 : Sv tb G (isD (.int j))) (e : i = j) : St' (tTest (tOp (rNeD K) ta tb)) G false := st_is (st_test (sv_neI h1 h2)) (by simp [e])
theorem neT (h1 : Sv ta G (isD (.tuple (a.map .int)))) (h2 : Sv tb G (isD (.tuple (a'.map .int)))) (e : a = a') : St' (tTest (tOp (rNeD K) ta tb)) G false := st_is (st_test (sv_ne h1 h2 (shaped_tints a) (shaped_tints a'))) (by rw [eqv_tints, decide_eq_true e]; rfl)
theorem neLI (h1 : Sv ta G (isD (.list (a.map .int)))) (h2 : Sv tb G (isD (.list (a'.map .int)))) (e : a = a') : St' (tTest (tOp (rNeD K) ta tb)) G false := st_is (st_test (sv_ne h1 h2 (shaped_ints a) (shaped_ints a'))) (by rw [eqv_ints, decide_eq_true e]; rfl)
theorem neD {d : PyData} (h1 : Sv ta G (isD d)) (h2 : Sv tb G (isD d)) (hs : SeqAt.shaped d = true) : St' (tTest (tOp (rNeD K) ta tb)) G false := st_is (st_test (sv_ne h1 h2 hs hs)) (by rw [SeqAt.eqv_refl d (SeqAt.canLay_of_shaped hs)]; rfl)
end
/-- all that come of tests with the index -/
def fil (f : Nat → Bool) (n : Nat) : List Nat := (List.range n).filter f
theorem fil_succ (f : Nat → Bool) (n : Nat) : fil f (n + 1) = if f n = true then fil f n ++ [n] else fil f n := by
  unfold fil
  rw [List.range_succ, List.filter_append]
  by_cases h : f n = true
  · simp [h]
  · simp [h]
end Mini

namespace Mini
open PySem L2 Evl PyProof.Rows
theorem dl_nd : ∀ (l acc : List Int), acc.Nodup → (l.foldl (fun acc x => if acc.any (fun y => y == x) = true then acc else acc ++ [x]) acc).length = acc.length + l.length → (acc ++ l).Nodup
  | [], acc, h, _ => by rw [List.append_nil]; exact h
  | x :: l, acc, h, e => by
    rw [List.foldl_cons] at e
    have hle : ∀ (l acc : List Int), (l.foldl (fun acc x => if acc.any (fun y => y == x) = true then acc else acc ++ [x]) acc).length ≤ acc.length + l.length := by
      intro l
      induction l with
      | nil => intro acc; simp
      | cons a l ih =>
        intro acc
        rw [List.foldl_cons]
        split
        · have := ih acc; rw [List.length_cons]; omega
        · have := ih (acc ++ [a]); rw [List.length_append, List.length_singleton] at this; rw [List.length_cons]; omega
    by_cases c : (acc.any fun y => y == x) = true
    · rw [if_pos c] at e
      have := hle l acc
      rw [e, List.length_cons] at this
      omega
    · rw [if_neg c] at e
      have hx : x ∉ acc := fun z => c (by rw [dl_any]; exact decide_eq_true z)
      have hnd : (acc ++ [x]).Nodup := by
        rw [List.nodup_append]
        refine ⟨h, by simp, fun a ha b hb => ?_⟩
        rw [List.mem_singleton] at hb
        rw [hb]
        exact fun z => hx (z ▸ ha)
      have := dl_nd l (acc ++ [x]) hnd (by rw [e, List.length_append, List.length_singleton, List.length_cons]; omega)
      rw [List.append_assoc] at this
      exact this
theorem nd_dl : ∀ (l acc : List Int), (acc ++ l).Nodup → (l.foldl (fun acc x => if acc.any (fun y => y == x) = true then acc else acc ++ [x]) acc).length = acc.length + l.length
  | [], acc, _ => by simp
  | x :: l, acc, h => by
    rw [List.foldl_cons]
    have hx : x ∉ acc := fun z => by
      rw [List.nodup_append] at h
      exact h.2.2 x z x List.mem_cons_self rfl
    have c : ¬ (acc.any fun y => y == x) = true := by rw [dl_any]; exact fun z => hx (of_decide_eq_true z)
    rw [if_neg c, nd_dl l (acc ++ [x]) (by rw [List.append_assoc]; exact h), List.length_append, List.length_singleton, List.length_cons]
    omega
theorem nd_get {l : List Int} (h : l.Nodup) {i j : Nat} (hi : i < l.length) (hj : j < l.length) (e : l[i] = l[j]) : i = j := by
  have p := List.pairwise_iff_getElem.mp h
  rcases Nat.lt_trichotomy i j with z | z | z
  · exact absurd e (p i j hi hj z)
  · exact z
  · exact absurd e.symm (p j i hj hi z)
end Mini

namespace Mini
open PySem L2 Evl PyProof.Rows
/-! ### xs[a::c] of a list -/
def placesI (n : Nat) (i c : Int) : List Nat := sliceRange (sliceBounds (some i) none (some c) n).1 (sliceBounds (some i) none (some c) n).2.1 (sliceBounds (some i) none (some c) n).2.2
def stepL {α : Type} (xs : List α) (i c : Int) : List α := (placesI xs.length i c).filterMap fun j => xs[j]?
theorem step_pick (xs : List Value) (i c : Int) : slicePick xs.toArray (some i) none (some c) = (stepL xs i c).toArray := by
  unfold slicePick stepL placesI
  rw [List.size_toArray]
  congr 1
  refine congrArg (fun f => List.filterMap f _) (funext fun x => ?_)
  rw [List.getElem?_toArray]
theorem placesI_len (n : Nat) {i c : Int} (hc : 0 < c) : (placesI n i c).length ≤ n := by
  have e : placesI n i c = sliceRange (max 0 (min (if i < 0 then i + (n : Int) else i) (n : Int))) n c := by
    unfold placesI sliceBounds
    simp only [Option.getD_some, gt_iff_lt, hc, if_true]
  rw [e]
  unfold sliceRange
  rw [List.length_map, List.length_range, if_pos hc]
  generalize hb : max 0 (min (if i < 0 then i + (n : Int) else i) (n : Int)) = b
  have hb0 : 0 ≤ b := by rw [← hb]; omega
  have hbn : b ≤ n := by rw [← hb]; omega
  by_cases h : b < (n : Int)
  · rw [if_pos h]
    have h1 := ceilDiv_le ((n : Int) - b) c (by omega) (by omega)
    omega
  · rw [if_neg h]; simp
theorem filterMap_len {α β : Type} (f : α → Option β) (l : List α) : (l.filterMap f).length ≤ l.length := List.length_filterMap_le f l
theorem vals_step {vs : List V} {us : List Value} (r : Vals vs us) (l : List Nat) : Vals (l.filterMap fun j => vs[j]?) (l.filterMap fun j => us[j]?) := by
  induction l with
  | nil => exact .nil
  | cons j l ih =>
    rw [List.filterMap_cons, List.filterMap_cons]
    cases e : vs[j]? with
    | none =>
      have e2 : us[j]? = none := by
        rw [List.getElem?_eq_none_iff] at e ⊢
        rw [← r.length]; exact e
      rw [e2]; exact ih
    | some v =>
      obtain ⟨u, e2, ru⟩ := r.get e
      rw [e2]; exact .cons ru ih
theorem DqAll_step {B : Hp} {ds : List PyData} {vs : List V} (h : DqAll B vs ds) (l : List Nat) : DqAll B (l.filterMap fun j => vs[j]?) (l.filterMap fun j => ds[j]?) := by
  induction l with
  | nil => exact .nil
  | cons j l ih =>
    rw [List.filterMap_cons, List.filterMap_cons]
    cases e : ds[j]? with
    | none =>
      have e2 : vs[j]? = none := by
        rw [List.getElem?_eq_none_iff] at e ⊢
        rw [DqAll_len h]; exact e
      rw [e2]; exact ih
    | some d =>
      obtain ⟨v, e2, q⟩ := DqAll_get h e
      rw [e2]; exact .cons q ih
def tStep (K : PySem.W.Frag) (te ta tc : TE) : TE := fun σ H Q => te σ H fun x H1 => tPart ta σ H1 fun lo H2 => tPart tc σ H2 fun st H3 => ∃ a xs i c, x = .ref a ∧ lo = some i ∧ st = some c ∧ 0 < c ∧ SqL K H3 a xs ∧ ∀ p, H3 p = none → Q (.ref p) (upd H3 p (.lst (stepL xs i c)))
theorem pe_step {X : Cx} {K : PySem.W.Frag} {e ea ec : Expr} {te ta tc : TE} {p3 pos : Pos} (he : PE X e te) (ha : PE X ea ta) (hc : PE X ec tc) (hK : X.K = K := by rfl) : PE X (.Subscript e (.Slice (some ea) none (some ec) p3) pos) (tStep K te ta tc) := by
  subst hK
  refine ⟨fun pins s σ H Q I h => ?_⟩
  refine Subscript_ (thn (he.run pins s σ H _ I h) fun v s1 ⟨x, H1, I1, r1, q1⟩ => ?_)
  refine wpAny_Slice (thn ((po_some ha).run pins s1 σ H1 _ I1 q1) fun vl s2 ⟨l, H2, I2, pl, q2⟩ => ?_)
  refine thn (po_none.run pins s2 σ H2 (fun o H3 => o = none ∧ H3 = H2) I2 ⟨rfl, rfl⟩) fun vu s3 ⟨u, H3, I3, pu, eu, e3⟩ => ?_
  subst eu e3
  refine thn ((po_some hc).run pins s3 σ H3 _ I3 q2) fun vs s4 ⟨o, H4, I4, ps, a, xs, y, c, ex, el, eo, hc0, hx, q⟩ => ?_
  subst el
  subst eo ex
  cases r1
  have I5 : Inv X pins σ H4 { s4 with heap := s4.heap.push { cls := .type "slice", data := .fields #[vl, vu, vs] } } := I4.kept (t' := s4.toks) fun b ob q => Heap.get?_push_of_some _ q
  obtain ⟨its, r, ht, hz⟩ := I5.list hx
  have hlen := r.length
  show wpAny (model X.prog X.w) X.A (subscriptTail e (.Slice (some ea) none (some ec) p3) (.ref a) (.ref s4.heap.objs.size)) (EP X pins σ Q) X.xe { s4 with heap := s4.heap.push { cls := .type "slice", data := .fields #[vl, vu, vs] } }
  refine tail_any (ops := [.ref a, .ref s4.heap.objs.size]) ht.isList.typeIs (PySem.slot_list_getitem.lookup) ?_ (by with_unfolding_all rfl)
  refine wpAny_getItem_list_slice ht.isList (Heap.IsSliceOf.new _ vl vu vs) pl pu ps (by intro z; cases z; omega) ?_ (by rw [List.size_toArray]; omega)
  rw [step_pick]
  refine ⟨.ref _, _, I5.laid (t' := s4.toks) (o := .lst (stepL xs y c)) (fun b ob q => Heap.get?_push_of_some _ q) (Nat.le_refl _) ?_, rfl, q _ (I5.hok.fresh (Nat.le_refl _))⟩
  have hsl : (stepL xs y c).length ≤ xs.length := Nat.le_trans (filterMap_len _ _) (placesI_len _ hc0)
  have hvv : Vals (stepL xs y c) (stepL its y c) := by
    unfold stepL
    rw [hlen]
    exact vals_step r _
  exact ⟨Nat.le_trans hsl hz, _, 0, hvv, Heap.get?_push_size _ rfl⟩
section
variable {K : PySem.W.Frag} {G : Gm} {te ta tc : TE} {ds : List PyData} {i c : Int}
theorem svl_step (h : Rl te G ds) (ha : Sv ta G (isD (.int i))) (hc : Sv tc G (isD (.int c))) (h0 : 0 < c) : Svl (tStep K te ta tc) G (stepL ds i c) := fun M0 σ B M H Q q =>
  h M0 σ B M H _ fun a vs B1 e1 d1 hh q1 => ha M0 σ B1 M (H.ext e1 d1) _ fun y B2 e2 d2 p2 => ⟨i, dp_int p2, hc M0 σ B2 M ((H.ext e1 d1).ext e2 d2) _ fun z B3 e3 d3 p3 => ⟨c, dp_int p3, by
    have hh3 : jn B3 M a = some (.lst vs) := jn_mono (e2.trans e3) d3 a _ hh
    refine ⟨a, vs, i, c, rfl, rfl, rfl, h0, sq_of hh3, fun p hp => q p _ B3 ((e1.trans e2).trans e3) d3 hp ?_⟩
    have q3 := DqAll_ex (e2.trans e3) q1
    unfold stepL
    rw [DqAll_len q3]
    exact DqAll_step q3 _⟩⟩
end
/-- a column of a table of s rows of k -/
theorem placesI_col {s k i : Nat} (hi : i < k) : placesI (s * k) i k = (List.range s).map fun j => i + k * j := by
  unfold placesI sliceBounds sliceRange
  have hk : (0 : Int) < (k : Int) := by omega
  simp only [Option.getD_some, gt_iff_lt, hk, if_true]
  rw [if_neg (show ¬ ((i : Int) < 0) by omega)]
  cases s with
  | zero =>
    rw [Nat.zero_mul]
    have e : max 0 (min (i : Int) ((0 : Nat) : Int)) = 0 := by omega
    rw [e]; rfl
  | succ s =>
    have hm : k ≤ (s + 1) * k := by rw [Nat.succ_mul]; omega
    have e : max 0 (min (i : Int) (((s + 1) * k : Nat) : Int)) = i := by omega
    rw [e, if_pos (by omega)]
    have ec : ((((s + 1) * k : Nat) : Int) - i + k - 1) / (k : Int) = ((s + 1 : Nat) : Int) := by
      have h1 : (((s + 1) * k : Nat) : Int) = ((s + 1 : Nat) : Int) * (k : Int) := Int.natCast_mul _ _
      rw [h1]
      have h2 : ((s + 1 : Nat) : Int) * (k : Int) - i + k - 1 = (k - 1 - i) + ((s + 1 : Nat) : Int) * (k : Int) := by omega
      rw [h2, Int.add_mul_ediv_right _ _ (by omega), Int.ediv_eq_zero_of_lt (by omega) (by omega), Int.zero_add]
    rw [ec, Int.toNat_natCast]
    refine List.map_congr_left fun j _ => ?_
    rw [← Int.natCast_mul, ← Int.natCast_add, Int.toNat_natCast]
theorem step_col {xs : List Int} {s k i : Nat} (hi : i < k) (hl : xs.length = s * k) : stepL xs i k = (List.range s).map fun j => xs.getD (i + k * j) 0 := by
  unfold stepL
  rw [hl, placesI_col hi]
  rw [List.filterMap_map]
  have h : ∀ j ∈ List.range s, ((fun j => xs[j]?) ∘ fun j => i + k * j) j = some (xs.getD (i + k * j) 0) := fun j hj => by
    have hj := List.mem_range.mp hj
    have hb : i + k * j < xs.length := by
      rw [hl]
      have h1 : (j + 1) * k ≤ s * k := Nat.mul_le_mul_right k (by omega)
      rw [Nat.succ_mul, Nat.mul_comm j k] at h1
      omega
    show xs[i + k * j]? = _
    rw [List.getD_eq_getElem?_getD, List.getElem?_eq_getElem hb]; rfl
  have f : ∀ (l : List Nat), (∀ j ∈ l, ((fun j => xs[j]?) ∘ fun j => i + k * j) j = some (xs.getD (i + k * j) 0)) → l.filterMap ((fun j => xs[j]?) ∘ fun j => i + k * j) = l.map fun j => xs.getD (i + k * j) 0 := by
    intro l
    induction l with
    | nil => intro _; rfl
    | cons a l ih => intro g; rw [List.filterMap_cons, g a List.mem_cons_self, List.map_cons, ih fun j hj => g j (List.mem_cons_of_mem _ hj)]
  exact f _ h
theorem step_map {α β : Type} (f : α → β) (xs : List α) (i c : Int) : stepL (xs.map f) i c = (stepL xs i c).map f := by
  unfold stepL
  rw [List.length_map, List.map_filterMap]
  refine congrArg (fun g => List.filterMap g _) (funext fun x => ?_)
  rw [List.getElem?_map]
end Mini

namespace Mini
open PySem L2 Evl PyProof.Rows
/-! ### two loops in a comprehension, over whatever is walked -/
def WkOk (J : It) (B : Hp) (ds : List PyData) : Prop := ∀ B2 M2, Ex B B2 → Dj B2 M2 → (∀ i, ds.length ≤ i → J.stop i (jn B2 M2)) ∧ (∀ i, i < ds.length → J.go i (jn B2 M2)) ∧ ∀ i x H', i < ds.length → J.yld i (jn B2 M2) x H' → H' = jn B2 M2 ∧ ∃ d, ds[i]? = some d ∧ Dq B2 x d
def Wk (wi : TI) (G : Gm) (ds : List PyData) : Prop := ∀ (M0 : Hp) (σ : L2.St) (B M : Hp), Holds M0 G σ B M → ∀ R : It → Hp → Prop, (∀ J B', Ex B B' → Dj B' M → WkOk J B' ds → R J (jn B' M)) → wi σ (jn B M) R
section
variable {K : PySem.W.Frag} {G : Gm} {te tl : TE} {wi wi1 : TI} {j l : Nat} {ds : List PyData} {n : Int}
theorem wk_list (h : Sv tl G (isD (.list ds))) : Wk (iList K tl) G ds := fun M0 σ B M H R q => h M0 σ B M H _ fun v B1 e1 d1 p1 => by
  obtain ⟨a, vs, rfl, hh, q1⟩ := dq_lst p1
  have hlen := DqAll_len q1
  refine ⟨a, rfl, ⟨vs, sq_of (jn_B d1 hh)⟩, q _ B1 e1 d1 fun B2 M2 e2 d2 => ?_⟩
  have hS : SqL K (jn B2 M2) a vs := sq_of (jn_B d2 (e2 _ _ hh))
  refine ⟨fun i hi => ⟨vs, hS, by omega⟩, fun i hi => ⟨vs, vs[i]'(by omega), hS, List.getElem?_eq_getElem (by omega)⟩, fun i x H' hi hy => ?_⟩
  obtain ⟨rfl, hx⟩ := hy
  obtain ⟨d, hd, px⟩ := DqAll_getV q1 (hx vs hS)
  exact ⟨rfl, d, hd, Dq_ex e2 d x px⟩
theorem wk_tup (h : Sv tl G (isD (.tuple ds))) : Wk (iTup K tl) G ds := fun M0 σ B M H R q => h M0 σ B M H _ fun v B1 e1 d1 p1 => by
  obtain ⟨a, vs, rfl, hh, q1⟩ := dq_tup p1
  have hlen := DqAll_len q1
  refine ⟨a, rfl, ⟨vs, st_of (jn_B d1 hh)⟩, q _ B1 e1 d1 fun B2 M2 e2 d2 => ?_⟩
  have hS : SqT K (jn B2 M2) a vs := st_of (jn_B d2 (e2 _ _ hh))
  refine ⟨fun i hi => ⟨vs, hS, by omega⟩, fun i hi => ⟨vs, vs[i]'(by omega), hS, List.getElem?_eq_getElem (by omega)⟩, fun i x H' hi hy => ?_⟩
  obtain ⟨rfl, hx⟩ := hy
  obtain ⟨d, hd, px⟩ := DqAll_getV q1 (hx vs hS)
  exact ⟨rfl, d, hd, Dq_ex e2 d x px⟩
theorem wk_rng (h : Sv te G (isD (.int n))) (h1 : n ≤ 2 ^ 60) (h0 : -(2 ^ 60) ≤ n) : Wk (iRng1 (tCons te tNil)) G ((List.range n.toNat).map fun i : Nat => .int (i : Int)) := fun M0 σ B M H R q => h M0 σ B M H _ fun v B1 e1 d1 p1 => by
  refine ⟨n, by rw [dp_int p1], by omega, by omega, q _ B1 e1 d1 fun B2 M2 e2 d2 => ?_⟩
  rw [List.length_map, List.length_range]
  refine ⟨fun i hi => hi, fun i hi => hi, fun i x H' hi hy => ?_⟩
  obtain ⟨rfl, rfl⟩ := hy
  refine ⟨rfl, .int (i : Int), ?_, ?_⟩
  · rw [List.getElem?_map, List.getElem?_range hi]; rfl
  · rw [Int.zero_add]; exact .int _
theorem svl_lc2 (h : Wk wi G ds) (es : PyData → List PyData) (y : PyData → PyData → PyData) (hj : j < G.length) (hl : l < G.length) (hjl : j ≠ l) (hz : (ds.flatMap fun d => (es d).map (y d)).length < 10000000) (hi : ∀ d ∈ ds, Wk wi1 (Gv2 G j l d) (es d)) (he : ∀ d ∈ ds, ∀ f ∈ es d, Sv te (Gv (Gv2 G j l d) l f) (isD (y d f))) :
    Svl (tLc2 wi (gName j) tYes wi1 (gName l) tYes te [j, l] [l]) G (ds.flatMap fun d => (es d).map (y d)) := fun M0 σ B M H Q q => h M0 σ B M H _ fun J B1 e1 d1 w1 Dl hD => by
  have hM := (jn_free hD).2
  let F : PyData → List PyData := fun d => (es d).map (y d)
  refine ⟨fun i m H' => i ≤ ds.length ∧ m = ds.length - i ∧ Pvc B1 M Dl (fun i => (ds.take i).flatMap F) i H', ⟨ds.length, Nat.zero_le _, rfl, B1, [], by rw [upd_own], Ex.refl B1, dj_own d1 (jn_free hD).1, .nil⟩, fun i m H' hW => ?_⟩
  obtain ⟨hle, rfl, B', acc, rfl, e, dj, ha⟩ := hW
  have hB' : B' Dl = none := dj_free dj upd_same
  have djM : Dj B' M := fun a u q => by
    have := dj a u q
    by_cases z : a = Dl
    · rw [z]; exact hM
    · rw [upd_ne z] at this; exact this
  obtain ⟨w1s, w1g, w1y⟩ := w1 B' (upd M Dl (.lst acc)) e dj
  by_cases z : i < ds.length
  · refine .inr ⟨w1g i z, fun H' => Pvc B1 M Dl (fun i => (ds.take i).flatMap F) (i + 1) H', fun H' p => ⟨ds.length - (i + 1), by omega, by omega, rfl, p⟩, fun x H' hy => ?_⟩
    obtain ⟨rfl, d, hd, px⟩ := w1y i x H' z hy
    refine ⟨wipe_two σ hjl x, ?_⟩
    have H2 : Holds M0 (Gv2 G j l d) ((L2.wipe σ [j, l]).set j (some x)) B' (upd M Dl (.lst acc)) := by
      have h1 := (((H.ext e1 d1).ext e djM).wipes [j, l]).more (p := Dl) (o := .lst acc) (show jn B' M Dl = none by rw [jn_N hM]; exact hB')
      exact h1.setIm (by show j < ((G.set l .no).set j .no).length; rw [List.length_set, List.length_set]; exact hj) px
    refine tyes_ite ?_
    refine hi d (List.mem_of_getElem? hd) M0 _ _ _ H2 _ fun J4 B4 e4 d4 w4 => ?_
    have hlt : ((ds.take (i + 1)).flatMap F) = (ds.take i).flatMap F ++ F d := by rw [List.take_succ, hd, List.flatMap_append]; simp
    have hFl : (F d).length = (es d).length := List.length_map _
    have htot : ((ds.take i).flatMap F).length + (F d).length < 10000000 := by
      rw [← List.length_append, ← hlt]
      have e2 : ds.flatMap F = (ds.take (i + 1)).flatMap F ++ (ds.drop (i + 1)).flatMap F := by rw [← List.flatMap_append, List.take_append_drop]
      have hz' : (ds.flatMap F).length < 10000000 := hz
      rw [e2, List.length_append] at hz'
      omega
    refine ⟨fun r k H' => r ≤ (es d).length ∧ k = (es d).length - r ∧ ∃ B5 acc5, H' = jn B5 (upd M Dl (.lst acc5)) ∧ Ex B4 B5 ∧ Dj B5 (upd M Dl (.lst acc5)) ∧ DqAll B5 acc5 ((ds.take i).flatMap F ++ (F d).take r), ⟨(es d).length, Nat.zero_le _, rfl, B4, acc, rfl, Ex.refl _, d4, ?_⟩, fun r k H' hW1 => ?_⟩
    · rw [List.take_zero, List.append_nil]
      exact DqAll_ex e4 ha
    obtain ⟨hr, rfl, B5, acc5, rfl, e5, dj5, ha5⟩ := hW1
    obtain ⟨w4s, w4g, w4y⟩ := w4 B5 (upd M Dl (.lst acc5)) e5 dj5
    have hB5 : B5 Dl = none := dj_free dj5 upd_same
    have djM5 : Dj B5 M := fun a u q => by
      have := dj5 a u q
      by_cases z : a = Dl
      · rw [z]; exact hM
      · rw [upd_ne z] at this; exact this
    by_cases zr : r < (es d).length
    · refine .inr ⟨w4g r zr, fun H' => ∃ B5 acc5, H' = jn B5 (upd M Dl (.lst acc5)) ∧ Ex B4 B5 ∧ Dj B5 (upd M Dl (.lst acc5)) ∧ DqAll B5 acc5 ((ds.take i).flatMap F ++ (F d).take (r + 1)), fun H' p => ⟨(es d).length - (r + 1), by omega, by omega, rfl, p⟩, fun x1 H' hy1 => ?_⟩
      obtain ⟨rfl, f, hf, py⟩ := w4y r x1 H' zr hy1
      refine ⟨wipe_one _ l x1, ?_⟩
      refine tyes_ite ?_
      have e15 : Ex B1 B5 := (e.trans e4).trans e5
      have H5 : Holds M0 (Gv2 G j l d) ((L2.wipe σ [j, l]).set j (some x)) B5 (upd M Dl (.lst acc5)) := by
        have h1 := (((H.ext e1 d1).ext e15 djM5).wipes [j, l]).more (p := Dl) (o := .lst acc5) (show jn B5 M Dl = none by rw [jn_N hM]; exact hB5)
        exact h1.setIm (by show j < ((G.set l .no).set j .no).length; rw [List.length_set, List.length_set]; exact hj) (Dq_ex (e4.trans e5) d x px)
      have H6 : Holds M0 (Gv (Gv2 G j l d) l f) ((L2.wipe ((L2.wipe σ [j, l]).set j (some x)) [l]).set l (some x1)) B5 (upd M Dl (.lst acc5)) :=
        (H5.wipes [l]).setIm (by show l < ((((G.set l .no).set j .no).set j (.im (isD d))).set l .no).length; rw [List.length_set, List.length_set, List.length_set, List.length_set]; exact hl) py
      refine he d (List.mem_of_getElem? hd) f (List.mem_of_getElem? hf) M0 _ _ _ H6 _ fun v B7 e7 d7 p7 => ?_
      refine ⟨acc5, jn_M upd_same, ?_, ?_⟩
      · rw [DqAll_len ha5, List.length_append, List.length_take, sizeLine_eq]; omega
      · rw [upd_own, upd_upd]
        refine ⟨B7, acc5 ++ [v], rfl, e5.trans e7, ?_, ?_⟩
        · intro a u q
          have := d7 a u q
          by_cases z : a = Dl
          · rw [z, upd_same] at this; cases this
          · rw [upd_ne z] at this ⊢; exact this
        · have hFr : (F d)[r]? = some (y d f) := by show ((es d).map (y d))[r]? = _; rw [List.getElem?_map, hf]; rfl
          rw [List.take_succ, hFr, ← List.append_assoc]
          exact DqAll_append (DqAll_ex e7 ha5) (.cons p7 .nil)
    · have er : r = (es d).length := by omega
      subst er
      refine .inl ⟨w4s _ (Nat.le_refl _), B5, acc5, rfl, (e.trans e4).trans e5, dj5, ?_⟩
      show DqAll B5 acc5 ((ds.take (i + 1)).flatMap F)
      rw [hlt]
      rw [← hFl, List.take_length] at ha5
      exact ha5
  · have ei : i = ds.length := by omega
    subst ei
    refine .inl ⟨w1s _ (Nat.le_refl _), ?_⟩
    refine lc_end (es := fun i => (ds.take i).flatMap F) (i := ds.length) hM (Ex.refl _) (fun p us B2 e2 dj2 hf hv => ?_) _ ⟨B', acc, rfl, e, dj, ha⟩
    rw [List.take_length] at hv
    exact q p us B2 (e1.trans e2) dj2 hf hv
end
/-! ### what stands where in lists put together -/
theorem flat_len {α : Type} {f : Nat → List α} {L : Nat} (hf : ∀ q, (f q).length = L) : ∀ s : Nat, ((List.range s).flatMap f).length = s * L
  | 0 => by simp
  | s + 1 => by rw [List.range_succ, List.flatMap_append, List.length_append, flat_len hf s, Nat.succ_mul]; simp [hf]
theorem flat_get {α : Type} {f : Nat → List α} {L : Nat} (hf : ∀ q, (f q).length = L) (d : α) {q k : Nat} (hk : k < L) : ∀ s : Nat, q < s → ((List.range s).flatMap f).getD (q * L + k) d = (f q).getD k d
  | 0, h => by omega
  | s + 1, h => by
    rw [List.range_succ, List.flatMap_append]
    have hl := flat_len hf s
    by_cases z : q < s
    · have hb : q * L + k < s * L := by
        have : (q + 1) * L ≤ s * L := Nat.mul_le_mul_right L z
        rw [Nat.succ_mul] at this
        omega
      rw [List.getD_eq_getElem?_getD, List.getElem?_append_left (by rw [hl]; exact hb), ← List.getD_eq_getElem?_getD]
      exact flat_get hf d hk s z
    · have e : q = s := by omega
      subst e
      rw [List.getD_eq_getElem?_getD, List.getElem?_append_right (by rw [hl]; omega), hl]
      have e2 : q * L + k - q * L = k := by omega
      rw [e2]
      simp
end Mini

namespace Mini
open PySem L2 Evl PyProof.Rows
theorem pe_tupleOfK {X : Cx} {K : PySem.W.Frag} {a : Expr} {ta : TE} {p pos : Pos} (hg : Gl X "tuple") (hm : X.mg "tuple" = none) (ha : PE X a ta) (na : starEach [a] X.env = (false, eval a X.env) :: starEach [] X.env := by rfl) (hK : X.K = K := by rfl) : PE X (.Call (.Name "tuple" p) [a] [] pos) (tThen ta (kTup K)) := by
  subst hK
  exact pe_tupleOf hg hm ha na
/-- a comprehension within a comprehension -/
theorem blkOk_in {N : List Str} {scope sc0 scD : Scope} {own : List (Str × Nat)} {env : Env} (hs : env.scope = scD) (h : blkC N (relabel sc0 (envOfC "" scD 0 0 .none)) scope own = true) : BlkOk N (relabel sc0 env) scope own := by
  have e : relabel sc0 env = relabel sc0 (envOfC "" scD 0 0 .none) := by
    unfold relabel Env.kindOf
    rw [hs]
    rfl
  rw [e]
  exact blkOk_by h
end Mini

namespace Mini
open PySem L2 Evl PyProof.Rows
section
variable {K : PySem.W.Frag} {E : L2.St → XK} {tu ts : TS} {te tl ta tb : TE} {tt : TT} {G : Gm} {o : Out} {ds es : List PyData} {n lo hi : Int} {j l : Nat}
/-- for i, x in enumerate(a list that stays) -/
theorem ss_forE (h : Sv tl G (isD (.list ds))) (Gi : Nat → Gm) (N : Nat) (hN : N ≤ ds.length) (h0 : Le G (Gi 0)) (hj : ∀ i, i ≤ N → j < (Gi i).length) (hl : ∀ i, i ≤ N → l < (Gi i).length)
    (hs : ∀ i d, ds[i]? = some d → i < N → Turn E tu (((Gi i).set j (.im (isD (.int (i : Int))))).set l (.im (isD d))) (Gi (i + 1)))
    (hd : EndsAs E tu Gi (fun i => ((Gi i).set j (.im (isD (.int (i : Int))))).set l (.im (isD (ds.getD i .none)))) N ds.length o) :
    Ss E (tFor (iEnum K (tCons tl tNil)) (gTup K 2 (gCons (gName j) (gCons (gName l) gNil))) tu) G o := fun M0 D σ B M H q =>
  h M0 σ B M H _ fun v B1 e1 d1 p1 => by
    obtain ⟨a, vs, rfl, ha, hv⟩ := dq_lst p1
    have hlen := DqAll_len hv
    refine ⟨a, vs, rfl, sq_of (jn_B d1 ha), ?_⟩
    refine ⟨fun i m σ H => m = vs.length - i ∧ i ≤ vs.length ∧ Pvl M0 B1 Gi N i σ H, ⟨vs.length, by simp, Nat.zero_le _, Nat.zero_le _, B1, M, rfl, Ex.refl B1, (H.ext e1 d1).le h0⟩, ?_⟩
    rintro i m σ' H1 ⟨rfl, hi, p⟩
    obtain ⟨hiN, B', M', rfl, e, H'⟩ := p
    have hS : SqL K (jn B' M') a vs := sq_of (jn_B H'.dj (e _ _ ha))
    by_cases hlt : i < vs.length
    · refine .inr ⟨⟨vs, vs[i], hS, List.getElem?_eq_getElem hlt⟩, Pvl M0 B1 Gi N (i + 1), fun σ' H' p' => ⟨vs.length - (i + 1), by omega, rfl, hlt, p'⟩, fun x H2 y => ?_⟩
      obtain ⟨t, x, rfl, ht, rfl, hx⟩ := y
      obtain ⟨d, hd1, px⟩ := DqAll_getV hv (hx vs hS)
      rw [upd_new ht]
      have dj2 := dj_new (o := .tup [.int (i : Nat), x]) H'.dj ht
      have ex2 := ex_new (o := .tup [.int (i : Nat), x]) ht
      refine ⟨t, _, rfl, st_of (jn_B dj2 upd_same), rfl, _, _, rfl, _, _, rfl, rfl, ?_⟩
      have HH := ((H'.ext ex2 dj2).setIm (hj i hiN) (P := isD (.int (i : Int))) (v := .int (i : Int)) (Dq.int _)).setIm (n := l) (P := isD d) (v := x) (by rw [List.length_set]; exact hl i hiN) (Dq_ex (e.trans ex2) d x px)
      refine turn_ok (o := o) hiN HH (e.trans ex2) (fun w => hs i d hd1 w) (fun w => ?_) (q.ext e1)
      rcases hd with ⟨b, _⟩ | ⟨_, b⟩
      · omega
      · have z : ds.getD N .none = d := by rw [← w, List.getD_eq_getElem?_getD, hd1]; rfl
        dsimp only at b
        rw [z, ← w] at b
        exact b
    · refine .inl ⟨⟨vs, hS, by omega⟩, ?_⟩
      rcases hd with ⟨b, c⟩ | ⟨b, _⟩
      · rw [c] at q
        have ei : i = N := by omega
        rw [ei] at H'
        exact q σ' B' M' (e1.trans e) H'
      · omega
/-- min(m, n) -/
theorem sv_min2 {i k : Int} (ha : Sv ta G (isD (.int i))) (hb : Sv tb G (isD (.int k))) : Sv (tCB (fun xs H Q => ∃ i j, xs = [.int i, .int j] ∧ Q (.int (if j < i then j else i)) H) (tCons ta (tCons tb tNil))) G (isD (.int (if k < i then k else i))) := fun M0 σ B M H Q q => ha M0 σ B M H _ fun x B1 e1 d1 p1 => hb M0 σ B1 M (H.ext e1 d1) _ fun y B2 e2 d2 p2 =>
  ⟨i, k, by rw [dp_int p1, dp_int p2], q _ B2 (e1.trans e2) d2 (.int _)⟩
end
end Mini

namespace Mini
open PySem L2 Evl PyProof.Rows
/-! ### data that may stand in the module's own top -/
def KT (K : PySem.W.Frag) (a : Addr) (xs : List V) : Prop := ∃ (o : Obj) (its : Array Value) (n : Nat), K.lookup a = some o ∧ o.cls = .type "tuple" ∧ o.data = .seq its n ∧ its.size ≤ sizeLine ∧ Vals xs its.toList
theorem KT.st {K : PySem.W.Frag} {a : Addr} {xs : List V} (h : KT K a xs) (H : Hp) : SqT K H a xs := Or.inr h
mutual
inductive DqK (K : PySem.W.Frag) (H : Hp) : V → PyData → Prop
  | non : DqK K H .non .none
  | bl (b : Bool) : DqK K H (.bl b) (.bool b)
  | int (i : Int) : DqK K H (.int i) (.int i)
  | str (x : Str) : DqK K H (.str x) (.str x)
  | lst {a : Addr} {xs : List V} {ds : List PyData} : H a = some (.lst xs) → DqKA K H xs ds → DqK K H (.ref a) (.list ds)
  | tup {a : Addr} {xs : List V} {ds : List PyData} : (H a = some (.tup xs) ∨ KT K a xs) → DqKA K H xs ds → DqK K H (.ref a) (.tuple ds)
inductive DqKA (K : PySem.W.Frag) (H : Hp) : List V → List PyData → Prop
  | nil : DqKA K H [] []
  | cons {v : V} {vs : List V} {d : PyData} {ds : List PyData} : DqK K H v d → DqKA K H vs ds → DqKA K H (v :: vs) (d :: ds)
end
theorem DqK_ex {K : PySem.W.Frag} {H H' : Hp} (e : Ex H H') : ∀ (d : PyData) (v : V), DqK K H v d → DqK K H' v d
  | .none, _, h => by cases h; exact .non
  | .bool b, _, h => by cases h; exact .bl b
  | .int i, _, h => by cases h; exact .int i
  | .str x, _, h => by cases h; exact .str x
  | .list ds, _, h => by
    cases h with
    | lst hs ha => exact .lst (e _ _ hs) (go e ds _ ha)
  | .tuple ds, _, h => by
    cases h with
    | tup hs ha => exact .tup (hs.imp (e _ _) id) (go e ds _ ha)
  | .dict _, _, h => by cases h
where
  go {K : PySem.W.Frag} {H H' : Hp} (e : Ex H H') : ∀ (ds : List PyData) (vs : List V), DqKA K H vs ds → DqKA K H' vs ds
  | [], _, h => by cases h; exact .nil
  | d :: ds, _, h => by
    cases h with
    | cons a b => exact .cons (DqK_ex e d _ a) (go e ds _ b)
theorem Dq_K {K : PySem.W.Frag} {H : Hp} : ∀ (d : PyData) (v : V), Dq H v d → DqK K H v d
  | .none, _, h => by cases h; exact .non
  | .bool b, _, h => by cases h; exact .bl b
  | .int i, _, h => by cases h; exact .int i
  | .str x, _, h => by cases h; exact .str x
  | .list ds, _, h => by
    cases h with
    | lst hs ha => exact .lst hs (go ds _ ha)
  | .tuple ds, _, h => by
    cases h with
    | tup hs ha => exact .tup (.inl hs) (go ds _ ha)
  | .dict _, _, h => by cases h
where
  go {K : PySem.W.Frag} {H : Hp} : ∀ (ds : List PyData) (vs : List V), DqAll H vs ds → DqKA K H vs ds
  | [], _, h => by cases h; exact .nil
  | d :: ds, _, h => by
    cases h with
    | cons a b => exact .cons (Dq_K d _ a) (go ds _ b)
theorem DqKA_len {K : PySem.W.Frag} {H : Hp} : ∀ {ds : List PyData} {vs : List V}, DqKA K H vs ds → vs.length = ds.length
  | [], _, h => by cases h; rfl
  | d :: ds, _, h => by cases h with | cons a b => simp [DqKA_len b]
theorem DqKA_get {K : PySem.W.Frag} {H : Hp} : ∀ {ds : List PyData} {vs : List V} {i : Nat} {d : PyData}, DqKA K H vs ds → ds[i]? = some d → ∃ v, vs[i]? = some v ∧ DqK K H v d
  | [], _, i, d, h, e => by simp at e
  | x :: ds, _, 0, d, h, e => by
    cases h with | cons a b => simp at e; subst e; exact ⟨_, rfl, a⟩
  | x :: ds, _, i + 1, d, h, e => by
    cases h with | cons a b => simpa using DqKA_get (i := i) b (by simpa using e)
/-- what is a whole number, a truth, a text or nothing -/
def AtomP : PyData → Prop
  | .int _ => True
  | .bool _ => True
  | .none => True
  | .str s => PyData.strOk s = true
  | _ => False
def isP (K : PySem.W.Frag) (d : PyData) : Ty := ⟨fun v B => DqK K B v d, fun e h => DqK_ex e d _ h⟩
section
variable {K : PySem.W.Frag} {E : L2.St → XK} {G : Gm} {te ta tb tl : TE} {tas : TA} {d : PyData} {ds es : List PyData} {i : Int} {b : Bool}
theorem sv_pD (h : Sv te G (isD d)) : Sv te G (isP K d) := fun M0 σ B M H Q q => h M0 σ B M H Q fun v B' e dj p => q v B' e dj (Dq_K d v p)
theorem sv_pA (ha : AtomP d) (h : Sv te G (isP K d)) : Sv te G (isD d) := fun M0 σ B M H Q q => h M0 σ B M H Q fun v B' e dj p => q v B' e dj (by
  have p : DqK K B' v d := p
  show Dq B' v d
  cases d with
  | none => cases p; exact .non
  | bool b => cases p; exact .bl b
  | int i => cases p; exact .int i
  | str x => cases p; exact .str x
  | _ => exact absurd ha (by simp [AtomP]))
theorem sv_pS {e : PyData} (h : Sv te G (isP K d)) (q : d = e) : Sv te G (isP K e) := q ▸ h
theorem sv_pK {v : V} (h : ∀ B, DqK K B v d) : Sv (tC v) G (isP K d) := sv_cV h
theorem jn_st {B M : Hp} {a : Addr} {xs : List V} (dj : Dj B M) (h : B a = some (.tup xs) ∨ KT K a xs) : SqT K (jn B M) a xs := by
  rcases h with h | h
  · exact st_of (jn_B dj h)
  · exact h.st _
theorem sv_lenP (ha : Sv ta G (isP K (.tuple ds))) : Sv (tCB (fun xs H Q => ∃ x n, xs = [x] ∧ LenV K x H n ∧ Q (.int n) H) (tCons ta tNil)) G (isD (.int ds.length)) := fun M0 σ B M H Q q => ha M0 σ B M H _ fun x B1 e1 d1 p1 => by
  cases (show DqK K B1 x (.tuple ds) from p1) with
  | tup hs hh => exact ⟨_, ds.length, rfl, .inr ⟨_, jn_st d1 hs, (DqKA_len hh).symm⟩, q _ B1 e1 d1 (.int _)⟩
theorem sv_lenPL (ha : Sv ta G (isP K (.list ds))) : Sv (tCB (fun xs H Q => ∃ x n, xs = [x] ∧ LenV K x H n ∧ Q (.int n) H) (tCons ta tNil)) G (isD (.int ds.length)) := fun M0 σ B M H Q q => ha M0 σ B M H _ fun x B1 e1 d1 p1 => by
  cases (show DqK K B1 x (.list ds) from p1) with
  | lst hs hh => exact ⟨_, ds.length, rfl, .inl ⟨_, sq_of (jn_B d1 hs), (DqKA_len hh).symm⟩, q _ B1 e1 d1 (.int _)⟩
theorem DqKA_atI {B : Hp} {vs : List V} (h : DqKA K B vs ds) {i : Int} (e : atI ds i = some d) : ∃ v, atI vs i = some v ∧ DqK K B v d := by
  unfold atI at e ⊢
  rw [DqKA_len h]
  cases q : ixN ds.length i with
  | none => rw [q] at e; cases e
  | some j => rw [q] at e; exact DqKA_get h e
theorem sv_ixP (ha : Sv ta G (isP K (.tuple ds))) (hb : Sv tb G (isD (.int i))) (hi : atI ds i = some d) : Sv (tOp (rIx K) ta tb) G (isP K d) := fun M0 σ B M H Q q =>
  ha M0 σ B M H _ fun x B1 e1 d1 p1 => hb M0 σ B1 M (H.ext e1 d1) _ fun y B2 e2 d2 p2 => by
    cases (show DqK K B2 x (.tuple ds) from (isP K (.tuple ds)).mono e2 p1) with
    | tup hs hh =>
      rw [dp_int p2]
      obtain ⟨v, h1, h2⟩ := DqKA_atI hh hi
      exact .inr (.inl ⟨_, _, i, v, rfl, rfl, jn_st d2 hs, h1, q v B2 (e1.trans e2) d2 h2⟩)
theorem sv_ixPL (ha : Sv ta G (isP K (.list ds))) (hb : Sv tb G (isD (.int i))) (hi : atI ds i = some d) : Sv (tOp (rIx K) ta tb) G (isP K d) := fun M0 σ B M H Q q =>
  ha M0 σ B M H _ fun x B1 e1 d1 p1 => hb M0 σ B1 M (H.ext e1 d1) _ fun y B2 e2 d2 p2 => by
    cases (show DqK K B2 x (.list ds) from (isP K (.list ds)).mono e2 p1) with
    | lst hs hh =>
      rw [dp_int p2]
      obtain ⟨v, h1, h2⟩ := DqKA_atI hh hi
      exact .inl ⟨_, _, i, v, rfl, rfl, sq_of (jn_B d2 hs), h1, q v B2 (e1.trans e2) d2 h2⟩
theorem DqK_ty {H : Hp} {v : V} (h : DqK K H v d) : TyX K H v (.type (tyName d)) := by
  cases h with
  | non => exact .base .non
  | bl b => exact .base (.bl b)
  | int i => exact .base (.int i)
  | str x => exact .base (.str x)
  | lst e _ => exact .base (.lst e)
  | tup e _ =>
    rcases e with e | ⟨o, its, n, e, c, _⟩
    · exact .base (.tup e)
    · exact .kTuple e c
theorem sv_isiP {n : String} (ha : Sv ta G (isP K d)) (hb : Sv tb G (isV (.ty n))) (h : kitB (tyName d) n = some b) : Sv (tCB (rIsi K) (tCons ta (tCons tb tNil))) G (isD (.bool b)) := fun M0 σ B M H Q q =>
  ha M0 σ B M H _ fun x B1 e1 d1 p1 => hb M0 σ B1 M (H.ext e1 d1) _ fun y B2 e2 d2 p2 => ⟨x, y, _, _, b, rfl, by rw [show y = .ty n from p2]; exact .ty n, DqK_ty (DqK_ex (e2.trans (jn_ex d2)) d x p1), kit_ty h, q _ B2 (e1.trans e2) d2 (.bl _)⟩
theorem sv_isTupP (ha : Sv ta G (isP K d)) : Sv (tCB (rIsi K) (tCons ta (tCons (tC (.ty "tuple")) tNil))) G (isD (.bool (dTup d))) := sv_isiP ha sv_val (kit_tup d)
theorem sv_isLstP (ha : Sv ta G (isP K d)) : Sv (tCB (rIsi K) (tCons ta (tCons (tC (.ty "list")) tNil))) G (isD (.bool (dLst d))) := sv_isiP ha sv_val (kit_lst d)
theorem arsP {B M : Hp} : ∀ {ds : List PyData} {vs : List V}, ArsOk (ds.map fun d => .im (isP K d)) vs B M → DqKA K B vs ds
  | [], _, h => by cases h; exact .nil
  | d :: ds, _, h => by cases h with | cons a b => exact .cons a (arsP b)
theorem sv_tupP (h : Sa tas G (ds.map fun d => .im (isP K d))) (hz : ds.length ≤ sizeLine) : Sv (tTup tas) G (isP K (.tuple ds)) := fun M0 σ B M H Q q => h M0 σ B M H _ fun vs B1 e1 d1 p1 => by
  have p2 := arsP p1
  refine ⟨by rw [DqKA_len p2]; exact hz, fun t ht => ?_⟩
  rw [upd_new ht]
  exact q _ _ (e1.trans (ex_new ht)) (dj_new d1 ht) (.tup (.inl upd_same) (DqK_ex.go (ex_new ht) ds vs p2))
theorem sa_pms {tr : TA} (h : Sv te G (isP K d)) (hr : Sa tr G (ds.map fun d => .im (isP K d))) : Sa (tCons te tr) G ((d :: ds).map fun d => .im (isP K d)) := sa_im h hr
end
end Mini

namespace Mini
open PySem L2 Evl PyProof.Rows
section
variable {K : PySem.W.Frag} {E : L2.St → XK} {G : Gm} {td ty tl tk : TE} {j l n : Nat} {k : Int} {kvs : List (Int × Int)} {ds : List PyData}
/-- {e: k for k, x in enumerate(xs)}, not stored -/
theorem sv_dcE (h : Rl tl G ds) (kf : PyData → Int) (hj : j < G.length) (hl : l < G.length) (hjl : j ≠ l) (hz : ds.length < 1000000) (hk : ∀ i d, ds[i]? = some d → Sv tk (GvE G j l i d) (isD (.int (kf d)))) :
    Sv (tDc (iEnum K (tCons tl tNil)) (gTup K 2 (gCons (gName j) (gCons (gName l) gNil))) tYes tk (tVar j) [j, l]) G (isDi (dE kf ds ds.length)) := fun M0 σ B M H Q q => h M0 σ B M H _ fun a vs B1 e1 d1 hh q1 => by
  have hlen := DqAll_len q1
  refine ⟨a, vs, rfl, sq_of hh, fun Dl hD => ?_⟩
  have hM := (jn_free hD).2
  refine ⟨fun i m H' => i ≤ vs.length ∧ m = vs.length - i ∧ ∃ B', H' = jn B' (upd M Dl (.dK (dkV (dE kf ds i)))) ∧ Ex B1 B' ∧ Dj B' (upd M Dl (.dK (dkV (dE kf ds i)))), ⟨vs.length, Nat.zero_le _, rfl, B1, by rw [upd_own]; rfl, Ex.refl B1, dj_own d1 (jn_free hD).1⟩, fun i m H' hW => ?_⟩
  obtain ⟨hle, rfl, B', rfl, e, dj⟩ := hW
  have hB' : B' Dl = none := dj_free dj upd_same
  have djM : Dj B' M := fun a u q => by
    have := dj a u q
    by_cases z : a = Dl
    · rw [z]; exact hM
    · rw [upd_ne z] at this; exact this
  have hS : SqL K (jn B' (upd M Dl (.dK (dkV (dE kf ds i))))) a vs := by
    refine sq_of ?_
    have hne : a ≠ Dl := fun z => by rw [z, hD] at hh; cases hh
    unfold jn at hh ⊢
    rw [upd_ne hne]
    cases z : M a with
    | some u => rw [z] at hh; exact hh
    | none => rw [z] at hh; exact e _ _ hh
  by_cases z : i < vs.length
  · refine .inr ⟨⟨vs, vs[i], hS, List.getElem?_eq_getElem z⟩, fun H' => ∃ B', H' = jn B' (upd M Dl (.dK (dkV (dE kf ds (i + 1))))) ∧ Ex B1 B' ∧ Dj B' (upd M Dl (.dK (dkV (dE kf ds (i + 1))))), fun H' p => ⟨vs.length - (i + 1), by omega, by omega, rfl, p⟩, fun v H' hy => ?_⟩
    obtain ⟨t, x, rfl, ht, rfl, hx⟩ := hy
    obtain ⟨d, hd, px⟩ := DqAll_getV q1 (hx vs hS)
    rw [upd_new ht]
    refine ⟨t, _, rfl, st_of (jn_B (dj_new dj ht) upd_same), rfl, _, _, rfl, _, _, rfl, rfl, ?_⟩
    refine ⟨wipe_two2 σ hjl _ _, ?_⟩
    have et : Ex B' (upd B' t (.tup [V.int i, x])) := ex_new ht
    have djt : Dj (upd B' t (.tup [V.int i, x])) (upd M Dl (.dK (dkV (dE kf ds i)))) := dj_new dj ht
    have H2 : Holds M0 (GvE G j l i d) (((L2.wipe σ [j, l]).set j (some (V.int i))).set l (some x)) (upd B' t (.tup [V.int i, x])) (upd M Dl (.dK (dkV (dE kf ds i)))) := by
      have h1 := ((((H.ext e1 d1).ext e djM).wipes [j, l]).more (p := Dl) (o := .dK (dkV (dE kf ds i))) (show jn B' M Dl = none by rw [jn_N hM]; exact hB')).ext et djt
      have h2 := h1.setIm (n := j) (v := V.int i) (P := isD (.int (i : Int))) (by show j < ((G.set l .no).set j .no).length; rw [List.length_set, List.length_set]; exact hj) (.int _)
      exact h2.setIm (by rw [List.length_set]; show l < ((G.set l .no).set j .no).length; rw [List.length_set, List.length_set]; exact hl) (Dq_ex (e.trans et) d x px)
    refine tyes_ite ?_
    refine hk i d hd M0 _ _ _ H2 _ fun y B4 e4 d4 p4 => ?_
    have hjj : (((L2.wipe σ [j, l]).set j (some (V.int i))).set l (some x))[j]? = some (some (V.int i)) := by
      rw [List.getElem?_set_ne (Ne.symm hjl)]
      exact List.getElem?_set_self (by show j < ((σ.set l none).set j none).length; rw [List.length_set, List.length_set, H.len]; exact hj)
    refine ⟨_, hjj, dkV (dE kf ds i), Sum.inl (kf d), dp_int p4, jn_M upd_same, ?_, ?_⟩
    · have := dE_len kf ds i
      unfold dkV
      rw [List.length_map, sizeLine_eq]
      omega
    · have ed : ds.getD i .none = d := by rw [List.getD_eq_getElem?_getD, hd]; rfl
      refine ⟨B4, ?_, (e.trans et).trans e4, ?_⟩
      · rw [upd_own, upd_upd, put_dkV]
        show _ = jn B4 (upd M Dl (.dK (dkV (putI (dE kf ds i) (kf (ds.getD i .none)) i))))
        rw [ed]
      · intro b u q
        have := d4 b u q
        by_cases z : b = Dl
        · rw [z, upd_same] at this; cases this
        · rw [upd_ne z] at this ⊢; exact this
  · have ei : i = vs.length := by omega
    subst ei
    refine .inl ⟨⟨vs, hS, Nat.le_refl _⟩, ?_⟩
    rw [jn_push hM, hlen]
    have hDn : jn B' M Dl = none := by rw [jn_N hM]; exact hB'
    have eN : Ex B' (upd B' Dl (.dK (dkV (dE kf ds ds.length)))) := ex_new hDn
    rw [hlen] at dj
    have djN : Dj (upd B' Dl (.dK (dkV (dE kf ds ds.length)))) M := dj_push dj hM
    exact q _ _ ((e1.trans e).trans eN) djN ⟨Dl, rfl, upd_same⟩
end
/-- a tuple of the module's own top -/
def KTD (K : PySem.W.Frag) (a : Addr) (xs : List V) : Prop := ∃ (its : Array Value) (n : Nat) (sl : Array (Option Value)), K.lookup a = some ⟨.type "tuple", none, .seq its n, sl⟩ ∧ its.size ≤ sizeLine ∧ Vals xs its.toList
theorem KTD.kt {K : PySem.W.Frag} {a : Addr} {xs : List V} (h : KTD K a xs) : KT K a xs := by
  obtain ⟨its, n, sl, h1, h2, h3⟩ := h
  exact ⟨_, its, n, h1, rfl, rfl, h2, h3⟩
theorem KTD.ty {K : PySem.W.Frag} {a : Addr} {xs : List V} (h : KTD K a xs) (H : Hp) : tyV K "tuple" (.ref a) H := by
  obtain ⟨its, n, sl, h1, h2, h3⟩ := h
  exact .inr (.inl ⟨rfl, _, h1, rfl, rfl⟩)
/-- things of their own types in a tuple -/
def isTT (Ps : List Ty) : Ty := ⟨fun v B => ∃ a vs, v = .ref a ∧ B a = some (.tup vs) ∧ AllP B vs Ps, fun e ⟨a, vs, h1, h2, h3⟩ => ⟨a, vs, h1, e _ _ h2, h3.ext e⟩⟩
theorem ars_all {B M : Hp} : ∀ {Ps : List Ty} {vs : List V}, ArsOk (Ps.map fun P => .im P) vs B M → AllP B vs Ps
  | [], _, h => by cases h; exact .nil
  | P :: Ps, _, h => by cases h with | cons a b => exact .cons a (ars_all b)
theorem AllP.at {B : Hp} {vs : List V} {Ps : List Ty} (h : AllP B vs Ps) {i : Nat} {P : Ty} (e : Ps[i]? = some P) : ∃ v, vs[i]? = some v ∧ P.p v B := by
  induction h generalizing i with
  | nil => simp at e
  | @cons u Q us Qs a b ih =>
    cases i with
    | zero => simp at e; subst e; exact ⟨u, rfl, a⟩
    | succ i => exact ih e
section
variable {K : PySem.W.Frag} {E : L2.St → XK} {G : Gm} {te ta tb : TE} {tas : TA} {P : Ty} {Ps : List Ty} {n : Nat} {i : Int} {C : Addr} {fs : List (Str × Ty)} {f : Str} {a : Addr} {x : Str} {ys : List Str}
theorem sv_tt (h : Sa tas G (Ps.map fun P => .im P)) (hz : Ps.length ≤ sizeLine) : Sv (tTup tas) G (isTT Ps) := fun M0 σ B M H Q q => h M0 σ B M H _ fun vs B1 e1 d1 p1 => by
  have p2 := ars_all p1
  refine ⟨by rw [p2.len]; exact hz, fun t ht => ?_⟩
  rw [upd_new ht]
  exact q _ _ (e1.trans (ex_new ht)) (dj_new d1 ht) ⟨t, vs, rfl, upd_same, p2.ext (ex_new ht)⟩
theorem sv_ixTT {m : Nat} (ha : Sv ta G (isTT Ps)) (hb : Sv tb G (isD (.int i))) (hi : i = (m : Int)) (hm : Ps[m]? = some P) : Sv (tOp (rIx K) ta tb) G P := fun M0 σ B M H Q q =>
  ha M0 σ B M H _ fun x B1 e1 d1 p1 => hb M0 σ B1 M (H.ext e1 d1) _ fun y B2 e2 d2 p2 => by
    obtain ⟨a, vs, rfl, hh, q1⟩ := (isTT Ps).mono e2 p1
    rw [dp_int p2]
    obtain ⟨v, h1, h2⟩ := q1.at hm
    exact .inr (.inl ⟨a, vs, i, v, rfl, rfl, st_of (jn_B d2 hh), by rw [hi]; exact atI_nat h1, q v B2 (e1.trans e2) d2 h2⟩)
/-- self.f of an instance that is being made -/
theorem sv_fldOw {p dx : Addr} (h : G[n]? = some (.ow (owI C p dx (flds fs)))) (hf : fs.lookup f = some P) (c : Cls K C) (hn : NoAttr K C f) : Sv (tFld K (tVar n) f) G P := fun M0 σ B M H Q q => by
  obtain ⟨l, ob, a, c1, r, f1⟩ := H.ow n _ h
  obtain ⟨rfl, vs, rfl, hv, _⟩ := r
  obtain ⟨v, hl, pv⟩ := hv.look.1 P hf
  exact ⟨_, a, _, C, dx, vs, v, rfl, jn_M c1, c, hn, hl, q v B (Ex.refl B) H.dj pv⟩
theorem inV_strs (x : Str) (ys : List Str) : inV (.str x) (ys.map V.str) = decide (x ∈ ys) := by
  unfold inV
  induction ys with
  | nil => rfl
  | cons a ys ih =>
    rw [List.map_cons, List.any_cons, ih]
    show ((a == x) || decide (x ∈ ys)) = _
    by_cases e : a = x
    · subst e; simp
    · have e' : ¬ x = a := fun z => e z.symm
      simp [e, e']
/-- s not in a tuple of texts of the module's top -/
theorem sv_notInK (h : KTD K a (ys.map V.str)) (ha : Sv ta G (isD (.str x))) : Sv (tOp (rIn K true) ta (tC (.ref a))) G (isD (.bool (!decide (x ∈ ys)))) := fun M0 σ B M H Q q =>
  ha M0 σ B M H _ fun v B1 e1 d1 p1 => by
    rw [dp_str p1]
    refine ⟨a, ys.map V.str, rfl, .inr (h.kt.st _), rfl, flat_strs ys, ?_⟩
    rw [inV_strs]
    exact q _ B1 e1 d1 (.bl _)
abbrev rTupIx (K : PySem.W.Frag) : V → List V → Hp → VK → Prop := fun x xs H Q => ∃ p, ∃ ys : List Str, ∃ z j, x = .ref p ∧ xs = [.str z] ∧ SqT K H p (ys.map V.str) ∧ ys[j]? = some z ∧ (∀ m, m < j → ys[m]? ≠ some z) ∧ Q (.int (j : Nat)) H
/-- a tuple of texts' .index(s) -/
theorem sv_indexK {m : Nat} (h : KTD K a (ys.map V.str)) (ha : Sv ta G (isD (.str x))) (hm : ys[m]? = some x) (hno : ∀ k, k < m → ys[k]? ≠ some x) : Sv (tBM K "tuple" (rTupIx K) (tC (.ref a)) (tCons ta tNil)) G (isD (.int (m : Int))) := fun M0 σ B M H Q q =>
  ⟨h.ty _, ha M0 σ B M H _ fun v B1 e1 d1 p1 => by
    rw [dp_str p1]
    exact ⟨a, ys, x, m, rfl, rfl, h.kt.st _, hm, hno, q _ B1 e1 d1 (.int _)⟩⟩
end
end Mini

namespace Mini
open PySem L2 Evl PyProof.Rows
theorem tuple_mul1 (l : Addr) (items : Array Value) (n : Nat) (dd : Option Addr) (sl : Array (Option Value)) (u : Tok) :
    Meets (Builtin.«tuple.__mul__» ⟨[.ref l, .int 1 u], []⟩) (fun _ R s => s.heap.get? l = some { cls := .type "tuple", dict := dd, data := .seq items n, slots := sl } ∧
      R (.ok (.ret (Value.ref l))) s) :=
  .of_wp fun prog w A R s h => by
    obtain ⟨hp, g, d, tk, os⟩ := s
    obtain ⟨hl, h⟩ := h
    have f1 := AutoSeq1.idx_int
    have c1 : (items.isEmpty || (1 : Int) == 1) = true := by simp
    wp_walk using wpAny_loadPart' hl
    repeat (first
      | (refine wpAny_ite_false (by decide) ?_; wp_walk using wpAny_loadPart' hl)
      | (refine wpAny_ite_true (by rw [c1]) ?_; wp_walk using wpAny_loadPart' hl))
    exact ⟨_, rfl, h⟩
theorem tuple_mul0 (l : Addr) (items : Array Value) (n : Nat) (dd : Option Addr) (sl : Array (Option Value)) (u : Tok) (hne : items.isEmpty = false) :
    Meets (Builtin.«tuple.__mul__» ⟨[.ref l, .int 0 u], []⟩) (fun _ R s => s.heap.get? l = some { cls := .type "tuple", dict := dd, data := .seq items n, slots := sl } ∧
      R (.ok (.ret (Value.ref s.heap.objs.size))) { s with heap := s.heap.push { cls := Value.type "tuple", data := Data.seq #[] }, toks := s.toks }) :=
  .of_wp fun prog w A R s h => by
    obtain ⟨hp, g, d, tk, os⟩ := s
    obtain ⟨hl, h⟩ := h
    have f1 := AutoSeq1.idx_int
    have c1 : (items.isEmpty || (0 : Int) == 1) = false := by rw [hne]; rfl
    have c2 : (decide ((0 : Int) ≤ 0) || items.isEmpty) = true := by simp
    wp_walk using wpAny_loadPart' hl
    repeat (first
      | (refine wpAny_ite_false (by decide) ?_; wp_walk using wpAny_loadPart' hl)
      | (refine wpAny_ite_false (decide_eq_false (by rw [c1]; exact Bool.false_ne_true)) ?_; wp_walk using wpAny_loadPart' hl)
      | (refine wpAny_ite_true (by rw [c2]) ?_; wp_walk using wpAny_loadPart' hl))
    exact ⟨_, rfl, h⟩
section
variable {X : Cx}
/-- a tuple once, or not at all -/
def rRepS (K : PySem.W.Frag) : R2 := fun x y H Q => ∃ l xs, x = .ref l ∧ SqT K H l xs ∧ xs ≠ [] ∧ ((y = .int 1 ∧ Q (.ref l) H) ∨ (y = .int 0 ∧ ∀ p, H p = none → Q (.ref p) (upd H p (.tup []))))
theorem op_repS : OpR X (binaryOp .Mult) (rRepS X.K) := by
  intro pins s σ H x y v u Q I rx ry h
  obtain ⟨l, xs, e1, hT, hne, hk⟩ := h
  subst e1
  cases rx
  obtain ⟨its, r, ⟨⟨cls, dd, data, sl⟩, ho, hc, n, hd⟩, hs⟩ := I.tuple hT
  simp only at hc hd
  subst hc hd
  have hi : its.toArray.isEmpty = false := by
    cases its with
    | nil => exact absurd (List.length_eq_zero_iff.mp r.length) hne
    | cons a b => rfl
  rcases hk with ⟨ey, q⟩ | ⟨ey, q⟩
  · subst ey
    obtain ⟨t, rfl⟩ := ry
    refine wpAny_binaryOp_repeat_ref (T := "tuple") (U := "int") (by decide) ⟨_, ho, rfl⟩ (fun s' => typeIs_int s' 1 t) noFill_tuple_mul F.fills_int_mul F.slot_int_rmul repeat_tuple F.slot_int_index.lookup ?_
    refine call_meets F.slot_int_rmul (typeIs_int s 1 t) F.entry_int_rmul (F.args_int_rmul_2 _ _) (int_rmul_tuple 1 t l its.toArray n dd sl) ⟨ho, rfl, ⟨_, ho, rfl⟩, ?_⟩
    exact call_meets F.slot_tuple_mul ⟨_, ho, rfl⟩ F.entry_tuple_mul (F.args_tuple_mul_2 _ _) (tuple_mul1 l its.toArray n dd sl t) ⟨ho, .ref l, H, I, rfl, q⟩
  · subst ey
    obtain ⟨t, rfl⟩ := ry
    refine wpAny_binaryOp_repeat_ref (T := "tuple") (U := "int") (by decide) ⟨_, ho, rfl⟩ (fun s' => typeIs_int s' 0 t) noFill_tuple_mul F.fills_int_mul F.slot_int_rmul repeat_tuple F.slot_int_index.lookup ?_
    refine call_meets F.slot_int_rmul (typeIs_int s 0 t) F.entry_int_rmul (F.args_int_rmul_2 _ _) (int_rmul_tuple 0 t l its.toArray n dd sl) ⟨ho, rfl, ⟨_, ho, rfl⟩, ?_⟩
    refine call_meets F.slot_tuple_mul ⟨_, ho, rfl⟩ F.entry_tuple_mul (F.args_tuple_mul_2 _ _) (tuple_mul0 l its.toArray n dd sl t hi) ⟨ho, ?_⟩
    refine ⟨.ref s.heap.objs.size, _, I.laid (t' := s.toks) (o := .tup []) (fun b ob q => Heap.get?_push_of_some _ q) (Nat.le_refl _) ?_, rfl, q _ (I.hok.fresh (Nat.le_refl _))⟩
    exact ⟨Nat.zero_le _, [], .nil, IsTup.new _ _⟩
def uMul2 (K : PySem.W.Frag) : R2 := fun x y H Q => uMul K x y H Q ∨ rRepS K x y H Q
theorem op_uMul2 : OpR X (binaryOp .Mult) (uMul2 X.K) := OpR.or op_uMul op_repS
end
section
variable {K : PySem.W.Frag} {G : Gm} {ta tb : TE} {ds : List PyData} {i : Int}
theorem sv_repT2 (ha : Sv ta G (isD (.tuple ds))) (hb : Sv tb G (isD (.int i))) (hn : ds ≠ []) (h0 : 0 ≤ i) (hz : (ds.length : Int) * i ≤ 1000000) : Sv (tOp (uMul2 K) ta tb) G (isD (.tuple (List.replicate i.toNat ds).flatten)) := by
  by_cases h2 : 2 ≤ i
  · refine sv_op ha hb (rv_or1 ?_)
    intro B M x y dj p1 p2 Q q
    obtain ⟨a, vs, rfl, h1, h3⟩ := dq_tup p1
    have hne : vs ≠ [] := by intro z; subst z; cases h3; exact hn rfl
    rw [dp_int p2]
    refine .inr (.inr ⟨a, i, vs, rfl, rfl, st_of (jn_B dj h1), hne, h2, by rw [DqAll_len h3]; exact hz, fun p hp => ?_⟩)
    rw [upd_new hp]
    exact q _ _ (ex_new hp) (dj_new dj hp) (.tup upd_same (DqAll_ex (ex_new hp) (DqAll_rep h3 _)))
  · refine sv_op ha hb (rv_or2 ?_)
    intro B M x y dj p1 p2 Q q
    obtain ⟨a, vs, rfl, h1, h3⟩ := dq_tup p1
    have hne : vs ≠ [] := by intro z; subst z; cases h3; exact hn rfl
    rw [dp_int p2]
    have hi : i = 1 ∨ i = 0 := by omega
    refine ⟨a, vs, rfl, st_of (jn_B dj h1), hne, ?_⟩
    rcases hi with rfl | rfl
    · refine .inl ⟨rfl, q _ B (Ex.refl B) dj (.tup h1 ?_)⟩
      simpa using h3
    · refine .inr ⟨rfl, fun p hp => ?_⟩
      rw [upd_new hp]
      exact q _ _ (ex_new hp) (dj_new dj hp) (.tup upd_same .nil)
end
end Mini

namespace Mini
open PySem L2 Evl PyProof.Rows
theorem sv_notN {ta : TE} {G : Gm} {d : PyData} (ha : Sv ta G (isD d)) : Sv (tOp (fun x y H Q => y = .non ∧ Q (.bl (!decide (x = .non))) H) ta (tC .non)) G (isD (.bool (match d with | .none => false | _ => true))) := fun M0 σ B M H Q q => ha M0 σ B M H _ fun v B' e dj p => ⟨rfl, by
  refine q _ B' e dj ?_
  cases p with
  | non => exact .bl _
  | _ => exact .bl true⟩
end Mini

namespace Mini
open PySem L2 Evl PyProof.Rows
/-! ### is not True, is not False, of whatever stands -/
abbrev rNotBl : R2 := fun x y H Q => ∃ b, y = .bl b ∧ Q (.bl (!decide (x = .bl b))) H
abbrev rIsBl2 : R2 := fun x y H Q => ∃ b, y = .bl b ∧ Q (.bl (decide (x = .bl b))) H
theorem op_notBl {X : Cx} : OpR X (compareOp .IsNot) rNotBl := by
  intro pins s σ H x y v u Q I rx ry h
  obtain ⟨b, rfl, q⟩ := h
  cases (show u = Value.bool b from ry)
  cases x with
  | bl a =>
    cases (show v = Value.bool a from rx)
    exact isnot_bool ⟨.bl _, H, I, rfl, by cases a <;> cases b <;> simpa using q⟩
  | non => cases rx; exact wpAny_pure ⟨.bl true, H, I, rfl, by simpa using q⟩
  | ref a => cases rx; exact wpAny_pure ⟨.bl true, H, I, rfl, by simpa using q⟩
  | ty n => cases rx; exact wpAny_pure ⟨.bl true, H, I, rfl, by simpa using q⟩
  | int i => obtain ⟨t, rfl⟩ := rx; exact wpAny_pure ⟨.bl true, H, I, rfl, by simpa using q⟩
  | str i => obtain ⟨t, rfl⟩ := rx; exact wpAny_pure ⟨.bl true, H, I, rfl, by simpa using q⟩
  | byt i => obtain ⟨t, rfl⟩ := rx; exact wpAny_pure ⟨.bl true, H, I, rfl, by simpa using q⟩
  | flt i => obtain ⟨t, rfl⟩ := rx; exact wpAny_pure ⟨.bl true, H, I, rfl, by simpa using q⟩
theorem op_isBl2 {X : Cx} : OpR X (compareOp .Is) rIsBl2 := by
  intro pins s σ H x y v u Q I rx ry h
  obtain ⟨b, rfl, q⟩ := h
  cases (show u = Value.bool b from ry)
  cases x with
  | bl a =>
    cases (show v = Value.bool a from rx)
    exact is_bool ⟨.bl _, H, I, rfl, by cases a <;> cases b <;> simpa using q⟩
  | non => cases rx; exact wpAny_pure ⟨.bl false, H, I, rfl, by simpa using q⟩
  | ref a => cases rx; exact wpAny_pure ⟨.bl false, H, I, rfl, by simpa using q⟩
  | ty n => cases rx; exact wpAny_pure ⟨.bl false, H, I, rfl, by simpa using q⟩
  | int i => obtain ⟨t, rfl⟩ := rx; exact wpAny_pure ⟨.bl false, H, I, rfl, by simpa using q⟩
  | str i => obtain ⟨t, rfl⟩ := rx; exact wpAny_pure ⟨.bl false, H, I, rfl, by simpa using q⟩
  | byt i => obtain ⟨t, rfl⟩ := rx; exact wpAny_pure ⟨.bl false, H, I, rfl, by simpa using q⟩
  | flt i => obtain ⟨t, rfl⟩ := rx; exact wpAny_pure ⟨.bl false, H, I, rfl, by simpa using q⟩
/-- this truth value -/
def blB (d : PyData) (b : Bool) : Bool := match d with
  | .bool a => decide (a = b)
  | _ => false
section
variable {K : PySem.W.Frag} {G : Gm} {ta : TE} {d : PyData} {b : Bool}
theorem dq_bl {B : Hp} {v : V} (p : Dq B v d) : decide (v = .bl b) = blB d b := by
  cases p with
  | bl a => cases a <;> cases b <;> rfl
  | _ => rfl
theorem sv_notBl (ha : Sv ta G (isD d)) : Sv (tOp rNotBl ta (tC (.bl b))) G (isD (.bool (!blB d b))) := fun M0 σ B M H Q q => ha M0 σ B M H _ fun v B' e dj p => ⟨b, rfl, by
  rw [dq_bl p]
  exact q _ B' e dj (.bl _)⟩
theorem sv_isBl2 (ha : Sv ta G (isD d)) : Sv (tOp rIsBl2 ta (tC (.bl b))) G (isD (.bool (blB d b))) := fun M0 σ B M H Q q => ha M0 σ B M H _ fun v B' e dj p => ⟨b, rfl, by
  rw [dq_bl p]
  exact q _ B' e dj (.bl _)⟩
end
end Mini

namespace Mini
open PySem L2 Evl PyProof.Rows
/-! ### a, b, .. = values, new lists, .. through a tuple -/
inductive Pend : List (Ty ⊕ List PyData) → List V → Hp → Hp → Hp → Prop where
  | nil {B M} : Pend [] [] B M M
  | im {P ks v vs B M M'} : P.p v B → Pend ks vs B M M' → Pend (.inl P :: ks) (v :: vs) B M M'
  | nl {ds ks p us vs B M M'} : M p = none → DqAll B us ds → Pend ks vs B (upd M p (.lst us)) M' → Pend (.inr ds :: ks) (.ref p :: vs) B M M'
theorem Pend.len {ks vs B M M'} (h : Pend ks vs B M M') : vs.length = ks.length := by
  induction h with
  | nil => rfl
  | im _ _ ih => simp [ih]
  | nl _ _ _ ih => simp [ih]
theorem Pend.ex {ks vs B M M'} (h : Pend ks vs B M M') : Ex M M' := by
  induction h with
  | nil => exact Ex.refl _
  | im _ _ ih => exact ih
  | nl hp _ _ ih => exact (Ex.new hp).trans ih
theorem Pend.ext {ks vs B B' M M'} (h : Pend ks vs B M M') (e : Ex B B') : Pend ks vs B' M M' := by
  induction h with
  | nil => exact .nil
  | im a _ ih => exact .im (Ty.mono _ e a) (ih e)
  | nl hp a _ ih => exact .nl hp (DqAll_ex e a) (ih e)
def Sn (ta : TA) (G : Gm) (ks : List (Ty ⊕ List PyData)) : Prop := ∀ (M0 : Hp) (σ : L2.St) (B M : Hp), Holds M0 G σ B M → ∀ Q : List V → Hp → Prop, (∀ vs B' M', Ex B B' → Dj B' M' → Pend ks vs B' M M' → Q vs (jn B' M')) → ta σ (jn B M) Q
def kSl : Ty ⊕ List PyData → Sl
  | .inl P => .im P
  | .inr ds => .ow (isL ds)
def setAll (G : Gm) : List Nat → List (Ty ⊕ List PyData) → Gm
  | i :: is, k :: ks => setAll (G.set i (kSl k)) is ks
  | _, _ => G
def setSt (σ : L2.St) : List Nat → List V → L2.St
  | i :: is, v :: vs => setSt (σ.set i (some v)) is vs
  | _, _ => σ
def gNames : List Nat → TGs
  | [] => gNil
  | i :: is => gCons (gName i) (gNames is)
section
variable {K : PySem.W.Frag} {E : L2.St → XK} {G : Gm} {te ta tb tc : TE} {tr : TA} {P P' : Ty} {ds : List PyData} {ks : List (Ty ⊕ List PyData)}
theorem sn_nil : Sn tNil G [] := fun M0 σ B M H Q q => q [] B M (Ex.refl B) H.dj .nil
theorem sn_im (h : Sv te G P) (hr : Sn tr G ks) : Sn (tCons te tr) G (.inl P :: ks) := fun M0 σ B M H Q q =>
  h M0 σ B M H _ fun v B1 e1 d1 p1 => hr M0 σ B1 M (H.ext e1 d1) _ fun vs B2 M2 e2 d2 p2 => q _ B2 M2 (e1.trans e2) d2 (.im (P.mono e2 p1) p2)
theorem sn_nl (h : Svl te G ds) (hr : Sn tr G ks) : Sn (tCons te tr) G (.inr ds :: ks) := fun M0 σ B M H Q q =>
  h M0 σ B M H _ fun p us B1 e1 d1 hf ha => by
    rw [upd_own]
    exact hr M0 σ B1 _ ((H.ext e1 d1).more hf) _ fun vs B2 M2 e2 d2 p2 => q _ B2 M2 (e1.trans e2) d2 (.nl (jn_free hf).2 (DqAll_ex e2 ha) p2)
theorem setAll_len : ∀ {is : List Nat} {ks : List (Ty ⊕ List PyData)} {G : Gm}, (setAll G is ks).length = G.length
  | [], [], _ => rfl
  | [], _ :: _, _ => rfl
  | _ :: _, [], _ => rfl
  | i :: is, k :: ks, G => by rw [setAll, setAll_len, List.length_set]
theorem holds_set {M0 : Hp} : ∀ {is : List Nat} {ks : List (Ty ⊕ List PyData)} {vs : List V} {G : Gm} {σ : L2.St} {B M M' : Hp}, Holds M0 G σ B M → Dj B M' → Pend ks vs B M M' → is.length = ks.length → (∀ i ∈ is, i < G.length) → Holds M0 (setAll G is ks) (setSt σ is vs) B M'
  | [], [], _, G, σ, B, M, M', H, d, h, _, _ => by cases h; exact H
  | [], _ :: _, _, _, _, _, _, _, _, _, _, e, _ => by simp at e
  | _ :: _, [], _, _, _, _, _, _, _, _, _, e, _ => by simp at e
  | i :: is, k :: ks, _, G, σ, B, M, M', H, d, h, e, hl => by
    have hi := hl i (List.mem_cons_self ..)
    have hl' : ∀ S : Sl, ∀ j ∈ is, j < (G.set i S).length := fun S j hj => by rw [List.length_set]; exact hl j (List.mem_cons_of_mem _ hj)
    have e' : is.length = ks.length := by simpa using e
    cases h with
    | @im P _ v vs _ _ _ a h =>
      have h2 := H.setIm hi a
      exact holds_set (is := is) h2 d h e' (hl' _)
    | @nl ds _ p us vs _ _ _ hp a h =>
      have hB := dj_free d (h.ex _ _ upd_same)
      have h2 := H.setOw (R := isL ds) hi (by rw [jn_N hp]; exact hB : jn B M p = none) ⟨us, rfl, a⟩
      exact holds_set (is := is) h2 d h e' (hl' _)
theorem gNames_run {Q : L2.St → Hp → Prop} {H : Hp} : ∀ {is : List Nat} {vs : List V} {σ : L2.St}, is.length = vs.length → Q (setSt σ is vs) H → gNames is vs σ H Q
  | [], [], _, _, q => ⟨rfl, q⟩
  | [], _ :: _, _, e, _ => by simp at e
  | _ :: _, [], _, e, _ => by simp at e
  | i :: is, v :: vs, σ, e, q => ⟨v, vs, rfl, gNames_run (is := is) (by simpa using e) q⟩
theorem ss_tupN (is : List Nat) (h : Sn tr G ks) (hn : is.length = ks.length := by rfl) (hl : ∀ i ∈ is, i < G.length := by exact of_decide_eq_true rfl) (hk : ks.length ≤ 100 := by exact Nat.le_of_ble_eq_true rfl) :
    Ss E (tAsg (tTup tr) (gTup K ks.length (gNames is))) G (.nx (setAll G is ks)) := fun M0 D σ B M H q =>
  h M0 σ B M H _ fun vs B1 M1 e1 d1 p1 => by
    have hlen := p1.len
    refine ⟨by have : (sizeLine : Nat) = 16777216 := sizeLine_eq; omega, fun t ht => ?_⟩
    have dM : Dj B1 M := fun a u z => by
      have w := d1 a u z
      cases hm : M a with
      | none => rfl
      | some o => rw [p1.ex a o hm] at w; cases w
    have K1 := holds_set (H.ext e1 dM) d1 p1 hn hl
    rw [upd_new ht]
    refine ⟨t, vs, rfl, st_of (jn_B (dj_new d1 ht) upd_same), hlen, gNames_run (by omega) ?_⟩
    exact q _ _ _ (e1.trans (ex_new ht)) (K1.ext (ex_new ht) (dj_new d1 ht))
/-- xs[m], a, b = three values: the list's item first -/
theorem ss_tupSet {n i j : Nat} {ix : Int} {k : Nat} {d : PyData} {tm : TE} (h : G[n]? = some (.ow (isL ds))) (ha : Sv ta G (isD d)) (hb : Sv tb G P) (hc : Sv tc G P') (hm : ∀ {M0 : Hp} {σ : L2.St} {B M : Hp}, Holds M0 G σ B M → ∀ Q : VK, Q (.int ix) (jn B M) → tm σ (jn B M) Q) (hk : ixN ds.length ix = some k) (hi : i < G.length := by exact Nat.le_of_ble_eq_true rfl) (hj : j < G.length := by exact Nat.le_of_ble_eq_true rfl) :
    Ss E (tAsg (tTup (tCons ta (tCons tb (tCons tc tNil)))) (gTup K 3 (gCons (gSub (tVar n) tm rSetL) (gCons (gName i) (gCons (gName j) gNil))))) G (.nx (((G.set n (.ow (isL (ds.set k d)))).set i (.im P)).set j (.im P'))) := fun M0 D σ B M H q =>
  ha M0 σ B M H _ fun x B1 e1 d1 p1 => hb M0 σ B1 M (H.ext e1 d1) _ fun y B2 e2 d2 p2 => hc M0 σ B2 M ((H.ext e1 d1).ext e2 d2) _ fun z B3 e3 d3 p3 => by
    refine ⟨by show 3 ≤ sizeLine; decide, fun t ht => ?_⟩
    rw [upd_new ht]
    have e4 := e1.trans (e2.trans (e3.trans (ex_new (o := .tup [x, y, z]) ht)))
    have d4 := dj_new (o := .tup [x, y, z]) d3 ht
    have H4 := H.ext e4 d4
    refine ⟨t, _, rfl, st_of (jn_B d4 upd_same), rfl, _, _, rfl, ?_⟩
    obtain ⟨l, ob, a, c, ⟨vs, rfl, r⟩, f⟩ := H4.ow n _ h
    refine ⟨.ref l, a, hm H4 _ ⟨l, vs, ix, k, rfl, rfl, jn_M c, by rw [DqAll_len r]; exact hk, ?_⟩⟩
    refine ⟨_, _, rfl, _, _, rfl, rfl, ?_⟩
    rw [upd_own]
    have e34 := e3.trans (ex_new (o := .tup [x, y, z]) ht)
    have p1' := Dq_ex (e2.trans e34) d x p1
    exact q _ _ _ e4 (((H4.change h a c (R' := isL (ds.set k d)) ⟨_, rfl, DqAll_set p1' k r⟩).setIm (P := P) (by rw [List.length_set]; exact hi) (P.mono e34 p2)).setIm (P := P') (by rw [List.length_set, List.length_set]; exact hj) (P'.mono (ex_new ht) p3))
theorem at_var {n : Nat} {i : Int} (h : G[n]? = some (.im (isD (.int i)))) : ∀ {M0 : Hp} {σ : L2.St} {B M : Hp}, Holds M0 G σ B M → ∀ Q : VK, Q (.int i) (jn B M) → tVar n σ (jn B M) Q := fun {M0 σ B M} H Q q => by
  obtain ⟨v, a, b⟩ := H.im n _ h
  rw [dp_int b] at a
  exact ⟨_, a, q⟩
/-! what raises within a display, an argument -/
theorem sb_lst {C : Addr} (h : Sb te G E C) : Sb (tLst (tCons te tr)) G E C := fun M0 σ B M H Q q => h M0 σ B M H _ q
theorem sb_tup {C : Addr} (h : Sb te G E C) : Sb (tTup (tCons te tr)) G E C := fun M0 σ B M H Q q => h M0 σ B M H _ q
end
end Mini

namespace Mini
open PySem L2 Evl PyProof.Rows
/-! ### a tuple times a number that is below 0 -/
theorem tuple_mulN (l : Addr) (items : Array Value) (n : Nat) (dd : Option Addr) (sl : Array (Option Value)) (x : Int) (u : Tok) (hne : items.isEmpty = false) (c0 : (decide (x < -(2 ^ 63)) || decide (x ≥ 2 ^ 63)) = false) (hx : x < 0) :
    Meets (Builtin.«tuple.__mul__» ⟨[.ref l, .int x u], []⟩) (fun _ R s => s.heap.get? l = some { cls := .type "tuple", dict := dd, data := .seq items n, slots := sl } ∧
      R (.ok (.ret (Value.ref s.heap.objs.size))) { s with heap := s.heap.push { cls := Value.type "tuple", data := Data.seq #[] }, toks := s.toks }) :=
  .of_wp fun prog w A R s h => by
    obtain ⟨hp, g, d, tk, os⟩ := s
    obtain ⟨hl, h⟩ := h
    have f1 := AutoSeq1.idx_int
    have c1 : (items.isEmpty || x == 1) = false := by rw [hne, Bool.false_or]; exact beq_eq_false_iff_ne.mpr (by omega)
    have c2 : (decide (x ≤ 0) || items.isEmpty) = true := by rw [decide_eq_true (by omega)]; rfl
    wp_walk using wpAny_loadPart' hl
    repeat (first
      | (refine wpAny_ite_false (decide_eq_false (by rw [c0]; exact Bool.false_ne_true)) ?_; wp_walk using wpAny_loadPart' hl)
      | (refine wpAny_ite_false (decide_eq_false (by rw [c1]; exact Bool.false_ne_true)) ?_; wp_walk using wpAny_loadPart' hl)
      | (refine wpAny_ite_true (decide_eq_true c2) ?_; wp_walk using wpAny_loadPart' hl))
    exact ⟨_, rfl, h⟩
section
variable {X : Cx}
def rRepN (K : PySem.W.Frag) : R2 := fun x y H Q => ∃ l xs k, x = .ref l ∧ y = .int k ∧ SqT K H l xs ∧ xs ≠ [] ∧ k < 0 ∧ -(2 ^ 63) ≤ k ∧ ∀ p, H p = none → Q (.ref p) (upd H p (.tup []))
theorem op_repN : OpR X (binaryOp .Mult) (rRepN X.K) := by
  intro pins s σ H x y v u Q I rx ry h
  obtain ⟨l, xs, k, e1, e2, hT, hne, hk, hk2, q⟩ := h
  subst e1 e2
  cases rx
  obtain ⟨t, rfl⟩ := ry
  obtain ⟨its, r, ⟨⟨cls, dd, data, sl⟩, ho, hc, n, hd⟩, hs⟩ := I.tuple hT
  simp only at hc hd
  subst hc hd
  have hi : its.toArray.isEmpty = false := by
    cases its with
    | nil => exact absurd (List.length_eq_zero_iff.mp r.length) hne
    | cons a b => rfl
  have a0 : (decide (k < -(2 ^ 63)) || decide (k ≥ 2 ^ 63)) = false := by
    rw [decide_eq_false (by omega), decide_eq_false (by omega)]; rfl
  refine wpAny_binaryOp_repeat_ref (T := "tuple") (U := "int") (by decide) ⟨_, ho, rfl⟩ (fun s' => typeIs_int s' k t) noFill_tuple_mul F.fills_int_mul F.slot_int_rmul repeat_tuple F.slot_int_index.lookup ?_
  refine call_meets F.slot_int_rmul (typeIs_int s k t) F.entry_int_rmul (F.args_int_rmul_2 _ _) (int_rmul_tuple k t l its.toArray n dd sl) ⟨ho, rfl, ⟨_, ho, rfl⟩, ?_⟩
  refine call_meets F.slot_tuple_mul ⟨_, ho, rfl⟩ F.entry_tuple_mul (F.args_tuple_mul_2 _ _) (tuple_mulN l its.toArray n dd sl k t hi a0 hk) ⟨ho, ?_⟩
  refine ⟨.ref s.heap.objs.size, _, I.laid (t' := s.toks) (o := .tup []) (fun b ob q => Heap.get?_push_of_some _ q) (Nat.le_refl _) ?_, rfl, q _ (I.hok.fresh (Nat.le_refl _))⟩
  exact ⟨Nat.zero_le _, [], .nil, IsTup.new _ _⟩
def uMul3 (K : PySem.W.Frag) : R2 := fun x y H Q => uMul2 K x y H Q ∨ rRepN K x y H Q
theorem op_uMul3 : OpR X (binaryOp .Mult) (uMul3 X.K) := OpR.or op_uMul2 op_repN
end
section
variable {K : PySem.W.Frag} {G : Gm} {ta tb : TE} {ds : List PyData} {i j : Int}
theorem sv_repT3 (ha : Sv ta G (isD (.tuple ds))) (hb : Sv tb G (isD (.int i))) (hn : ds ≠ []) (h0 : -(2 ^ 63) ≤ i) (hz : (ds.length : Int) * i ≤ 1000000) : Sv (tOp (uMul3 K) ta tb) G (isD (.tuple (List.replicate i.toNat ds).flatten)) := by
  by_cases h2 : 0 ≤ i
  · by_cases h3 : 2 ≤ i
    · refine sv_op ha hb (r := uMul3 K) (rv_or1 (rv_or1 ?_))
      intro B M x y dj p1 p2 Q q
      obtain ⟨a, vs, rfl, h1, h3'⟩ := dq_tup p1
      have hne : vs ≠ [] := by intro z; subst z; cases h3'; exact hn rfl
      rw [dp_int p2]
      refine .inr (.inr ⟨a, i, vs, rfl, rfl, st_of (jn_B dj h1), hne, h3, by rw [DqAll_len h3']; exact hz, fun p hp => ?_⟩)
      rw [upd_new hp]
      exact q _ _ (ex_new hp) (dj_new dj hp) (.tup upd_same (DqAll_ex (ex_new hp) (DqAll_rep h3' _)))
    · refine sv_op ha hb (r := uMul3 K) (rv_or1 (rv_or2 ?_))
      intro B M x y dj p1 p2 Q q
      obtain ⟨a, vs, rfl, h1, h3'⟩ := dq_tup p1
      have hne : vs ≠ [] := by intro z; subst z; cases h3'; exact hn rfl
      rw [dp_int p2]
      have hi : i = 1 ∨ i = 0 := by omega
      refine ⟨a, vs, rfl, st_of (jn_B dj h1), hne, ?_⟩
      rcases hi with rfl | rfl
      · refine .inl ⟨rfl, q _ B (Ex.refl B) dj (.tup h1 ?_)⟩
        simpa using h3'
      · refine .inr ⟨rfl, fun p hp => ?_⟩
        rw [upd_new hp]
        exact q _ _ (ex_new hp) (dj_new dj hp) (.tup upd_same .nil)
  · refine sv_op ha hb (r := uMul3 K) (rv_or2 ?_)
    intro B M x y dj p1 p2 Q q
    obtain ⟨a, vs, rfl, h1, h3⟩ := dq_tup p1
    have hne : vs ≠ [] := by intro z; subst z; cases h3; exact hn rfl
    rw [dp_int p2]
    refine ⟨a, vs, i, rfl, rfl, st_of (jn_B dj h1), hne, by omega, h0, fun p hp => ?_⟩
    rw [show i.toNat = 0 by omega] at q
    rw [upd_new hp]
    exact q _ _ (ex_new hp) (dj_new dj hp) (.tup upd_same .nil)
theorem sv_mul3 (ha : Sv ta G (isD (.int i))) (hb : Sv tb G (isD (.int j))) (hc : CMul i j) : Sv (tOp (uMul3 K) ta tb) G (isD (.int (i * j))) := sv_op ha hb (rv_or1 (rv_or1 (rv_or1 (rv_I hc))))
theorem svl_rep3 (ha : Rl ta G ds) (hb : Sv tb G (isD (.int i))) (h0 : -(2 ^ 63) ≤ i) (h1 : i < 2 ^ 63) (hz : ds.length * i.toNat ≤ sizeLine) : Svl (tOp (uMul3 K) ta tb) G (List.replicate i.toNat ds).flatten := fun M0 σ B M H Q q =>
  ha M0 σ B M H _ fun a vs B1 e1 d1 hh q1 => hb M0 σ B1 M (H.ext e1 d1) _ fun y B2 e2 d2 p2 => by
    rw [dp_int p2]
    exact .inl (.inl (.inr (.inl ⟨a, i, vs, rfl, rfl, jn_mono e2 d2 _ _ hh, h0, h1, by rw [DqAll_len q1]; exact hz, fun p hp => q p _ B2 (e1.trans e2) d2 hp (DqAll_rep (DqAll_ex e2 q1) _)⟩)))
end
end Mini

namespace Mini
open PySem L2 Evl PyProof.Rows
def noneB (d : PyData) : Bool := match d with
  | .none => true
  | _ => false
theorem sv_isNb {ta : TE} {G : Gm} {d : PyData} (ha : Sv ta G (isD d)) : Sv (tOp (fun x y H Q => y = .non ∧ Q (.bl (decide (x = .non))) H) ta (tC .non)) G (isD (.bool (noneB d))) := by
  cases d <;> exact sv_isN ha
theorem sv_notNb {ta : TE} {G : Gm} {d : PyData} (ha : Sv ta G (isD d)) : Sv (tOp (fun x y H Q => y = .non ∧ Q (.bl (!decide (x = .non))) H) ta (tC .non)) G (isD (.bool (!noneB d))) := by
  cases d <;> exact sv_notN ha
end Mini

namespace Mini
open PySem L2 Evl PyProof.Rows
section
variable {K : PySem.W.Frag} {E : L2.St → XK} {G : Gm} {ds : List PyData} {n : Nat}
/-- xs.reverse(), xs one's own -/
theorem ss_reverse (h : G[n]? = some (.ow (isL ds))) : Ss E (tDrop (tBM0 K "list" rReverse (tVar n))) G (.nx (G.set n (.ow (isL ds.reverse)))) := fun M0 D σ B M H q => by
  obtain ⟨l, ob, a, c, ⟨vs, rfl, r⟩, f⟩ := H.ow n _ h
  refine ⟨.ref l, a, Or.inl ⟨rfl, vs, sq_of (jn_M c)⟩, ?_⟩
  refine ⟨l, vs, rfl, rfl, jn_M c, ?_⟩
  rw [upd_own]
  exact q σ B _ (Ex.refl B) (H.change h a c ⟨_, rfl, DqAll_rev r⟩)
end
/-- a step that is no more -/
theorem itS_stop {S : Type} {f : S → Option S} {s : S} {N : Nat} (h : f (itS f s N) = none) : ∀ j, itS f s (N + j) = itS f s N
  | 0 => rfl
  | j + 1 => by
    show (match f (itS f s (N + j)) with | some s' => s' | none => itS f s (N + j)) = _
    rw [itS_stop h j, h]
end Mini

namespace Mini
open PySem L2 Evl PyProof.Rows
/-! ### targets of loops and comprehensions: names, tuples of targets -/
theorem wipe_set {j : Nat} {x : Option V} : ∀ {vs : List Nat} {σ : L2.St}, j ∈ vs → L2.wipe (σ.set j x) vs = L2.wipe σ vs
  | [], _, h => absurd h (List.not_mem_nil)
  | v :: vs, σ, h => by
    show (L2.wipe (σ.set j x) vs).set v none = (L2.wipe σ vs).set v none
    have step : ∀ (vs : List Nat) (σ : L2.St), ¬ j ∈ vs → L2.wipe (σ.set j x) vs = (L2.wipe σ vs).set j x := fun vs => by
      induction vs with
      | nil => intro σ _; rfl
      | cons w ws ih =>
        intro σ hn
        show (L2.wipe (σ.set j x) ws).set w none = ((L2.wipe σ ws).set w none).set j x
        rw [ih σ (fun z => hn (List.mem_cons_of_mem _ z)), List.set_comm _ _ (fun z => hn (by rw [z]; exact List.mem_cons_self ..))]
    by_cases h1 : j ∈ vs
    · rw [wipe_set h1]
    · have e : j = v := by rcases List.mem_cons.mp h with e | e; exact e; exact absurd e h1
      rw [step vs σ h1, e, List.set_set]
theorem wipeG_len : ∀ (G : Gm) (vs : List Nat), (wipeG G vs).length = G.length
  | _, [] => rfl
  | G, v :: vs => by show ((wipeG G vs).set v .no).length = _; rw [List.length_set, wipeG_len G vs]
def Tg (N : Nat) (js : List Nat) (g : TG) (P : Ty) (f : Gm → Gm) : Prop := ∀ (M0 : Hp) (G : Gm) (σ : L2.St) (B M : Hp) (v : V), G.length = N → Holds M0 G σ B M → P.p v B → ∀ Q : L2.St → Hp → Prop,
  (∀ σ', (∀ vs : List Nat, (∀ j ∈ js, j ∈ vs) → L2.wipe σ' vs = L2.wipe σ vs) → Holds M0 (f G) σ' B M → Q σ' (jn B M)) → g v σ (jn B M) Q
section
variable {K : PySem.W.Frag} {E : L2.St → XK} {tu ts : TS} {te tl ta tb : TE} {tt : TT} {G : Gm} {o : Out} {ds es : List PyData} {j l N n : Nat} {P : Ty} {g g1 g2 g3 : TG} {js js1 js2 js3 : List Nat} {f f1 f2 f3 : Gm → Gm} {d1 d2 d3 : PyData} {P1 P2 P3 : Ty}
theorem tg_name (hj : j < N) : Tg N [j] (gName j) P (fun G => G.set j (.im P)) := fun M0 G σ B M v hl H p Q q => q _ (fun vs h => wipe_set (h j (List.mem_cons_self ..))) (H.setIm (by rw [hl]; exact hj) p)
theorem tg_tup2 (h1 : Tg N js1 g1 (isD d1) f1) (h2 : Tg N js2 g2 (isD d2) f2) (hf : ∀ G : Gm, (f1 G).length = G.length) : Tg N (js1 ++ js2) (gTup K 2 (gCons g1 (gCons g2 gNil))) (isD (.tuple [d1, d2])) (fun G => f2 (f1 G)) := fun M0 G σ B M v hl H p Q q => by
  obtain ⟨a, vs, rfl, hh, q1⟩ := dq_tup p
  cases q1 with
  | cons p1 q1 => cases q1 with
    | cons p2 q1 =>
      cases q1
      refine ⟨a, _, rfl, st_of (jn_B H.dj hh), rfl, _, _, rfl, ?_⟩
      refine h1 M0 G σ B M _ hl H p1 _ fun σ1 w1 H1 => ⟨_, _, rfl, ?_⟩
      refine h2 M0 (f1 G) σ1 B M _ (by rw [hf]; exact hl) H1 p2 _ fun σ2 w2 H2 => ⟨rfl, ?_⟩
      exact q σ2 (fun vs h => (w2 vs fun j hj => h j (List.mem_append.mpr (.inr hj))).trans (w1 vs fun j hj => h j (List.mem_append.mpr (.inl hj)))) H2
theorem tg_tup3 (h1 : Tg N js1 g1 (isD d1) f1) (h2 : Tg N js2 g2 (isD d2) f2) (h3 : Tg N js3 g3 (isD d3) f3) (hf : ∀ G : Gm, (f1 G).length = G.length) (hf2 : ∀ G : Gm, (f2 G).length = G.length) : Tg N (js1 ++ (js2 ++ js3)) (gTup K 3 (gCons g1 (gCons g2 (gCons g3 gNil)))) (isD (.tuple [d1, d2, d3])) (fun G => f3 (f2 (f1 G))) := fun M0 G σ B M v hl H p Q q => by
  obtain ⟨a, vs, rfl, hh, q1⟩ := dq_tup p
  cases q1 with
  | cons p1 q1 => cases q1 with
    | cons p2 q1 => cases q1 with
      | cons p3 q1 =>
        cases q1
        refine ⟨a, _, rfl, st_of (jn_B H.dj hh), rfl, _, _, rfl, ?_⟩
        refine h1 M0 G σ B M _ hl H p1 _ fun σ1 w1 H1 => ⟨_, _, rfl, ?_⟩
        refine h2 M0 (f1 G) σ1 B M _ (by rw [hf]; exact hl) H1 p2 _ fun σ2 w2 H2 => ⟨_, _, rfl, ?_⟩
        refine h3 M0 (f2 (f1 G)) σ2 B M _ (by rw [hf2, hf]; exact hl) H2 p3 _ fun σ3 w3 H3 => ⟨rfl, ?_⟩
        exact q σ3 (fun vs h => ((w3 vs fun j hj => h j (List.mem_append.mpr (.inr (List.mem_append.mpr (.inr hj))))).trans (w2 vs fun j hj => h j (List.mem_append.mpr (.inr (List.mem_append.mpr (.inl hj)))))).trans (w1 vs fun j hj => h j (List.mem_append.mpr (.inl hj)))) H3
/-- over a list that stays, any target -/
theorem ss_forLg (h : Sv tl G (isD (.list ds))) (fd : PyData → Gm → Gm) (Gi : Nat → Gm) (N : Nat) (hN : N ≤ ds.length) (h0 : Le G (Gi 0)) (hj : ∀ i, i ≤ N → (Gi i).length = n) (hg : ∀ d ∈ ds, Tg n js g (isD d) (fd d))
    (hs : ∀ i d, ds[i]? = some d → i < N → Turn E tu (fd d (Gi i)) (Gi (i + 1))) (hd : EndsAs E tu Gi (fun i => fd (ds.getD i .none) (Gi i)) N ds.length o) :
    Ss E (tFor (iList K tl) g tu) G o := fun M0 D σ B M H q =>
  h M0 σ B M H _ fun v B1 e1 dd1 p1 => by
    obtain ⟨a, vs, rfl, ha, hv⟩ := dq_lst p1
    have hlen := DqAll_len hv
    refine ⟨a, rfl, ⟨vs, sq_of (jn_B dd1 ha)⟩, ?_⟩
    have wide : ∀ i σ' H', Pvl M0 B1 Gi N i σ' H' → SqL K H' a vs := fun i σ' H' p => by
      obtain ⟨_, B', M', rfl, e, H'⟩ := p
      exact sq_of (jn_B H'.dj (e _ _ ha))
    refine for_list (xs := vs) (Pvl M0 B1 Gi N) ⟨Nat.zero_le _, B1, M, rfl, Ex.refl B1, (H.ext e1 dd1).le h0⟩ (fun i σ' H' _ p => wide i σ' H' p) (fun i x σ' H' hx p => ?_) (fun σ' H' p => ?_)
    · obtain ⟨hiN, B', M', rfl, e, H'⟩ := p
      obtain ⟨d, hd1, px⟩ := DqAll_getV hv hx
      refine hg d (List.mem_of_getElem? hd1) M0 (Gi i) σ' B' M' x (hj i hiN) H' (Dq_ex e d x px) _ fun σ2 _ H2 => ?_
      refine turn_ok (o := o) hiN H2 e (fun l => hs i d hd1 l) (fun l => ?_) (q.ext e1)
      rcases hd with ⟨b, _⟩ | ⟨_, b⟩
      · have := (List.getElem?_eq_some_iff.mp hx).1; omega
      · have z : ds.getD N .none = d := by rw [← l, List.getD_eq_getElem?_getD, hd1]; rfl
        dsimp only at b
        rw [z, ← l] at b
        exact b
    · obtain ⟨hiN, B', M', rfl, e, H'⟩ := p
      rcases hd with ⟨b, c⟩ | ⟨b, _⟩
      · rw [c] at q
        rw [hlen, ← b] at H'
        exact q σ' B' M' (e1.trans e) H'
      · omega
/-- for i, target in enumerate(a list that stays) -/
theorem ss_forEg (h : Sv tl G (isD (.list ds))) (fd : PyData → Gm → Gm) (Gi : Nat → Gm) (N : Nat) (hN : N ≤ ds.length) (h0 : Le G (Gi 0)) (hn : ∀ i, i ≤ N → (Gi i).length = n) (hj : j < n) (hg : ∀ d ∈ ds, Tg n js g (isD d) (fd d))
    (hs : ∀ i d, ds[i]? = some d → i < N → Turn E tu (fd d ((Gi i).set j (.im (isD (.int (i : Int)))))) (Gi (i + 1)))
    (hd : EndsAs E tu Gi (fun i => fd (ds.getD i .none) ((Gi i).set j (.im (isD (.int (i : Int)))))) N ds.length o) :
    Ss E (tFor (iEnum K (tCons tl tNil)) (gTup K 2 (gCons (gName j) (gCons g gNil))) tu) G o := fun M0 D σ B M H q =>
  h M0 σ B M H _ fun v B1 e1 d1 p1 => by
    obtain ⟨a, vs, rfl, ha, hv⟩ := dq_lst p1
    have hlen := DqAll_len hv
    refine ⟨a, vs, rfl, sq_of (jn_B d1 ha), ?_⟩
    refine ⟨fun i m σ H => m = vs.length - i ∧ i ≤ vs.length ∧ Pvl M0 B1 Gi N i σ H, ⟨vs.length, by simp, Nat.zero_le _, Nat.zero_le _, B1, M, rfl, Ex.refl B1, (H.ext e1 d1).le h0⟩, ?_⟩
    rintro i m σ' H1 ⟨rfl, hi, p⟩
    obtain ⟨hiN, B', M', rfl, e, H'⟩ := p
    have hS : SqL K (jn B' M') a vs := sq_of (jn_B H'.dj (e _ _ ha))
    by_cases hlt : i < vs.length
    · refine .inr ⟨⟨vs, vs[i], hS, List.getElem?_eq_getElem hlt⟩, Pvl M0 B1 Gi N (i + 1), fun σ' H' p' => ⟨vs.length - (i + 1), by omega, rfl, hlt, p'⟩, fun x H2 y => ?_⟩
      obtain ⟨t, x, rfl, ht, rfl, hx⟩ := y
      obtain ⟨d, hd1, px⟩ := DqAll_getV hv (hx vs hS)
      rw [upd_new ht]
      have dj2 := dj_new (o := .tup [.int (i : Nat), x]) H'.dj ht
      have ex2 := ex_new (o := .tup [.int (i : Nat), x]) ht
      refine ⟨t, _, rfl, st_of (jn_B dj2 upd_same), rfl, _, _, rfl, _, _, rfl, ?_⟩
      have H3 := (H'.ext ex2 dj2).setIm (by rw [hn i hiN]; exact hj : j < (Gi i).length) (P := isD (.int (i : Int))) (v := .int (i : Int)) (Dq.int _)
      refine hg d (List.mem_of_getElem? hd1) M0 _ _ _ M' x (by rw [List.length_set]; exact hn i hiN) H3 (Dq_ex (e.trans ex2) d x px) _ fun σ2 _ HH => ⟨rfl, ?_⟩
      refine turn_ok (o := o) hiN HH (e.trans ex2) (fun w => hs i d hd1 w) (fun w => ?_) (q.ext e1)
      rcases hd with ⟨b, _⟩ | ⟨_, b⟩
      · omega
      · have z : ds.getD N .none = d := by rw [← w, List.getD_eq_getElem?_getD, hd1]; rfl
        dsimp only at b
        rw [z, ← w] at b
        exact b
    · refine .inl ⟨⟨vs, hS, by omega⟩, ?_⟩
      rcases hd with ⟨b, c⟩ | ⟨b, _⟩
      · rw [c] at q
        have ei : i = N := by omega
        rw [ei] at H'
        exact q σ' B' M' (e1.trans e) H'
      · omega
/-! comprehensions over any target -/
theorem lc_turnG {M0 B M : Hp} {σ : L2.St} {vs : List Nat} {Dl : Addr} {es : Nat → List PyData} {i : Nat} {d y : PyData} {x : V} {b : Bool} {B' : Hp} {acc : List V} (H : Holds M0 G σ B M) (hM : M Dl = none) (e : Ex B B') (dj : Dj B' (upd M Dl (.lst acc))) (ha : DqAll B' acc (es i)) (hz : (es i).length < sizeLine)
    (hx : Dq B' x d) (hg : Tg G.length js g (isD d) f) (hjs : ∀ j ∈ js, j ∈ vs) (ht : St' tt (f (wipeG G vs)) b) (he : b = true → Sv te (f (wipeG G vs)) (isD y)) (hs : es (i + 1) = if b then es i ++ [y] else es i) :
    g x (L2.wipe σ vs) (jn B' (upd M Dl (.lst acc))) fun σ2 H2 => L2.wipe σ2 vs = L2.wipe σ vs ∧ tt σ2 H2 fun b H3 =>
      if b = true then te σ2 H3 fun y H4 => ∃ acc, H4 Dl = some (.lst acc) ∧ acc.length < sizeLine ∧ Pvc B M Dl es (i + 1) (upd H4 Dl (.lst (acc ++ [y]))) else Pvc B M Dl es (i + 1) H3 := by
  have hB' : B' Dl = none := dj_free dj upd_same
  have djM : Dj B' M := fun a u q => by
    have := dj a u q
    by_cases z : a = Dl
    · rw [z]; exact hM
    · rw [upd_ne z] at this; exact this
  have h1 := ((H.ext e djM).wipes vs).more (p := Dl) (o := .lst acc) (show jn B' M Dl = none by rw [jn_N hM]; exact hB')
  refine hg M0 _ _ _ _ x (wipeG_len G vs) h1 hx _ fun σ2 w2 H2 => ?_
  have ww : ∀ (vs : List Nat) (σ : L2.St), L2.wipe (L2.wipe σ vs) vs = L2.wipe σ vs := fun vs => by
    induction vs with
    | nil => intro σ; rfl
    | cons v vs ih =>
      intro σ
      show (L2.wipe ((L2.wipe σ vs).set v none) vs).set v none = (L2.wipe σ vs).set v none
      by_cases hv : v ∈ vs
      · rw [wipe_set hv, ih]
      · have st : ∀ (ws : List Nat) (σ : L2.St), ¬ v ∈ ws → L2.wipe (σ.set v none) ws = (L2.wipe σ ws).set v none := fun ws => by
          induction ws with
          | nil => intro σ _; rfl
          | cons w ws ih2 =>
            intro σ hn
            show (L2.wipe (σ.set v none) ws).set w none = ((L2.wipe σ ws).set w none).set v none
            rw [ih2 σ (fun z => hn (List.mem_cons_of_mem _ z)), List.set_comm _ _ (fun z => hn (by rw [z]; exact List.mem_cons_self ..))]
        rw [st vs _ hv, ih, List.set_set]
  refine ⟨by rw [w2 vs hjs]; exact ww vs σ, ?_⟩
  refine ht M0 _ _ _ H2 _ fun B3 e3 d3 => ?_
  cases b with
  | true =>
    rw [if_pos rfl]
    refine he rfl M0 _ _ _ (H2.ext e3 d3) _ fun v B4 e4 d4 p4 => ?_
    refine ⟨acc, jn_M upd_same, by rw [DqAll_len ha]; exact hz, ?_⟩
    rw [upd_own, upd_upd]
    refine ⟨B4, acc ++ [v], rfl, (e.trans e3).trans e4, ?_, ?_⟩
    · intro a u q
      have := d4 a u q
      by_cases z : a = Dl
      · rw [z, upd_same] at this; cases this
      · rw [upd_ne z] at this ⊢; exact this
    · rw [hs, if_pos rfl]
      exact DqAll_append (DqAll_ex (e3.trans e4) ha) (.cons p4 .nil)
  | false =>
    rw [if_neg Bool.false_ne_true]
    refine ⟨B3, acc, rfl, e.trans e3, d3, ?_⟩
    rw [hs, if_neg Bool.false_ne_true]
    exact DqAll_ex e3 ha
theorem take_filter {α β : Type} (b : α → Bool) (y : α → β) (ds : List α) (i : Nat) (d : α) (h : ds[i]? = some d) : ((ds.take (i + 1)).filter b).map y = if b d then ((ds.take i).filter b).map y ++ [y d] else ((ds.take i).filter b).map y := by
  rw [List.take_succ, h, List.filter_append]
  show (_ ++ List.filter b [d]).map y = _
  cases hb : b d with
  | true => rw [List.filter_cons_of_pos hb, List.map_append]; rfl
  | false => rw [List.filter_cons_of_neg (by rw [hb]; simp), List.filter_nil, List.append_nil]; rfl
/-- [y for target in a list if b] -/
theorem svl_lcG {vs : List Nat} (h : Rl tl G ds) (fd : PyData → Gm → Gm) (b : PyData → Bool) (y : PyData → PyData) (hz : ds.length < 10000000) (hg : ∀ d ∈ ds, Tg G.length js g (isD d) (fd d)) (hjs : ∀ j ∈ js, j ∈ vs) (ht : ∀ d ∈ ds, St' tt (fd d (wipeG G vs)) (b d)) (he : ∀ d ∈ ds, b d = true → Sv te (fd d (wipeG G vs)) (isD (y d))) :
    Svl (tLc (iList K tl) g tt te vs) G ((ds.filter b).map y) := fun M0 σ B M H Q q => h M0 σ B M H _ fun a us B1 e1 dd1 hh q1 => by
  have hlen := DqAll_len q1
  let es : Nat → List PyData := fun i => ((ds.take i).filter b).map y
  refine ⟨a, rfl, ⟨us, sq_of hh⟩, fun Dl hD => ?_⟩
  have hM := (jn_free hD).2
  have hl : ∀ i, (es i).length ≤ i := fun i => by
    show (((ds.take i).filter b).map y).length ≤ i
    rw [List.length_map]
    have := List.length_filter_le b (ds.take i)
    rw [List.length_take] at this
    omega
  refine lc_list (xs := us) (Pvc B1 M Dl es) ⟨B1, [], by rw [upd_own], Ex.refl B1, dj_own dd1 (jn_free hD).1, .nil⟩ (fun i H' _ p => ?_) (fun i x H' hx p => ?_) (fun H' p => ?_)
  · obtain ⟨B', acc, rfl, e, dj, _⟩ := p
    refine sq_of ?_
    have hne : a ≠ Dl := fun z => by rw [z, hD] at hh; cases hh
    unfold jn at hh ⊢
    rw [upd_ne hne]
    cases z : M a with
    | some u => rw [z] at hh; exact hh
    | none => rw [z] at hh; exact e _ _ hh
  · obtain ⟨B', acc, rfl, e, dj, ha⟩ := p
    obtain ⟨d, hd, px⟩ := DqAll_getV q1 hx
    have hi := (List.getElem?_eq_some_iff.mp hd).1
    have hm := List.mem_of_getElem? hd
    exact lc_turnG (H.ext e1 dd1) hM e dj ha (by have := hl i; rw [sizeLine_eq]; omega) (Dq_ex e d x px) (hg d hm) hjs (ht d hm) (he d hm) (take_filter b y ds i d hd)
  · rw [hlen] at p
    have ee : es ds.length = (ds.filter b).map y := by show ((ds.take ds.length).filter b).map y = _; rw [List.take_length]
    exact lc_end hM (Ex.refl _) (fun p vs B' e dj hf hv => by rw [ee] at hv; exact q p vs B' (e1.trans e) dj hf hv) H' p
theorem svl_lcGm {vs : List Nat} (h : Rl tl G ds) (fd : PyData → Gm → Gm) (y : PyData → PyData) (hz : ds.length < 10000000) (hg : ∀ d ∈ ds, Tg G.length js g (isD d) (fd d)) (hjs : ∀ j ∈ js, j ∈ vs) (he : ∀ d ∈ ds, Sv te (fd d (wipeG G vs)) (isD (y d))) :
    Svl (tLc (iList K tl) g tYes te vs) G (ds.map y) := by
  have z := svl_lcG (K := K) (vs := vs) h fd (fun _ => true) y hz hg hjs (fun _ _ => st_yes) (fun d hd _ => he d hd)
  rw [List.filter_eq_self.mpr (fun _ _ => rfl)] at z
  exact z
/-- xs.extend(a list), xs one's own -/
theorem ss_extend (h : G[n]? = some (.ow (isL ds))) (he : Rl te G es) (hz : ds.length + es.length ≤ sizeLine) : Ss E (tDrop (tBM K "list" rExtend (tVar n) (tCons te tNil))) G (.nx (G.set n (.ow (isL (ds ++ es))))) := fun M0 D σ B M H q => by
  obtain ⟨l, ob, a, c, ⟨vs, rfl, r⟩, f⟩ := H.ow n _ h
  refine ⟨.ref l, a, Or.inl ⟨rfl, vs, sq_of (jn_M c)⟩, ?_⟩
  refine he M0 σ B M H _ fun b us B' e dj hb hd => ?_
  refine ⟨l, b, vs, us, rfl, rfl, jn_M c, hb, by rw [DqAll_len r, DqAll_len hd]; exact hz, ?_⟩
  rw [upd_own]
  exact q σ B' _ e ((H.ext e dj).change h a c ⟨_, rfl, DqAll_append (DqAll_ex e r) hd⟩)
end
end Mini

namespace Mini
open PySem L2 Evl PyProof.Rows
section
variable {K : PySem.W.Frag} {E : L2.St → XK} {G : Gm} {te ta tb tv : TE} {C : Addr} {n : Nat} {f : Str} {ds : List PyData} {d1 d2 : PyData} {i1 i2 : Int} {k1 k2 : Nat}
/-- self.f = e, and e raises -/
theorem ss_fldBad {to : TE} (h : Sb tv G E C) : Ss E (sFld K to tv f) G (.bad C G) := fun M0 D σ B M H q => h M0 σ B M H _ fun B' e d => q σ B' M e (H.ext e d)
/-- a, b = two values or new lists, side by side -/
theorem ss_parS {ta : TA} {kk1 kk2 : Ty ⊕ List PyData} {i j : Nat} (h : Sn ta G [kk1, kk2]) (hi : i < G.length := by exact Nat.le_of_ble_eq_true rfl) (hj : j < G.length := by exact Nat.le_of_ble_eq_true rfl) : Ss E (tPar i j ta) G (.nx (setAll G [i, j] [kk1, kk2])) := fun M0 D σ B M H q =>
  h M0 σ B M H _ fun vs B1 M1 e1 d1 p1 => by
    have dM : Dj B1 M := fun a u z => by
      have w := d1 a u z
      cases hm : M a with
      | none => rfl
      | some o => rw [p1.ex a o hm] at w; cases w
    have K1 := holds_set (is := [i, j]) (H.ext e1 dM) d1 p1 rfl (fun k hk => by
      rcases List.mem_cons.mp hk with rfl | hk
      · exact hi
      · rcases List.mem_cons.mp hk with rfl | hk
        · exact hj
        · cases hk)
    have hl := p1.len
    match vs, hl with
    | [u, v], _ => exact ⟨u, v, rfl, q _ _ _ e1 K1⟩
/-- an argument raises -/
theorem sb_mkA {D : Addr} {sp : Sp} {tr : TA} (h : Sb te G E C) : Sb (tMk D sp E (tCons te tr)) G E C := fun M0 σ B M H Q q => h M0 σ B M H _ q
/-- xs[i], xs[j] = two values: xs one's own, i and j written -/
theorem ss_tupSet2 (h : G[n]? = some (.ow (isL ds))) (ha : Sv ta G (isD d1)) (hb : Sv tb G (isD d2)) {t1 t2 : TE} (h1 : Sv t1 G (isD (.int i1))) (h2 : ∀ {M0 : Hp} {σ : L2.St} {B M : Hp}, ∀ Q : VK, Q (.int i2) (jn B M) → t2 σ (jn B M) Q) (h1' : ∀ {M0 : Hp} {σ : L2.St} {B M : Hp}, ∀ Q : VK, Q (.int i1) (jn B M) → t1 σ (jn B M) Q) (hk1 : ixN ds.length i1 = some k1) (hk2 : ixN ds.length i2 = some k2) :
    Ss E (tAsg (tTup (tCons ta (tCons tb tNil))) (gTup K 2 (gCons (gSub (tVar n) t1 rSetL) (gCons (gSub (tVar n) t2 rSetL) gNil)))) G (.nx (G.set n (.ow (isL ((ds.set k1 d1).set k2 d2))))) := fun M0 D σ B M H q =>
  ha M0 σ B M H _ fun x B1 e1 dj1 p1 => hb M0 σ B1 M (H.ext e1 dj1) _ fun y B2 e2 dj2 p2 => by
    refine ⟨by show 2 ≤ sizeLine; decide, fun t ht => ?_⟩
    rw [upd_new ht]
    have e4 := e1.trans (e2.trans (ex_new (o := .tup [x, y]) ht))
    have dj4 := dj_new (o := .tup [x, y]) dj2 ht
    have H4 := H.ext e4 dj4
    have ex2 := ex_new (o := .tup [x, y]) ht
    refine ⟨t, _, rfl, st_of (jn_B dj4 upd_same), rfl, _, _, rfl, ?_⟩
    obtain ⟨l, ob, a, c, ⟨vs, rfl, r⟩, fr⟩ := H4.ow n _ h
    refine ⟨.ref l, a, h1' (M0 := M0) (σ := σ) _ ⟨l, vs, i1, k1, rfl, rfl, jn_M c, by rw [DqAll_len r]; exact hk1, ?_⟩⟩
    refine ⟨_, _, rfl, ?_⟩
    rw [upd_own]
    have p1' := Dq_ex (e2.trans ex2) d1 x p1
    have H5 := H4.change h a c (R' := isL (ds.set k1 d1)) ⟨_, rfl, DqAll_set p1' k1 r⟩
    refine ⟨.ref l, a, h2 (M0 := M0) (σ := σ) _ ⟨l, vs.set k1 x, i2, k2, rfl, rfl, jn_M upd_same, by rw [List.length_set, DqAll_len r]; exact hk2, ?_⟩⟩
    refine ⟨rfl, ?_⟩
    rw [upd_own]
    have hn : n < G.length := (List.getElem?_eq_some_iff.mp h).1
    have H6 := H5.change (n := n) (R := isL (ds.set k1 d1)) (R' := isL ((ds.set k1 d1).set k2 d2)) (List.getElem?_set_self hn) a upd_same ⟨_, rfl, DqAll_set (Dq_ex ex2 d2 y p2) k2 (DqAll_set p1' k1 r)⟩
    rw [List.set_set] at H6
    exact q _ _ _ e4 H6
theorem at_int {i : Int} : ∀ {M0 : Hp} {σ : L2.St} {B M : Hp}, ∀ Q : VK, Q (.int i) (jn B M) → tC (.int i) σ (jn B M) Q := fun Q q => q
theorem at_neg {i : Int} : ∀ {M0 : Hp} {σ : L2.St} {B M : Hp}, ∀ Q : VK, Q (.int (-i)) (jn B M) → tUn (rU fun i => .int (-i)) (tC (.int i)) σ (jn B M) Q := fun Q q => ⟨i, rfl, q⟩
end
end Mini

namespace Mini
open PySem L2 Evl PyProof.Rows

/-! ### enumerate of a text -/
def Ites (x : Str) : It := ⟨fun i _ => i < x.cps.size, fun i H v H' => ∃ T c, v = .ref T ∧ H T = none ∧ H' = upd H T (.tup [.int (i : Nat), .str ⟨#[c]⟩]) ∧ x.cps[i]? = some c, fun i _ => x.cps.size ≤ i⟩
theorem turn_enumS {P : Program} {w : World} {K : PySem.W.Frag} {elts : List Expr} {kk : Nat} {tpos : Pos} (x : Str) (t : Tok) (e it : Addr) :
    L2.Turn P w K (.Tuple elts kk tpos) (Ites x) [e, it] e (fun i h => (∃ old, IsEnum h e it ((i : Nat) : Int) old) ∧ h.IsStrIter it (strIterType x) x t i ∧ e ≠ it ∧ i ≤ x.cps.size) where
  mem := by simp
  obj := fun i h st b hb => by
    obtain ⟨⟨old, he⟩, ⟨o, ho, hc, hd⟩, _⟩ := st
    have e' : b = e ∨ b = it := by simpa using hb
    rcases e' with z | z
    · rw [z]; exact ⟨_, he, fun v q => nomatch q⟩
    · rw [z]; exact ⟨o, ho, fun v q => by rw [hd] at q; cases q⟩
  keep := fun i h h' st k => let ⟨⟨old, he⟩, ⟨o, ho, r⟩, hne⟩ := st; ⟨⟨old, k e (by simp) _ he⟩, ⟨o, k it (by simp) o ho, r⟩, hne⟩
  item := by
    intro X hP hw hK hc i pins s σ H E I hf st hg
    subst hP hw hK
    obtain ⟨⟨old, he⟩, hit, hne, hle⟩ := st
    have D : Draws X.prog X.w X.A.in1 it [it] x.cps.size (fun i v => ∃ c u, x.cps[i]? = some c ∧ v = .str ⟨#[c]⟩ u) (fun i h => h.IsStrIter it (strIterType x) x t i) := by
      unfold strIterType
      split
      · exact Draws.strAscii (A := X.A.in1) (show X.A.in1.handled = none from I.ok.hd hc) it x t
      · exact Draws.strWide (A := X.A.in1) (show X.A.in1.handled = none from I.ok.hd hc) it x t
    have hel : e < s.heap.objs.size := Heap.lt_size he
    have hil : it < s.heap.objs.size := by obtain ⟨_, q, _⟩ := hit; exact Heap.lt_size q
    refine wpAny_pyNext_enum_itemD D he hit hg hne (by simpa using hne) fun v h' tk hP ho hit' hT hsz hk => ?_
    obtain ⟨c, u, hcx, rfl⟩ := hP
    refine ⟨_, rfl, wpAny_letOwnedTupleGo_enum (s := { s with heap := h', toks := tk + 1 }) ho fun h'' he' sb => ?_⟩
    have hT2 : h''.get? s.heap.objs.size = some { cls := .type "tuple", data := .seq #[.int i tk, .str ⟨#[c]⟩ u] } := (sb.2 _ (Nat.ne_of_gt hel)).trans hT
    have new : ObjOk X.prog X.w (upd H s.heap.objs.size (.tup [.int (i : Nat), .str ⟨#[c]⟩])) h'' s.heap.objs.size (.tup [.int (i : Nat), .str ⟨#[c]⟩]) :=
      ⟨by show 2 ≤ sizeLine; decide, [.int i tk, .str ⟨#[c]⟩ u], .cons ⟨_, rfl⟩ (.cons ⟨_, rfl⟩ .nil), ⟨_, hT2, rfl, _, rfl⟩⟩
    have I1 : Inv X pins σ (upd H s.heap.objs.size (.tup [.int (i : Nat), .str ⟨#[c]⟩])) { s with heap := h'', toks := tk + 1 } :=
      I.turnedNew (ch := [e, it]) (fun b ob hb q => (sb.2 b (fun z => hb (by simp [z]))).trans (hk b ob (fun z => hb (by simp [z])) (fun z => hb (by simp [z])) q)) hf (Nat.le_refl _) new
    refine ⟨.ref s.heap.objs.size, _, I1, rfl, ⟨_, c, rfl, I.hok.fresh (Nat.le_refl _), rfl, hcx⟩, ⟨⟨.str ⟨#[c]⟩ u, ?_⟩, ?_, hne, hg⟩, fun b hb => ?_⟩
    · have e1 : ((i + 1 : Nat) : Int) = (i : Int) + 1 := by omega
      rw [e1]; exact he'
    · obtain ⟨o, ho2, r⟩ := hit'
      exact ⟨o, (sb.2 it (Ne.symm hne)).trans ho2, r⟩
    · have hb' : b < s.heap.objs.size := by
        have e' : b = e ∨ b = it := by simpa using hb
        rcases e' with z | z
        · rw [z]; exact hel
        · rw [z]; exact hil
      rw [upd_ne (Nat.ne_of_lt hb')]
      exact (hf b hb).1
  done := by
    intro X hP hw hK hc i pins s σ H E I hf st hg
    subst hP hw hK
    obtain ⟨⟨old, he⟩, hit, hne, hle⟩ := st
    have D : Draws X.prog X.w X.A.in1 it [it] x.cps.size (fun i v => ∃ c u, x.cps[i]? = some c ∧ v = .str ⟨#[c]⟩ u) (fun i h => h.IsStrIter it (strIterType x) x t i) := by
      unfold strIterType
      split
      · exact Draws.strAscii (A := X.A.in1) (show X.A.in1.handled = none from I.ok.hd hc) it x t
      · exact Draws.strWide (A := X.A.in1) (show X.A.in1.handled = none from I.ok.hd hc) it x t
    obtain ⟨f0, f1, f2, f3, f4, f5⟩ := hf it (by simp)
    obtain rfl : i = x.cps.size := Nat.le_antisymm hle hg
    exact wpAny_pyNext_enum_endD D he hit fun h' eb => ⟨rfl, I.turned (t' := s.toks) (fun b o hb q => eb b o hb q) f0 f1 f3 f4 f5⟩
  self := fun A i s Q E st h => let ⟨⟨_, he⟩, _⟩ := st; wpAny_pyIter_enum he h
def iEnumS (ta : TA) : TI := fun σ H R => ta σ H fun vs H1 => ∃ x, vs = [.str x] ∧ R (Ites x) H1
theorem pi_enumS {X : Cx} {e : Expr} {ta : TA} {p pos tpos : Pos} {elts : List Expr} {kk : Nat} (hg : Gl X "enumerate") (hm : X.mg "enumerate" = none) (ha : PA X [e] ta) (hs : starEach [e] X.env = [(false, eval e X.env)] := by rfl) :
    PI X (.Tuple elts kk tpos) (.Call (.Name "enumerate" p) [e] [] pos) (iEnumS ta) := by
  refine ⟨fun pins s σ H R I h => ?_⟩
  refine Call_ (ld_blt I hg hm boot_enumerate (PyProof.Rows.callWith_type1 (thn (ha.run pos pins s σ H _ I h) fun us s1 ⟨vs, H1, I1, r1, q1⟩ => ?_) hs rfl))
  obtain ⟨x, ex, q⟩ := q1
  subst ex
  cases r1 with
  | cons r rr =>
    cases rr
    obtain ⟨t, rfl⟩ := r
    refine call_enumerate_str fun h' he hit hsz hk => wpAny_pyIter_enum he ?_
    have I2 : Inv X pins σ H1 { s1 with heap := h' } := I1.kept (t' := s1.toks) hk
    refine ⟨s1.heap.objs.size + 1, [s1.heap.objs.size + 1, s1.heap.objs.size], _, _, H1, rfl, I2, turn_enumS x t (s1.heap.objs.size + 1) s1.heap.objs.size, ⟨⟨.none, he⟩, hit, Nat.succ_ne_self _, Nat.zero_le _⟩, fun b hb => ?_, q⟩
    have e' : b = s1.heap.objs.size + 1 ∨ b = s1.heap.objs.size := by simpa using hb
    have hle : s1.heap.objs.size ≤ b := by
      rcases e' with z | z
      · rw [z]; omega
      · rw [z]; exact Nat.le_refl _
    exact I1.fpOk hle (I1.hok.fresh hle)
end Mini

namespace Mini
open PySem L2 Evl PyProof.Rows

/-! ### texts: slices, items, joins -/
def uSlS (K : PySem.W.Frag) : V → Option Int → Option Int → Hp → VK → Prop := fun x lo hi H Q => uSl K x lo hi H Q ∨ rSlS x lo hi H Q
theorem sl_uSlS {X : Cx} : SlR X (uSlS X.K) := SlR.or sl_uSl sl_str
def rJoin (K : PySem.W.Frag) : V → List V → Hp → VK → Prop := fun x xs H Q => ∃ a p, ∃ ys : List Str, x = .str a ∧ xs = [.ref p] ∧ (SqL K H p (ys.map V.str) ∨ SqT K H p (ys.map V.str)) ∧
      (ys.map (·.length)).sum + ys.length * a.length ≤ 16777216 ∧ Q (.str (Txt.join a ys)) H
theorem DqAll_strs {H : Hp} : ∀ {ns : List Str} {vs : List V}, DqAll H vs (ns.map PyData.str) → vs = ns.map V.str
  | [], _, h => by cases h; rfl
  | n :: ns, _, h => by
    cases h with
    | cons a b => cases a; rw [DqAll_strs b]; rfl
section
variable {K : PySem.W.Frag} {E : L2.St → XK} {G : Gm} {ta tb tl te td ty tk tv : TE} {j l n : Nat} {ds : List PyData} {z w : Str} {i : Int}
theorem sv_catS (ha : Sv ta G (isD (.str z))) (hb : Sv tb G (isD (.str w))) (hz : z.length + w.length ≤ sizeLine) : Sv (tOp (uAdd K) ta tb) G (isD (.str (z ++ w))) := fun M0 σ B M H Q q =>
  ha M0 σ B M H _ fun x B1 e1 d1 p1 => hb M0 σ B1 M (H.ext e1 d1) _ fun y B2 e2 d2 p2 => by
    rw [dp_str p1, dp_str p2]
    exact .inr (.inr (.inr ⟨z, w, rfl, rfl, hz, q _ B2 (e1.trans e2) d2 (.str _)⟩))
theorem sv_lenS (ha : Sv ta G (isD (.str z))) (hz : z.length ≤ sizeLine) : Sv (tCB (fun xs H Q => ∃ x n, xs = [x] ∧ LenV K x H n ∧ Q (.int n) H) (tCons ta tNil)) G (isD (.int ((z.length : Nat) : Int))) := fun M0 σ B M H Q q =>
  ha M0 σ B M H _ fun x B1 e1 d1 p1 => ⟨x, z.length, rfl, by rw [dp_str p1]; exact ⟨hz, rfl⟩, q _ B1 e1 d1 (.int _)⟩
theorem sv_ixS {c : Nat} (ha : Sv ta G (isD (.str z))) (hb : Sv tb G (isD (.int i))) (hz : z.length ≤ sizeLine) (hi : atI z.cps.toList i = some c) : Sv (tOp (rIx K) ta tb) G (isD (.str ⟨#[c]⟩)) := fun M0 σ B M H Q q =>
  ha M0 σ B M H _ fun x B1 e1 d1 p1 => hb M0 σ B1 M (H.ext e1 d1) _ fun y B2 e2 d2 p2 => by
    rw [dp_str p1, dp_int p2]
    exact .inr (.inr ⟨z, i, c, rfl, rfl, hz, hi, q _ B2 (e1.trans e2) d2 (.str _)⟩)
theorem sv_sliceX {to th : TO} {lo hi : Option Int} (ha : Sv ta G (isD (.str z))) (hl : So to G lo) (hu : So th G hi) (hz : z.length ≤ sizeLine) : Sv (tSl (uSlS K) ta to th) G (isD (.str (cutS z lo hi))) := fun M0 σ B M H Q q =>
  ha M0 σ B M H _ fun x B1 e1 d1 p1 => hl M0 σ B1 M (H.ext e1 d1) _ fun B2 e2 d2 => hu M0 σ B2 M ((H.ext e1 d1).ext e2 d2) _ fun B3 e3 d3 => by
    rw [dp_str p1]
    exact .inr ⟨z, rfl, hz, q _ B3 ((e1.trans e2).trans e3) d3 (.str _)⟩
theorem sv_sliceTX {to th : TO} {lo hi : Option Int} (ha : Sv ta G (isD (.tuple ds))) (hl : So to G lo) (hu : So th G hi) : Sv (tSl (uSlS K) ta to th) G (isD (.tuple (cutD ds lo hi))) := fun M0 σ B M H Q q =>
  ha M0 σ B M H _ fun x B1 e1 d1 p1 => hl M0 σ B1 M (H.ext e1 d1) _ fun B2 e2 d2 => hu M0 σ B2 M ((H.ext e1 d1).ext e2 d2) _ fun B3 e3 d3 => by
    obtain ⟨a, vs, rfl, hh, q1⟩ := dq_tup ((isD (.tuple ds)).mono (e2.trans e3) p1)
    refine .inl (.inr ⟨a, vs, rfl, st_of (jn_B d3 hh), fun z => ?_, fun _ p hp => ?_⟩)
    · refine q _ B3 ((e1.trans e2).trans e3) d3 (.tup hh ?_)
      have w := DqAll_cut q1 lo hi
      unfold cutV at w
      rw [z.1, z.2, List.drop_zero, Nat.sub_zero, List.take_length] at w
      exact w
    · rw [upd_new hp]
      exact q _ _ (((e1.trans e2).trans e3).trans (ex_new hp)) (dj_new d3 hp) (.tup upd_same (DqAll_ex (ex_new hp) (DqAll_cut q1 lo hi)))
theorem sv_join {xs : List Str} (ha : Rl tl G (xs.map PyData.str)) (hz : (xs.map (·.length)).sum + xs.length * z.length ≤ 16777216) : Sv (tM1 (rJoin K) (tC (.str z)) tl) G (isD (.str (Txt.join z xs))) := fun M0 σ B M H Q q =>
  ⟨⟨z, rfl⟩, ha M0 σ B M H _ fun a vs B1 e1 d1 hh q1 => ⟨z, a, xs, rfl, rfl, .inl (by rw [← DqAll_strs q1]; exact sq_of hh), hz, q _ B1 e1 d1 (.str _)⟩⟩
/-- a comprehension over a text -/
theorem svl_lcS (h : Sv tl G (isD (.str z))) (g : Nat → PyData) (hj : j < G.length) (hz : z.cps.toList.length < 10000000) (he : ∀ c, c ∈ z.cps.toList → Sv te (Gv G j (.str ⟨#[c]⟩)) (isD (g c))) : Svl (tLc (iStr tl) (gName j) tYes te [j]) G (z.cps.toList.map g) := fun M0 σ B M H Q q => h M0 σ B M H _ fun v B1 e1 d1 p1 => by
  refine ⟨z, dp_str p1, fun Dl hD => ?_⟩
  have hM := (jn_free hD).2
  refine lc_it (walk_str (z := z)) (Pvc B1 M Dl fun i => (z.cps.toList.take i).map g) ⟨B1, [], by rw [upd_own], Ex.refl B1, dj_own d1 (jn_free hD).1, .nil⟩ (fun _ _ _ _ => trivial) (fun i x H' H'' hi p hy => ?_) (fun H' p => ?_)
  · obtain ⟨rfl, c, hc, rfl⟩ := hy
    obtain ⟨B', acc, rfl, e, dj, ha⟩ := p
    have hc' : z.cps.toList[i]? = some c := by rw [Array.getElem?_toList]; exact hc
    have hi' := (List.getElem?_eq_some_iff.mp hc').1
    refine lc_turn (es := fun i => (z.cps.toList.take i).map g) (b := true) (d := .str ⟨#[c]⟩) (y := g c) (H.ext e1 d1) hj hM e dj ha ?_ (.str _) st_yes (fun _ => he c (List.mem_of_getElem? hc')) ?_
    · show ((z.cps.toList.take i).map g).length < _
      rw [List.length_map, List.length_take, sizeLine_eq]; omega
    · rw [if_pos rfl]
      show (z.cps.toList.take (i + 1)).map g = (z.cps.toList.take i).map g ++ [g c]
      rw [List.take_succ, hc', List.map_append]; rfl
  · rw [← Array.length_toList] at p
    have := lc_end (es := fun i => (z.cps.toList.take i).map g) (i := z.cps.toList.length) hM (Ex.refl _) (fun p vs B' e dj hf hv => q p vs B' (e1.trans e) dj hf (by rw [List.take_length] at hv; exact hv)) H' p
    exact this

/-! ### dicts of data -/
def keyD : Key → PyData
  | .inl i => .int i
  | .inr s => .str s
def isDf (ks : List Key) (f : Key → PyData) : Ty := ⟨fun v B => ∃ a us, v = .ref a ∧ B a = some (.dK us) ∧ us.map (·.1) = ks ∧ ∀ p ∈ us, Dq B p.2 (f p.1),
  fun e ⟨a, us, h1, h2, h3, h4⟩ => ⟨a, us, h1, e _ _ h2, h3, fun p hp => Dq_ex e _ _ (h4 p hp)⟩⟩
theorem putK_new {us : List (Key × V)} {k : Key} {v : V} (h : k ∉ us.map (·.1)) : putK us k v = us ++ [(k, v)] := by
  unfold putK
  rw [if_neg]
  intro z
  obtain ⟨p, hp, e⟩ := List.any_eq_true.mp z
  exact h (List.mem_map.mpr ⟨p, hp, of_decide_eq_true e⟩)
theorem dp_key {B : Hp} {k : Key} {v : V} (h : (isD (keyD k)).p v B) : v = kV k := by
  cases k with
  | inl i => exact dp_int h
  | inr s => exact dp_str h
theorem sv_dgetF {ks : List Key} {f : Key → PyData} {k : Key} (hd : Sv td G (isDf ks f)) (hk : Sv ty G (isD (keyD k))) (hm : k ∈ ks) : Sv (tDGet td ty) G (isD (f k)) := fun M0 σ B M H Q q => hd M0 σ B M H _ fun v B1 e1 d1 p1 => by
  obtain ⟨a, us, rfl, h1, h2, h3⟩ := p1
  refine hk M0 σ B1 M (H.ext e1 d1) _ fun y B2 e2 d2 p2 => ?_
  rw [dp_key p2]
  have hf : (us.find? fun kv => decide (kv.1 = k)).isSome = true := by
    rw [List.find?_isSome]
    obtain ⟨p, hp, e⟩ := List.mem_map.mp (h2 ▸ hm)
    exact ⟨p, hp, decide_eq_true e⟩
  obtain ⟨p, hp⟩ := Option.isSome_iff_exists.mp hf
  have e0 := List.find?_some hp
  have ek : p.1 = k := of_decide_eq_true e0
  refine ⟨a, p.2, rfl, .inl ⟨us, k, .inl (jn_B d2 (e2 _ _ h1)), rfl, ?_⟩, ?_⟩
  · unfold valV; rw [hp]; rfl
  · exact q _ B2 (e1.trans e2) d2 (ek ▸ Dq_ex e2 _ _ (h3 p (List.mem_of_find?_eq_some hp)))
/-- what the dict is after some turns -/
def Pvd (B M : Hp) (Dl : Addr) (ks : List Key) (f : Key → PyData) (H : Hp) : Prop := ∃ B' us, H = jn B' (upd M Dl (.dK us)) ∧ Ex B B' ∧ Dj B' (upd M Dl (.dK us)) ∧ us.map (·.1) = ks ∧ ∀ p ∈ us, Dq B' p.2 (f p.1)
theorem dc_put {B M B3 : Hp} {Dl : Addr} {us : List (Key × V)} {ks : List Key} {f : Key → PyData} {k : Key} {v : V} (e : Ex B B3) (d : Dj B3 (upd M Dl (.dK us))) (h : us.map (·.1) = ks) (hn : k ∉ ks) (hf : ∀ p ∈ us, Dq B3 p.2 (f p.1)) (hv : Dq B3 v (f k)) :
    Pvd B M Dl (ks ++ [k]) f (upd (jn B3 (upd M Dl (.dK us))) Dl (.dK (putK us k v))) := by
  refine ⟨B3, us ++ [(k, v)], ?_, e, ?_, ?_, ?_⟩
  · rw [upd_own, upd_upd, putK_new (by rw [h]; exact hn)]
  · intro a u q
    have := d a u q
    by_cases z : a = Dl
    · rw [z, upd_same] at this; cases this
    · rw [upd_ne z] at this ⊢; exact this
  · rw [List.map_append, h]; rfl
  · intro p hp
    rcases List.mem_append.mp hp with z | z
    · exact hf p z
    · rw [List.mem_singleton] at z; rw [z]; exact hv
theorem dc_end {M0 B M : Hp} {Dl : Addr} {ks : List Key} {f : Key → PyData} {H : Hp} {σ : L2.St} {D : Ends} (h : Holds M0 G σ B M) (hM : M Dl = none) (hn : n < G.length) (p : Pvd B M Dl ks f H) (q : ∀ B', Ex B B' → ∀ σ' M', Holds M0 (G.set n (.im (isDf ks f))) σ' B' M' → D.nx σ' (jn B' M')) : D.nx (σ.set n (some (.ref Dl))) H := by
  obtain ⟨B', us, rfl, e, dj, h1, h2⟩ := p
  have hB' : B' Dl = none := dj_free dj upd_same
  have djM : Dj B' M := fun a u q => by
    have := dj a u q
    by_cases z : a = Dl
    · rw [z]; exact hM
    · rw [upd_ne z] at this; exact this
  rw [jn_push hM]
  have hDn : jn B' M Dl = none := by rw [jn_N hM]; exact hB'
  have eN : Ex B' (upd B' Dl (.dK us)) := ex_new hDn
  have djN : Dj (upd B' Dl (.dK us)) M := dj_push dj hM
  exact q _ (e.trans eN) _ _ (((h.ext e djM).ext eN djN).setIm hn ⟨Dl, us, rfl, upd_same, h1, fun p hp => Dq_ex eN _ _ (h2 p hp)⟩)
/-- y = {k: v for k in ints} -/
theorem ss_setDcL {ns : List Int} {f : Key → PyData} (h : Rl tl G (ns.map PyData.int)) (hnd : ns.Nodup) (hn : n < G.length) (hj : j < G.length) (hz : ns.length < 1000000) (hv : ∀ k ∈ ns, Sv tv (Gv G j (.int k)) (isD (f (.inl k)))) :
    Ss E (tAsg (tDc (iList K tl) (gName j) tYes (tVar j) tv [j]) (gName n)) G (.nx (G.set n (.im (isDf (ns.map Sum.inl) f)))) := fun M0 D σ B M H q => h M0 σ B M H _ fun a vs B1 e1 d1 hh q1 => by
  have hvs := DqAll_ints q1
  subst hvs
  refine ⟨a, rfl, ⟨_, sq_of hh⟩, fun Dl hD => ?_⟩
  have hM := (jn_free hD).2
  refine ⟨fun i m H' => i ≤ ns.length ∧ m = ns.length - i ∧ Pvd B1 M Dl ((ns.take i).map Sum.inl) f H', ⟨ns.length, Nat.zero_le _, rfl, B1, [], by rw [upd_own], Ex.refl B1, dj_own d1 (jn_free hD).1, rfl, fun p hp => by cases hp⟩, fun i m H' hW => ?_⟩
  obtain ⟨hle, rfl, B', us, rfl, e, dj, h1, h2⟩ := hW
  have hB' : B' Dl = none := dj_free dj upd_same
  have djM : Dj B' M := fun a u q => by
    have := dj a u q
    by_cases z : a = Dl
    · rw [z]; exact hM
    · rw [upd_ne z] at this; exact this
  have hS : SqL K (jn B' (upd M Dl (.dK us))) a (ns.map V.int) := by
    refine sq_of ?_
    have hne : a ≠ Dl := fun z => by rw [z, hD] at hh; cases hh
    unfold jn at hh ⊢
    rw [upd_ne hne]
    cases z : M a with
    | some u => rw [z] at hh; exact hh
    | none => rw [z] at hh; exact e _ _ hh
  by_cases z : i < ns.length
  · have hg : (ns.map V.int)[i]? = some (V.int ns[i]) := by rw [List.getElem?_map, List.getElem?_eq_getElem z]; rfl
    refine .inr ⟨⟨_, V.int ns[i], hS, hg⟩, fun H' => Pvd B1 M Dl ((ns.take (i + 1)).map Sum.inl) f H', fun H' p => ⟨ns.length - (i + 1), by omega, by omega, rfl, p⟩, fun x H' hy => ?_⟩
    obtain ⟨rfl, hx⟩ := hy
    obtain rfl : x = V.int ns[i] := by have := hx _ hS; rw [hg] at this; exact (Option.some.inj this).symm
    refine ⟨wipe_one σ j _, ?_⟩
    have H2 : Holds M0 (Gv G j (.int ns[i])) ((L2.wipe σ [j]).set j (some (V.int ns[i]))) B' (upd M Dl (.dK us)) := by
      have h1 := ((((H.ext e1 d1).ext e djM).wipes [j]).more (p := Dl) (o := .dK us) (show jn B' M Dl = none by rw [jn_N hM]; exact hB'))
      exact h1.setIm (by show j < (G.set j .no).length; rw [List.length_set]; exact hj) (.int _)
    refine tyes_ite ?_
    have hjj : ((L2.wipe σ [j]).set j (some (V.int ns[i])))[j]? = some (some (V.int ns[i])) := List.getElem?_set_self (by show j < (σ.set j none).length; rw [List.length_set, H.len]; exact hj)
    refine ⟨_, hjj, ?_⟩
    refine hv _ (List.getElem_mem z) M0 _ _ _ H2 _ fun y B4 e4 d4 p4 => ?_
    refine ⟨us, Sum.inl ns[i], rfl, jn_M upd_same, ?_, ?_⟩
    · have : (us.map (·.1)).length = ((ns.take i).map (Sum.inl : Int → Key)).length := by rw [h1]
      rw [List.length_map, List.length_map, List.length_take] at this
      rw [sizeLine_eq]
      omega
    · have et : (ns.take (i + 1)).map (Sum.inl : Int → Key) = (ns.take i).map Sum.inl ++ [Sum.inl ns[i]] := by rw [List.take_succ, List.getElem?_eq_getElem z, List.map_append]; rfl
      rw [et]
      refine dc_put (e.trans e4) d4 h1 ?_ (fun p hp => Dq_ex e4 _ _ (h2 p hp)) p4
      intro hm
      obtain ⟨y, hy, e⟩ := List.mem_map.mp hm
      have e : y = ns[i] := Sum.inl.inj e
      obtain ⟨k, hk, ek⟩ := List.mem_iff_getElem.mp hy
      rw [List.length_take] at hk
      rw [List.getElem_take] at ek
      have := nd_get hnd (i := k) (j := i) (by omega) z (ek.trans e)
      omega
  · have ei : i = ns.length := by omega
    subst ei
    refine .inl ⟨⟨_, hS, by rw [List.length_map]; exact Nat.le_refl _⟩, ?_⟩
    rw [List.take_length] at h1
    exact dc_end (H.ext e1 d1) hM hn ⟨B', us, rfl, e, dj, h1, h2⟩ fun B'' e'' σ' M' H' => q σ' B'' M' (e1.trans e'') H'
end
end Mini

namespace Mini
open PySem L2 Evl PyProof.Rows

def signK (c : Nat) : Key := Sum.inr ⟨#[c]⟩
theorem signK_inj {a b : Nat} (h : signK a = signK b) : a = b := by
  have := Sum.inr.inj h
  injection this with h
  injection h with h
  injection h
section
variable {K : PySem.W.Frag} {E : L2.St → XK} {G : Gm} {ta tb tl te td ty tk tv : TE} {j l n : Nat} {ds : List PyData} {z w : Str} {i : Int}
/-- y = {sign: number for number, sign in enumerate(text)} -/
theorem ss_setDcS {f : Key → PyData} (h : Sv tl G (isD (.str z))) (hnd : z.cps.toList.Nodup) (hn : n < G.length) (hj : j < G.length) (hl : l < G.length) (hjl : j ≠ l) (hz : z.cps.toList.length < 1000000) (hv : ∀ (i : Nat) c, z.cps.toList[i]? = some c → f (signK c) = .int (i : Int)) :
    Ss E (tAsg (tDc (iEnumS (tCons tl tNil)) (gTup K 2 (gCons (gName j) (gCons (gName l) gNil))) tYes (tVar l) (tVar j) [j, l]) (gName n)) G (.nx (G.set n (.im (isDf (z.cps.toList.map signK) f)))) := fun M0 D σ B M H q => h M0 σ B M H _ fun v B1 e1 d1 p1 => by
  refine ⟨z, by rw [dp_str p1], fun Dl hD => ?_⟩
  have hM := (jn_free hD).2
  have hsz : z.cps.size = z.cps.toList.length := (Array.length_toList).symm
  refine ⟨fun i m H' => i ≤ z.cps.toList.length ∧ m = z.cps.toList.length - i ∧ Pvd B1 M Dl ((z.cps.toList.take i).map signK) f H', ⟨z.cps.toList.length, Nat.zero_le _, rfl, B1, [], by rw [upd_own], Ex.refl B1, dj_own d1 (jn_free hD).1, rfl, fun p hp => by cases hp⟩, fun i m H' hW => ?_⟩
  obtain ⟨hle, rfl, B', us, rfl, e, dj, h1, h2⟩ := hW
  have hB' : B' Dl = none := dj_free dj upd_same
  have djM : Dj B' M := fun a u q => by
    have := dj a u q
    by_cases z : a = Dl
    · rw [z]; exact hM
    · rw [upd_ne z] at this; exact this
  by_cases hi : i < z.cps.toList.length
  · refine .inr ⟨by show i < z.cps.size; omega, fun H' => Pvd B1 M Dl ((z.cps.toList.take (i + 1)).map signK) f H', fun H' p => ⟨z.cps.toList.length - (i + 1), by omega, by omega, rfl, p⟩, fun x H' hy => ?_⟩
    obtain ⟨t, c, rfl, ht, rfl, hx⟩ := hy
    have hc : z.cps.toList[i]? = some c := by rw [Array.getElem?_toList]; exact hx
    rw [upd_new ht]
    refine ⟨t, _, rfl, st_of (jn_B (dj_new dj ht) upd_same), rfl, _, _, rfl, _, _, rfl, rfl, ?_⟩
    refine ⟨wipe_two2 σ hjl _ _, ?_⟩
    have et : Ex B' (upd B' t (.tup [V.int i, .str ⟨#[c]⟩])) := ex_new ht
    have djt : Dj (upd B' t (.tup [V.int i, .str ⟨#[c]⟩])) (upd M Dl (.dK us)) := dj_new dj ht
    refine tyes_ite ?_
    have hlen : ∀ τ : L2.St, τ.length = σ.length → ∀ u v : V, ((τ.set j (some u)).set l (some v))[j]? = some (some u) := fun τ ht u v => by
      rw [List.getElem?_set_ne (Ne.symm hjl)]
      exact List.getElem?_set_self (by rw [ht, H.len]; exact hj)
    have hw : (L2.wipe σ [j, l]).length = σ.length := by show ((σ.set l none).set j none).length = _; rw [List.length_set, List.length_set]
    have hjj := hlen _ hw (V.int i) (.str ⟨#[c]⟩)
    have hll : (((L2.wipe σ [j, l]).set j (some (V.int i))).set l (some (.str ⟨#[c]⟩)))[l]? = some (some (.str ⟨#[c]⟩)) := List.getElem?_set_self (by rw [List.length_set, hw, H.len]; exact hl)
    refine ⟨_, hll, _, hjj, us, signK c, rfl, jn_M upd_same, ?_, ?_⟩
    · have : (us.map (·.1)).length = ((z.cps.toList.take i).map signK).length := by rw [h1]
      rw [List.length_map, List.length_map, List.length_take] at this
      rw [sizeLine_eq]
      omega
    · have et2 : (z.cps.toList.take (i + 1)).map signK = (z.cps.toList.take i).map signK ++ [signK c] := by rw [List.take_succ, hc, List.map_append]; rfl
      show Pvd B1 M Dl ((z.cps.toList.take (i + 1)).map signK) f _
      rw [et2]
      refine dc_put (e.trans et) djt h1 ?_ (fun p hp => Dq_ex et _ _ (h2 p hp)) (by rw [hv i c hc]; exact .int _)
      intro hm
      obtain ⟨y, hy, e⟩ := List.mem_map.mp hm
      have e : y = c := signK_inj e
      obtain ⟨k, hk, ek⟩ := List.mem_iff_getElem.mp hy
      rw [List.length_take] at hk
      rw [List.getElem_take] at ek
      have hci : z.cps.toList[i] = c := by rw [List.getElem?_eq_getElem hi] at hc; exact Option.some.inj hc
      have := (List.getElem_inj (h₀ := by omega) (h₁ := hi) hnd).mp (ek.trans (e.trans hci.symm))
      omega
  · have ei : i = z.cps.toList.length := by omega
    subst ei
    refine .inl ⟨by show z.cps.size ≤ _; omega, ?_⟩
    rw [List.take_length] at h1
    exact dc_end (H.ext e1 d1) hM hn ⟨B', us, rfl, e, dj, h1, h2⟩ fun B'' e'' σ' M' H' => q σ' B'' M' (e1.trans e'') H'
end

/-! ### sorted(set(tuple of ints)) -/
theorem sorted_uniq : ∀ {a b : List Int}, a.Pairwise (· < ·) → b.Pairwise (· < ·) → (∀ k, k ∈ a ↔ k ∈ b) → a = b
  | [], [], _, _, _ => rfl
  | [], y :: b, _, _, h => absurd ((h y).mpr (List.mem_cons_self ..)) (List.not_mem_nil)
  | x :: a, [], _, _, h => absurd ((h x).mp (List.mem_cons_self ..)) (List.not_mem_nil)
  | x :: a, y :: b, ha, hb, h => by
    have ha' := List.pairwise_cons.mp ha
    have hb' := List.pairwise_cons.mp hb
    have e : x = y := by
      rcases List.mem_cons.mp ((h x).mp (List.mem_cons_self ..)) with z | z
      · exact z
      · rcases List.mem_cons.mp ((h y).mpr (List.mem_cons_self ..)) with w | w
        · exact w.symm
        · have := hb'.1 x z
          have := ha'.1 y w
          omega
    subst e
    have : a = b := sorted_uniq ha'.2 hb'.2 fun k => by
      constructor
      · intro hk
        have := ha'.1 k hk
        rcases List.mem_cons.mp ((h k).mp (List.mem_cons_of_mem _ hk)) with z | z
        · omega
        · exact z
      · intro hk
        have := hb'.1 k hk
        rcases List.mem_cons.mp ((h k).mpr (List.mem_cons_of_mem _ hk)) with z | z
        · omega
        · exact z
    rw [this]
def insI (x : Int) : List Int → List Int
  | [] => [x]
  | y :: r => if x < y then x :: y :: r else if x = y then y :: r else y :: insI x r
theorem insI_mem {x k : Int} : ∀ {l : List Int}, k ∈ insI x l ↔ k = x ∨ k ∈ l
  | [] => by simp [insI]
  | y :: r => by
    unfold insI
    by_cases c : x < y
    · rw [if_pos c]; simp
    · rw [if_neg c]
      by_cases d : x = y
      · rw [if_pos d, List.mem_cons, d]
        constructor
        · rintro (z | z)
          · exact .inl z
          · exact .inr (.inr z)
        · rintro (z | z | z)
          · exact .inl z
          · exact .inl z
          · exact .inr z
      · rw [if_neg d, List.mem_cons, insI_mem (l := r), List.mem_cons]
        constructor
        · rintro (z | z | z)
          · exact .inr (.inl z)
          · exact .inl z
          · exact .inr (.inr z)
        · rintro (z | z | z)
          · exact .inr (.inl z)
          · exact .inl z
          · exact .inr (.inr z)
theorem insI_sorted {x : Int} : ∀ {l : List Int}, l.Pairwise (· < ·) → (insI x l).Pairwise (· < ·)
  | [], _ => List.pairwise_singleton _ _
  | y :: r, h => by
    have h' := List.pairwise_cons.mp h
    unfold insI
    by_cases c : x < y
    · rw [if_pos c]
      refine List.pairwise_cons.mpr ⟨fun k hk => ?_, h⟩
      rcases List.mem_cons.mp hk with z | z
      · omega
      · have := h'.1 k z; omega
    · rw [if_neg c]
      by_cases d : x = y
      · rw [if_pos d]; exact h
      · rw [if_neg d]
        refine List.pairwise_cons.mpr ⟨fun k hk => ?_, insI_sorted h'.2⟩
        rcases insI_mem.mp hk with z | z
        · omega
        · exact h'.1 k z
def srt (ns : List Int) : List Int := ns.foldr insI []
theorem srt_mem {ns : List Int} {k : Int} : k ∈ srt ns ↔ k ∈ ns := by
  unfold srt
  induction ns with
  | nil => rfl
  | cons x ns ih => rw [List.foldr_cons, insI_mem, ih, List.mem_cons]
theorem srt_sorted : ∀ (ns : List Int), (srt ns).Pairwise (· < ·)
  | [] => .nil
  | x :: ns => insI_sorted (srt_sorted ns)
theorem srt_nodup (ns : List Int) : (srt ns).Nodup := (srt_sorted ns).imp fun h => by omega
theorem insI_len {x : Int} : ∀ {l : List Int}, (insI x l).length ≤ l.length + 1
  | [] => Nat.le_refl _
  | y :: r => by
    unfold insI
    split
    · exact Nat.le_refl _
    · split
      · exact Nat.le_succ _
      · have := insI_len (x := x) (l := r)
        rw [List.length_cons, List.length_cons]; omega
theorem srt_len : ∀ (ns : List Int), (srt ns).length ≤ ns.length
  | [] => Nat.le_refl _
  | x :: ns => by
    have := srt_len ns
    have := insI_len (x := x) (l := srt ns)
    show (insI x (srt ns)).length ≤ _
    rw [List.length_cons]; omega
/-- set(t), t a tuple of ints -/
def tSetT (w : World) (K : PySem.W.Frag) (ta : TE) : TE := fun σ H Q => ta σ H fun x H1 => ∃ (l : Addr) (ns : List Int), x = .ref l ∧ SqT K H1 l (ns.map V.int) ∧ ns.length ≤ 1000 ∧
  ∀ p c, H1 p = none → c ≤ ns.length → Q (.ref p) (upd H1 p (SetO w p (fun j => decide (j ∈ ns)) c))
theorem pe_setT {X : Cx} {a : Expr} {ta : TE} {p pos : Pos} (hc : X.calm = true) (hg : Gl X "set") (hm : X.mg "set" = none) (ha : PE X a ta) (hst : starEach [a] X.env = (false, eval a X.env) :: starEach [] X.env := by rfl) :
    PE X (.Call (.Name "set" p) [a] [] pos) (tSetT X.w X.K ta) := by
  refine ⟨fun pins s σ H Q I h => ?_⟩
  refine Call_ (ld_blt I hg hm boot_set (callWith_type1 (args_cons (thn (ha.run pins s σ H _ I h) fun v s1 hh => args_nil ?_) hst) hst))
  obtain ⟨x, H1, I1, r1, l, ns, rfl, hq, hl, q1⟩ := hh
  obtain rfl : v = Value.ref l := r1
  obtain ⟨its, rv, pt, hz⟩ := I1.tuple hq
  have hi : IntsAre its.toArray.toList ns := ints_of_vals rv
  have hd := I1.ok.hd hc
  refine call_set_tupI ns hd (show s1.heap.IsTuple l its.toArray from pt) hi (by unfold scanBound; omega) fun h' tk c R1 hcn k => ?_
  have hn : H1 s1.heap.objs.size = none := I1.hok.fresh (Nat.le_refl _)
  exact ⟨.ref s1.heap.objs.size, _, I1.laid (t' := tk) (h' := h') k (Nat.le_refl _) (setO_new (P := X.prog) (H := upd H1 s1.heap.objs.size (SetO X.w s1.heap.objs.size (fun j => decide (j ∈ ns)) c)) R1), rfl, q1 _ c hn hcn⟩
theorem svl_sortSet {w : World} {K : PySem.W.Frag} {G : Gm} {ta : TE} {ns : List Int} (ha : Sv ta G (isD (.tuple (ns.map .int)))) (hz : ns.length < 64) :
    Svl (tCB (rSortedSet w) (tCons (tSetT w K ta) tNil)) G ((srt ns).map PyData.int) := fun M0 σ B M H Q q => ha M0 σ B M H _ fun x B1 e1 d1 p1 => by
  obtain ⟨l, vs, rfl, hh, q1⟩ := dq_tup p1
  have hvs := DqAll_ints q1
  subst hvs
  refine ⟨l, ns, rfl, st_of (jn_B d1 hh), by omega, fun p c hp hc => ?_⟩
  refine ⟨p, _, c, rfl, by rw [upd_same], by omega, fun out p2 h1 h2 h3 hp2 => ?_⟩
  have eo : out = srt ns := sorted_uniq h1 (srt_sorted ns) fun k => by rw [h2 k, srt_mem]; exact decide_eq_true_iff
  subst eo
  rw [upd_new hp] at hp2 ⊢
  exact q p2 _ _ (e1.trans (ex_new hp)) (dj_new d1 hp) hp2 (DqAll_ofInts _)
end Mini

namespace Mini
open PySem L2 Evl PyProof.Rows

/-! ### a pair of data, some of it the module's, unpacked -/
section
variable {K : PySem.W.Frag} {E : L2.St → XK} {G : Gm} {te ta tb : TE} {i j : Nat} {d1 d2 : PyData}
theorem ss_unpP2 (h : Sv te G (isP K (.tuple [d1, d2]))) (hi : i < G.length := by exact Nat.le_of_ble_eq_true rfl) (hj : j < G.length := by exact Nat.le_of_ble_eq_true rfl) :
    Ss E (tAsg te (gTup K 2 (gCons (gName i) (gCons (gName j) gNil)))) G (.nx ((G.set i (.im (isP K d1))).set j (.im (isP K d2)))) := fun M0 D σ B M H q => by
  refine h M0 σ B M H _ fun v B' e dj p => ?_
  cases (show DqK K B' v (.tuple [d1, d2]) from p) with
  | tup hs hh =>
    cases hh with
    | cons p1 h2 => cases h2 with
      | cons p2 h2 =>
        cases h2
        refine ⟨_, _, rfl, jn_st dj hs, rfl, _, _, rfl, _, _, rfl, rfl, ?_⟩
        exact q _ B' M e (((H.ext e dj).setIm (P := isP K d1) hi p1).setIm (P := isP K d2) (by rw [List.length_set]; exact hj) p2)
end

/-! ### words as texts of signs -/
def signs : Str := "0123456789ABCDEFGHIJKLMNOPQRSTUVWXYZabcdefghijklmnopqrstuvwx"
def SLc : List Nat := [48, 49, 50, 51, 52, 53, 54, 55, 56, 57] ++ (List.range 26).map (· + 65) ++ (List.range 24).map (· + 97)
theorem SL_eq : signs.cps.toList = SLc := by decide +kernel
theorem SL_len : SLc.length = 60 := by decide +kernel
theorem SL_nd : SLc.Nodup := by decide +kernel
def sgC (i : Int) : Nat := SLc.getD i.toNat 0
def sg (w : List Int) : Str := ⟨(w.map sgC).toArray⟩
def InR (w : List Int) : Prop := ∀ v ∈ w, 0 ≤ v ∧ v < 60
theorem sg_list (w : List Int) : (sg w).cps.toList = w.map sgC := rfl
theorem sg_len (w : List Int) : (sg w).length = w.length := by
  show ((w.map sgC).toArray).size = _
  rw [List.size_toArray, List.length_map]
theorem sgC_lt (i : Int) : sgC i < 200 := by
  unfold sgC
  have h : ∀ c ∈ SLc, c < 200 := by decide +kernel
  rw [List.getD_eq_getElem?_getD]
  cases e : SLc[i.toNat]? with
  | none => show 0 < 200; decide
  | some c => exact h c (List.mem_of_getElem? e)
theorem sg_ok (w : List Int) : PyData.strOk (sg w) = true := by
  show ((w.map sgC).toArray).all (· < 0x110000) = true
  rw [List.all_toArray, List.all_map, List.all_eq_true]
  intro i _
  have := sgC_lt i
  exact decide_eq_true (by omega)
theorem sg_append (a b : List Int) : sg a ++ sg b = sg (a ++ b) := by
  apply TL.ext_tl
  rw [TL.tl_append]
  show a.map sgC ++ b.map sgC = (a ++ b).map sgC
  rw [List.map_append]
theorem sgC_at {i : Int} (h0 : 0 ≤ i) (h1 : i < 60) : SLc[i.toNat]? = some (sgC i) := by
  have h : i.toNat < SLc.length := by rw [SL_len]; omega
  unfold sgC
  rw [List.getD_eq_getElem?_getD, List.getElem?_eq_getElem h]; rfl
theorem idx_sgC {i : Int} (h0 : 0 ≤ i) (h1 : i < 60) : (SLc.idxOf (sgC i) : Int) = i := by
  have h : ∀ k : Fin 60, SLc.idxOf (SLc.getD k.val 0) = k.val := by decide +kernel
  have := h ⟨i.toNat, by omega⟩
  show ((SLc.idxOf (SLc.getD i.toNat 0) : Nat) : Int) = i
  have e : SLc.idxOf (SLc.getD i.toNat 0) = i.toNat := this
  rw [e]; omega
theorem sg_inj {a b : List Int} (ha : InR a) (hb : InR b) (h : sg a = sg b) : a = b := by
  have h : a.map sgC = b.map sgC := by
    have := congrArg TL.tl h
    exact this
  have back : ∀ {w : List Int}, InR w → (w.map sgC).map (fun c => ((SLc.idxOf c : Nat) : Int)) = w := fun {w} hw => by
    rw [List.map_map]
    conv => rhs; rw [← List.map_id w]
    exact List.map_congr_left fun v hv => idx_sgC (hw v hv).1 (hw v hv).2
  rw [← back ha, ← back hb, h]
theorem sg_eq_iff {a b : List Int} (ha : InR a) (hb : InR b) : (sg a == sg b) = decide (a = b) := by
  by_cases e : a = b
  · rw [e, decide_eq_true rfl]; exact beq_self_eq_true _
  · rw [decide_eq_false e]
    exact beq_false_of_ne fun h => e (sg_inj ha hb h)
theorem cutS_take (w : List Int) {k : Nat} : cutS (sg w) none (some (k : Int)) = sg (w.take k) := by
  unfold cutS
  rw [sg_list, sg_len]
  show (⟨((w.map sgC).drop 0 |>.take (HT.sIx w.length w.length (some (k : Int)) - 0)).toArray⟩ : Str) = ⟨((w.take k).map sgC).toArray⟩
  congr 2
  have e := cut_take (ds := w.map sgC) (i := (k : Int)) (by omega)
  unfold cutD at e
  rw [List.length_map] at e
  rw [List.map_take]
  rw [Int.toNat_natCast] at e
  exact e
theorem cutS_drop (w : List Int) {k : Nat} : cutS (sg w) (some (k : Int)) none = sg (w.drop k) := by
  unfold cutS
  rw [sg_list, sg_len]
  congr 2
  have e := cut_drop (ds := w.map sgC) (i := (k : Int)) (by omega)
  unfold cutD at e
  rw [List.length_map] at e
  rw [List.map_drop]
  rw [Int.toNat_natCast] at e
  exact e
theorem join_sg (w : List Int) : Txt.join "" (w.map fun i => (⟨#[sgC i]⟩ : Str)) = sg w := by
  rw [TL.join_eq]
  apply TL.ext_tl
  rw [TL.tl_join, List.map_map]
  show TL.joinL (TL.tl "") (w.map fun i => [sgC i]) = w.map sgC
  have e0 : TL.tl "" = [] := by decide +kernel
  rw [e0]
  induction w with
  | nil => rfl
  | cons i w ih =>
    cases w with
    | nil => rfl
    | cons k w =>
      show [sgC i] ++ ([] ++ TL.joinL [] ((k :: w).map fun i => [sgC i])) = _
      rw [ih]; rfl
/-- a word, plain or as a text of signs -/
def SqD (b : Bool) (w : List Int) : PyData := if b then .str (sg w) else .tuple (w.map .int)
def pairQ (b : Bool) (x y : List Int) : PyData := .tuple [SqD b x, SqD b y]
def stT (K : PySem.W.Frag) (b : Bool) (x y : List Int) : Ty := if b then isP K (pairQ true x y) else isD (pairQ false x y)
section
variable {K : PySem.W.Frag} {G : Gm} {ta tb : TE} {b : Bool} {v w : List Int}
theorem sv_lenQ (ha : Sv ta G (isP K (SqD b w))) (hz : w.length ≤ sizeLine) : Sv (tCB (fun xs H Q => ∃ x n, xs = [x] ∧ LenV K x H n ∧ Q (.int n) H) (tCons ta tNil)) G (isD (.int ((w.length : Nat) : Int))) := by
  cases b with
  | true => exact sv_is (sv_lenS (sv_pA (show AtomP (.str (sg w)) from sg_ok w) ha) (by rw [sg_len]; exact hz)) (by rw [sg_len])
  | false => exact sv_is (sv_lenP (ds := w.map .int) ha) (by rw [List.length_map])
theorem sv_catQ (ha : Sv ta G (isD (SqD b v))) (hb : Sv tb G (isD (SqD b w))) (hz : v.length + w.length ≤ sizeLine) : Sv (tOp (uAdd K) ta tb) G (isD (SqD b (v ++ w))) := by
  cases b with
  | true => exact sv_is (sv_catS (z := sg v) (w := sg w) ha hb (by rw [sg_len, sg_len]; exact hz)) (by rw [sg_append]; rfl)
  | false => exact sv_is (sv_catT (ds := v.map .int) (es := w.map .int) ha hb (by rw [List.length_map, List.length_map]; exact hz)) (by rw [← List.map_append]; rfl)
theorem sv_takeQ {k : Nat} (ha : Sv ta G (isD (SqD b w))) (hk : Sv tb G (isD (.int (k : Int)))) (hz : w.length ≤ sizeLine) : Sv (tSl (uSlS K) ta tNoPart (tPart tb)) G (isD (SqD b (w.take k))) := by
  cases b with
  | true => exact sv_is (sv_sliceX (z := sg w) ha so_none (so_some hk) (by rw [sg_len]; exact hz)) (by rw [cutS_take]; rfl)
  | false => exact sv_is (sv_sliceTX (ds := w.map .int) ha so_none (so_some hk)) (by rw [cut_take _ (by omega), Int.toNat_natCast, ← List.map_take]; rfl)
theorem sv_dropQ {k : Nat} (ha : Sv ta G (isD (SqD b w))) (hk : Sv tb G (isD (.int (k : Int)))) (hz : w.length ≤ sizeLine) : Sv (tSl (uSlS K) ta (tPart tb) tNoPart) G (isD (SqD b (w.drop k))) := by
  cases b with
  | true => exact sv_is (sv_sliceX (z := sg w) ha (so_some hk) so_none (by rw [sg_len]; exact hz)) (by rw [cutS_drop]; rfl)
  | false => exact sv_is (sv_sliceTX (ds := w.map .int) ha (so_some hk) so_none) (by rw [cut_drop _ (by omega), Int.toNat_natCast, ← List.map_drop]; rfl)
theorem sv_st0 {m : Nat} {x y : List Int} (h : G[m]? = some (.im (stT K b x y))) : Sv (tOp (rIx K) (tVar m) (tC (.int 0))) G (isD (SqD b x)) := by
  cases b with
  | true => exact sv_pA (show AtomP (.str (sg x)) from sg_ok x) (sv_ixP (ds := [SqD true x, SqD true y]) (i := ((0 : Nat) : Int)) (sv_var h) sv_int (atI_nat rfl))
  | false => exact sv_ixT (ds := [SqD false x, SqD false y]) (i := ((0 : Nat) : Int)) (sv_var h) sv_int (atI_nat rfl)
theorem sv_st1 {m : Nat} {x y : List Int} (h : G[m]? = some (.im (stT K b x y))) : Sv (tOp (rIx K) (tVar m) (tC (.int 1))) G (isD (SqD b y)) := by
  cases b with
  | true => exact sv_pA (show AtomP (.str (sg y)) from sg_ok y) (sv_ixP (ds := [SqD true x, SqD true y]) (i := ((1 : Nat) : Int)) (sv_var h) sv_int (atI_nat rfl))
  | false => exact sv_ixT (ds := [SqD false x, SqD false y]) (i := ((1 : Nat) : Int)) (sv_var h) sv_int (atI_nat rfl)
end
end Mini

namespace Mini
open PySem L2 Evl PyProof.Rows
/-- a call without arguments -/
theorem pe_fn0 {X : Cx} {k : Nat} {x : Str} {sp : Sp} {E : L2.St → XK} {p pos : Pos} (c : FnC X.prog X.w X.K X.mg X.base k x sp) {j : Nat} (hr : Room j X.A) (hx : ∀ σ, PassesAt (L2.CX X.prog X.w) X σ (E σ)) (hk : k ≤ j := by decide) (hg : Gl X x := by rfl)
    (hdb : (x == ("__debug__" : Str)) = false := by decide) : PE X (.Call (.Name x p) [] [] pos) (tCallS sp E tNil) := by
  obtain ⟨f, fd, ps, F, hm, kp, hb⟩ := c.ex
  refine ⟨fun pins s σ H Q I h => ?_⟩
  refine wpAny_Call_Name_kw (ld_glob I hg hm ?_ hdb)
  exact PySem.W.callWith_K0 I.kIn kp (run_fnS (us := []) F (hr.mono hk) hb (hx σ) I .nil h)
end Mini

namespace Mini
open PySem L2 Evl PyProof.Rows
/-! ### len of a dict -/
def rLenDk : List V → Hp → VK → Prop := fun xs H Q => ∃ a kvs, xs = [V.ref a] ∧ H a = some (.dK kvs) ∧ Q (.int kvs.length) H
theorem sv_lenDi {G : Gm} {ta : TE} {kvs : List (Int × Int)} (h : Sv ta G (isDi kvs)) : Sv (tCB rLenDk (tCons ta tNil)) G (isD (.int ((kvs.length : Nat) : Int))) := fun M0 σ B M H Q q => h M0 σ B M H _ fun v B1 e1 d1 p1 => by
  obtain ⟨a, rfl, h1⟩ := p1
  refine ⟨a, dkV kvs, rfl, jn_B d1 h1, ?_⟩
  have e : (dkV kvs).length = kvs.length := by unfold dkV; rw [List.length_map]
  rw [e]
  exact q _ B1 e1 d1 (.int _)
theorem sv_lenDf {G : Gm} {ta : TE} {ks : List Key} {f : Key → PyData} (h : Sv ta G (isDf ks f)) : Sv (tCB rLenDk (tCons ta tNil)) G (isD (.int ((ks.length : Nat) : Int))) := fun M0 σ B M H Q q => h M0 σ B M H _ fun v B1 e1 d1 p1 => by
  obtain ⟨a, us, rfl, h1, h2, h3⟩ := p1
  refine ⟨a, us, rfl, jn_B d1 h1, ?_⟩
  have e : us.length = ks.length := by rw [← h2, List.length_map]
  rw [e]
  exact q _ B1 e1 d1 (.int _)
end Mini

namespace Mini
open PySem L2 Evl PyProof.Rows

/-! ### ghosts: objects that a def may change, though no slot owns them -/
abbrev Gx := List (Addr × Ow)
/-- the ghosts are there, and no caller's -/
structure XOk (X : Gx) (M0 B M : Hp) : Prop where
  nd : (X.map (·.1)).Nodup
  m0 : ∀ x ∈ X, M0 x.1 = none
  ob : ∀ x ∈ X, ∃ o, M x.1 = some o ∧ x.2.r x.1 o B
/-- .. and no slot owns them -/
structure GOk (X : Gx) (M0 : Hp) (G : Gm) (σ : L2.St) (B M : Hp) : Prop extends XOk X M0 B M where
  ns : ∀ x ∈ X, ∀ (i : Nat) (R : Ow), G[i]? = some (Sl.ow R) → σ[i]? ≠ some (some (V.ref x.1))
inductive Og where
  | nx (G : Gm) (X : Gx)
  | rt (P : Ty) (X : Gx)
  | bad (C : Addr) (X : Gx)
def anyO : Ow := ⟨fun _ _ _ => True, fun _ _ => trivial⟩
def Og.ok (o : Og) (E : XK) (D : Ends) (M0 B : Hp) : Prop := match o with
  | .nx G X => ∀ σ' B' M', Ex B B' → Holds M0 G σ' B' M' → GOk X M0 G σ' B' M' → D.nx σ' (jn B' M')
  | .rt P X => ∀ v B' M', Ex B B' → Dj B' M' → Ex M0 M' → P.p v B' → XOk X M0 B' M' → D.rt v (jn B' M')
  | .bad C X => ∀ B' M', Ex B B' → Dj B' M' → Ex M0 M' → XOk X M0 B' M' → E (.ref C) none (jn B' M')
theorem Og.ok.ext {o : Og} {E : XK} {D : Ends} {M0 B B1 : Hp} (h : o.ok E D M0 B) (e : Ex B B1) : o.ok E D M0 B1 := by
  cases o with
  | nx G X => exact fun σ' B' M' e' => h σ' B' M' (e.trans e')
  | rt P X => exact fun v B' M' e' => h v B' M' (e.trans e')
  | bad C X => exact fun B' M' e' => h B' M' (e.trans e')
def Sg (E : XK) (ts : TS) (G : Gm) (X : Gx) (o : Og) : Prop := ∀ (M0 : Hp) (D : Ends) (σ : L2.St) (B M : Hp), Holds M0 G σ B M → GOk X M0 G σ B M → o.ok E D M0 B → ts D σ (jn B M)
/-- the caller's heap, with the ghosts -/
def fr (X : Gx) (M0 M : Hp) : Hp := fun a => if a ∈ X.map (·.1) then M a else M0 a
theorem fr_in {X : Gx} {M0 M : Hp} {a : Addr} (h : a ∈ X.map (·.1)) : fr X M0 M a = M a := if_pos h
theorem fr_out {X : Gx} {M0 M : Hp} {a : Addr} (h : a ∉ X.map (·.1)) : fr X M0 M a = M0 a := if_neg h
theorem fr_ex {X : Gx} {M0 M : Hp} (h : Ex M0 M) : Ex (fr X M0 M) M := fun a o e => by
  by_cases z : a ∈ X.map (·.1)
  · rwa [fr_in z] at e
  · rw [fr_out z] at e; exact h a o e
def noBw (G : Gm) : Prop := ∀ (i : Nat) R, G[i]? ≠ some (.bw R)
def noBwB : Gm → Bool
  | [] => true
  | .bw _ :: _ => false
  | _ :: G => noBwB G
theorem noBw_of : ∀ {G : Gm}, noBwB G = true → noBw G
  | [], _, i, R, h => by simp at h
  | .bw _ :: _, h, _, _, _ => by cases h
  | .no :: G, h, i, R, e => by cases i with
    | zero => simp at e
    | succ i => exact noBw_of (G := G) h i R (by simpa using e)
  | .im _ :: G, h, i, R, e => by cases i with
    | zero => simp at e
    | succ i => exact noBw_of (G := G) h i R (by simpa using e)
  | .ow _ :: G, h, i, R, e => by cases i with
    | zero => simp at e
    | succ i => exact noBw_of (G := G) h i R (by simpa using e)
section
variable {E : XK} {X X1 X2 Y : Gx} {M0 B M B' M' : Hp} {G G1 G' : Gm} {σ σ' : L2.St} {ts tu : TS} {te ta : TE} {tt : TT} {o : Og} {P : Ty} {R : Ow} {C : Addr} {b : Bool} {n : Nat}
theorem GOk.fr (g : GOk X M0 G σ B M) (H : Holds M0 G σ B M) : Holds (fr X M0 M) G σ B M where
  len := H.len
  dj := H.dj
  cal := fr_ex H.cal
  im := H.im
  ow := fun i R q => by
    obtain ⟨l, o, a, b, c, d⟩ := H.ow i R q
    refine ⟨l, o, a, b, c, ?_⟩
    have z : l ∉ X.map (·.1) := fun z => by
      obtain ⟨x, hx, e⟩ := List.mem_map.mp z
      exact g.ns x hx i R q (by rw [e]; exact a)
    rw [fr_out z]; exact d
  bw := fun i R q => by
    obtain ⟨l, o, a, b, c⟩ := H.bw i R q
    refine ⟨l, o, a, ?_, c⟩
    have z : l ∉ X.map (·.1) := fun z => by
      obtain ⟨x, hx, e⟩ := List.mem_map.mp z
      have := g.m0 x hx
      rw [e, b] at this; cases this
    rw [fr_out z]; exact b
  ne := H.ne
theorem XOk.back (g : XOk X M0 B M) (e : Ex B B') (c : Ex (Mini.fr X M0 M) M') : XOk X M0 B' M' where
  nd := g.nd
  m0 := g.m0
  ob := fun x hx => by
    obtain ⟨o, h1, h2⟩ := g.ob x hx
    exact ⟨o, c _ _ (by rw [fr_in (List.mem_map.mpr ⟨x, hx, rfl⟩)]; exact h1), x.2.mono e h2⟩
theorem XOk.cal (g : XOk X M0 B M) (c : Ex (Mini.fr X M0 M) M') : Ex M0 M' := fun a o h => by
  have z : a ∉ X.map (·.1) := fun z => by
    obtain ⟨x, hx, e⟩ := List.mem_map.mp z
    have := g.m0 x hx
    rw [e, h] at this; cases this
  exact c a o (by rw [fr_out z]; exact h)
theorem XOk.unfr (g : XOk X M0 B M) (e : Ex B B') (H : Holds (Mini.fr X M0 M) G' σ' B' M') (nb : noBw G') : Holds M0 G' σ' B' M' ∧ GOk X M0 G' σ' B' M' := by
  have hx : ∀ (i : Nat) R, G'[i]? = some (.ow R) → ∃ l o, σ'[i]? = some (some (.ref l)) ∧ M' l = some o ∧ R.r l o B' ∧ M0 l = none ∧ l ∉ X.map (·.1) := fun i R q => by
    obtain ⟨l, o, a, b, c, d⟩ := H.ow i R q
    have z : l ∉ X.map (·.1) := fun z => by
      rw [fr_in z] at d
      obtain ⟨x, hx, e⟩ := List.mem_map.mp z
      obtain ⟨o, h, _⟩ := g.ob x hx
      rw [e, d] at h; cases h
    rw [fr_out z] at d
    exact ⟨l, o, a, b, c, d, z⟩
  refine ⟨⟨H.len, H.dj, g.cal H.cal, H.im, fun i R q => ?_, fun i R q => absurd q (nb i R), H.ne⟩, { toXOk := g.back e H.cal, ns := fun x hx' i R q s => ?_ }⟩
  · obtain ⟨l, o, a, b, c, d, _⟩ := hx i R q
    exact ⟨l, o, a, b, c, d⟩
  · obtain ⟨l, o, a, b, c, d, z⟩ := hx i R q
    rw [a] at s
    cases s
    exact z (List.mem_map.mpr ⟨x, hx', rfl⟩)
/-- what does not touch the ghosts -/
theorem sg_nx (h : Ss (fun _ => E) ts G (.nx G')) (nb : noBwB G' = true) : Sg E ts G X (.nx G' X) := fun M0 D σ B M H g q =>
  h _ D σ B M (g.fr H) fun σ' B' M' e H' => by
    obtain ⟨h1, h2⟩ := g.toXOk.unfr e H' (noBw_of nb)
    exact q σ' B' M' e h1 h2
theorem sg_rt (h : Ss (fun _ => E) ts G (.rt P)) : Sg E ts G X (.rt P X) := fun M0 D σ B M H g q =>
  h _ D σ B M (g.fr H) fun v B' M' e d c p => q v B' M' e d (g.toXOk.cal c) p (g.toXOk.back e c)
theorem sg_bad (h : Ss (fun _ => E) ts G (.bad C G')) : Sg E ts G X (.bad C X) := fun M0 D σ B M H g q =>
  h _ D σ B M (g.fr H) fun σ' B' M' e H' => q B' M' e H'.dj (g.toXOk.cal H'.cal) (g.toXOk.back e H'.cal)
theorem sg_seq (h : Sg E ts G X (.nx G1 X1)) (k : Sg E tu G1 X1 o) : Sg E (tSeq ts tu) G X o := fun M0 D σ B M H g q => h M0 { D with nx := tu D } σ B M H g fun σ' B' M' e H' g' => k M0 D σ' B' M' H' g' (q.ext e)
theorem sg_seqRt (h : Sg E ts G X (.rt P Y)) : Sg E (tSeq ts tu) G X (.rt P Y) := fun M0 D σ B M H g q => h M0 { D with nx := tu D } σ B M H g q
theorem sg_seqBad (h : Sg E ts G X (.bad C Y)) : Sg E (tSeq ts tu) G X (.bad C Y) := fun M0 D σ B M H g q => h M0 { D with nx := tu D } σ B M H g q
/-- a test -/
def Stg (tt : TT) (G : Gm) (X : Gx) (b : Bool) : Prop := ∀ (M0 : Hp) (σ : L2.St) (B M : Hp), Holds M0 G σ B M → GOk X M0 G σ B M → ∀ Q : Bool → Hp → Prop, (∀ B', Ex B B' → Dj B' M → Q b (jn B' M)) → tt σ (jn B M) Q
/-- an expression -/
def Svg (te : TE) (G : Gm) (X : Gx) (P : Ty) : Prop := ∀ (M0 : Hp) (σ : L2.St) (B M : Hp), Holds M0 G σ B M → GOk X M0 G σ B M → ∀ Q : VK, (∀ v B', Ex B B' → Dj B' M → P.p v B' → Q v (jn B' M)) → te σ (jn B M) Q
theorem svg (h : Sv te G P) : Svg te G X P := fun M0 σ B M H _ Q q => h M0 σ B M H Q q
theorem stg (h : St' tt G b) : Stg tt G X b := fun M0 σ B M H _ Q q => h M0 σ B M H Q q
theorem GOk.ext (g : GOk X M0 G σ B M) (e : Ex B B') : GOk X M0 G σ B' M where
  nd := g.nd
  m0 := g.m0
  ob := fun x hx => by obtain ⟨o, a, b⟩ := g.ob x hx; exact ⟨o, a, x.2.mono e b⟩
  ns := g.ns
theorem sg_if {P1 : Bool} (h : Stg tt G X P1) (h1 : P1 = true → Sg E ts G X o) (h2 : P1 = false → Sg E tu G X o) : Sg E (tIfS tt ts tu) G X o := fun M0 D σ B M H g q => h M0 σ B M H g _ fun B' e d => by
  cases P1 with
  | true => exact h1 rfl M0 D σ B' M (H.ext e d) (g.ext e) (q.ext e)
  | false => exact h2 rfl M0 D σ B' M (H.ext e d) (g.ext e) (q.ext e)
theorem sg_next : Sg E tNext G X (.nx G X) := fun M0 D σ B M H g q => q σ B M (Ex.refl B) H g
theorem sg_ret (h : Svg te G X P) : Sg E (tRet te) G X (.rt P X) := fun M0 D σ B M H g q => h M0 σ B M H g _ fun v B' e d p => q v B' M e d H.cal p (g.ext e).toXOk
theorem GOk.set (g : GOk X M0 G σ B M) (n : Nat) (P : Ty) (v : V) : GOk X M0 (G.set n (.im P)) (σ.set n (some v)) B M where
  nd := g.nd
  m0 := g.m0
  ob := g.ob
  ns := fun x hx i R q => by
    by_cases z : i = n
    · subst z
      rw [List.getElem?_set] at q
      split at q
      · split at q <;> simp at q
      · rename_i c; exact absurd rfl c
    · rw [List.getElem?_set_ne (Ne.symm z)] at q ⊢
      exact g.ns x hx i R q
theorem sg_set (h : Svg te G X P) (hn : n < G.length := by exact Nat.le_of_ble_eq_true rfl) : Sg E (tAsg te (gName n)) G X (.nx (G.set n (.im P)) X) := fun M0 D σ B M H g q => h M0 σ B M H g _ fun v B' e d p =>
  q _ B' M e ((H.ext e d).setIm hn p) ((g.ext e).set n P v)
theorem sg_le {G2 : Gm} (h : Sg E ts G X (.nx G1 X1)) (l : Le G1 G2) (hns : ∀ (i : Nat) R, G2[i]? = some (.ow R) → G1[i]? = some (.ow R)) : Sg E ts G X (.nx G2 X1) := fun M0 D σ B M H g q => h M0 D σ B M H g fun σ' B' M' e H' g' =>
  q σ' B' M' e (H'.le l) { toXOk := g'.toXOk, ns := fun x hx i R z => g'.ns x hx i R (hns i R z) }
/-- a slot that shows a ghost, seen as one's caller's -/
theorem GOk.view (g : GOk X M0 G σ B M) (H : Holds M0 G σ B M) {p : Addr} (hn : G[n]? = some (.im (isV (.ref p)))) (hx : (p, R) ∈ X) : Holds (Mini.fr X M0 M) (G.set n (.bw R)) σ B M := by
  have F := g.fr H
  have hlt := (List.getElem?_eq_some_iff.mp hn).1
  refine ⟨by rw [List.length_set]; exact F.len, F.dj, F.cal, fun i P q => ?_, fun i R' q => ?_, fun i R' q => ?_, fun i j R1 R2 l q1 q2 s1 s2 => ?_⟩
  · by_cases z : i = n
    · subst z; rw [List.getElem?_set_self hlt] at q; cases q
    · rw [List.getElem?_set_ne (Ne.symm z)] at q; exact F.im i P q
  · by_cases z : i = n
    · subst z; rw [List.getElem?_set_self hlt] at q; cases q
    · rw [List.getElem?_set_ne (Ne.symm z)] at q; exact F.ow i R' q
  · by_cases z : i = n
    · subst z
      rw [List.getElem?_set_self hlt] at q
      cases q
      obtain ⟨v, h1, h2⟩ := H.im i _ hn
      obtain rfl : v = .ref p := h2
      obtain ⟨o, h3, h4⟩ := g.ob _ hx
      exact ⟨p, o, h1, by rw [fr_in (List.mem_map.mpr ⟨_, hx, rfl⟩)]; exact h3, h4⟩
    · rw [List.getElem?_set_ne (Ne.symm z)] at q; exact F.bw i R' q
  · have c : ∀ (i : Nat) R', (G.set n (.bw R))[i]? = some (.ow R') → G[i]? = some (.ow R') := fun i R' q => by
      by_cases z : i = n
      · subst z; rw [List.getElem?_set_self hlt] at q; cases q
      · rw [List.getElem?_set_ne (Ne.symm z)] at q; exact q
    exact F.ne i j R1 R2 l (c i R1 q1) (c j R2 q2) s1 s2
theorem svg_view {p : Addr} (h : Sv te (G.set n (.bw R)) P) (hn : G[n]? = some (.im (isV (.ref p)))) (hx : (p, R) ∈ X) : Svg te G X P := fun M0 σ B M H g Q q => h _ σ B M (g.view H hn hx) Q q
theorem stg_view {p : Addr} (h : St' tt (G.set n (.bw R)) b) (hn : G[n]? = some (.im (isV (.ref p)))) (hx : (p, R) ∈ X) : Stg tt G X b := fun M0 σ B M H g Q q => h _ σ B M (g.view H hn hx) Q q
/-- the ghosts in another order -/
theorem sg_perm (h : Sg E ts G Y o) (p : X.Perm Y) : Sg E ts G X o := fun M0 D σ B M H g q => h M0 D σ B M H
  { nd := (p.map _).nodup_iff.mp g.nd, m0 := fun x hx => g.m0 x (p.mem_iff.mpr hx), ob := fun x hx => g.ob x (p.mem_iff.mpr hx), ns := fun x hx => g.ns x (p.mem_iff.mpr hx) } q
theorem sg_permO (h : Sg E ts G X (.nx G1 X1)) (p : X1.Perm X2) : Sg E ts G X (.nx G1 X2) := fun M0 D σ B M H g q => h M0 D σ B M H g fun σ' B' M' e H' g' => q σ' B' M' e H'
  { nd := (p.map _).nodup_iff.mp g'.nd, m0 := fun x hx => g'.m0 x (p.mem_iff.mpr hx), ob := fun x hx => g'.ob x (p.mem_iff.mpr hx), ns := fun x hx => g'.ns x (p.mem_iff.mpr hx) }
end
end Mini

namespace Mini
open PySem L2 Evl PyProof.Rows

/-! ### what a def promises that changes ghosts -/
inductive Rm where
  | ok (P : Ty) (X : Gx)
  | bad (C : Addr)
structure Fm where
  α : Type
  n : Nat
  ars : α → List Ty
  len : ∀ x, (ars x).length = n
  gh : α → Gx
  res : α → Rm
/-- the ghosts stand in M, as told -/
structure XIn (X : Gx) (B M : Hp) : Prop where
  nd : (X.map (·.1)).Nodup
  ob : ∀ x ∈ X, ∃ o, M x.1 = some o ∧ x.2.r x.1 o B
def Rm.wp (r : Rm) (ad : List Addr) (B M : Hp) (Q : VK) (E : XK) : Prop := match r with
  | .ok P X => X.map (·.1) = ad ∧ ∀ v B' M', Ex B B' → Dj B' M' → (∀ a, a ∉ ad → M' a = M a) → (∀ x ∈ X, ∃ o, M' x.1 = some o ∧ x.2.r x.1 o B') → P.p v B' → Q v (jn B' M')
  | .bad C => ∀ B' M', Ex B B' → Dj B' M' → (∀ a, a ∉ ad → M' a = M a) → (∀ a ∈ ad, ∃ o, M' a = some o) → E (.ref C) none (jn B' M')
def spM (S : Fm) : Sp := fun vs H Q E => ∃ (x : S.α) (B M : Hp), H = jn B M ∧ Dj B M ∧ ArsOk ((S.ars x).map Ar.im) vs B M ∧ XIn (S.gh x) B M ∧ (S.res x).wp ((S.gh x).map (·.1)) B M Q E
theorem spM_len {S : Fm} {vs H Q E} (h : spM S vs H Q E) : vs.length = S.n := by
  obtain ⟨x, B, M, _, _, a, _⟩ := h
  rw [a.len, List.length_map, S.len]
theorem startG_im : ∀ (as : List Ty) (n i : Nat) (S : Sl), (startG n (as.map Ar.im))[i]? = some S → S = .no ∨ ∃ P, S = .im P := fun as n i S h => by
  have e : ∀ as : List Ty, entG (as.map Ar.im) = as.map Sl.im := fun as => by
    induction as with
    | nil => rfl
    | cons a as ih => show Sl.im a :: entG (as.map Ar.im) = _; rw [ih]; rfl
  unfold startG at h
  rw [e] at h
  have hm := List.mem_of_getElem? h
  rcases List.mem_append.mp hm with z | z
  · obtain ⟨P, _, rfl⟩ := List.mem_map.mp z
    exact .inr ⟨P, rfl⟩
  · exact .inl (List.eq_of_mem_replicate z)
/-- how the result of a def with ghosts is told -/
inductive Anm (E : XK) (ts : TS) (G : Gm) (X : Gx) : Rm → Prop where
  | ok {P X'} : X'.map (·.1) = X.map (·.1) → Sg E ts G X (.rt P X') → Anm E ts G X (.ok P X')
  | non {G' X'} : X'.map (·.1) = X.map (·.1) → Sg E ts G X (.nx G' X') → Anm E ts G X (.ok (isD .none) X')
  | bad {C X'} : X'.map (·.1) = X.map (·.1) → Sg E ts G X (.bad C X') → Anm E ts G X (.bad C)
/-- the callee's heap, told to its caller: what the caller owns stays its own -/
def keepM (M M' : Hp) : Hp := fun a => match M a with
  | some _ => M' a
  | none => none
def keepB (M H : Hp) : Hp := fun a => match M a with
  | some _ => none
  | none => H a
theorem keep_jn {B M M' : Hp} (h : ∀ a o, M a = some o → ∃ u, M' a = some u) : jn (keepB M (jn B M')) (keepM M M') = jn B M' := by
  funext a
  unfold jn keepB keepM
  dsimp only
  cases e : M a with
  | some o =>
    obtain ⟨u, hu⟩ := h a o e
    rw [hu]
  | none => rfl
theorem keep_dj {M M' H : Hp} : Dj (keepB M H) (keepM M M') := fun a o h => by
  unfold keepB at h
  unfold keepM
  cases e : M a with
  | some u => rw [e] at h; cases h
  | none => rfl
theorem keep_ex {B M M' : Hp} (d : Dj B M') (h : ∀ a o, M a = some o → ∃ u, M' a = some u) : Ex B (keepB M (jn B M')) := fun a o e => by
  unfold keepB
  cases q : M a with
  | some u =>
    obtain ⟨u', hu⟩ := h a u q
    have := d a o e
    rw [hu] at this; cases this
  | none => exact jn_B d e
section
variable {E : XK} {X X1 X2 Y : Gx} {M0 B M B' M' : Hp} {G G1 G' : Gm} {σ σ' : L2.St} {ts tu : TS} {te ta : TE} {tas : TA} {tt : TT} {o : Og} {P : Ty} {R : Ow} {C : Addr} {b : Bool} {n : Nat}
theorem anm_run {N : List Str} {as : List Ty} {vs : List V} {r : Rm} {Q : VK} (dj : Dj B M) (h : ArsOk (as.map Ar.im) vs B M) (hN : as.length ≤ N.length) (x : XIn X B M) (w : r.wp (X.map (·.1)) B M Q E) (a : Anm E ts (startG N.length (as.map Ar.im)) X r) :
    ts { nx := fun _ H' => Q .non H', rt := Q } (L2.start N vs) (jn B M) := by
  have H0 := holds_start dj h (by rw [List.length_map]; exact hN)
  let M0 : Hp := fun a => if a ∈ X.map (·.1) then none else M a
  have m0 : ∀ a, a ∈ X.map (·.1) → M0 a = none := fun a h => if_pos h
  have m1 : ∀ a, a ∉ X.map (·.1) → M0 a = M a := fun a h => if_neg h
  have H : Holds M0 (startG N.length (as.map Ar.im)) (L2.start N vs) B M := by
    refine ⟨H0.len, H0.dj, fun a o e => ?_, H0.im, fun i R q => ?_, fun i R q => ?_, H0.ne⟩
    · by_cases z : a ∈ X.map (·.1)
      · rw [m0 a z] at e; cases e
      · rw [m1 a z] at e; exact e
    · rcases startG_im as N.length i _ q with z | ⟨P, z⟩ <;> cases z
    · rcases startG_im as N.length i _ q with z | ⟨P, z⟩ <;> cases z
  have g : GOk X M0 (startG N.length (as.map Ar.im)) (L2.start N vs) B M := { nd := x.nd, m0 := fun y hy => m0 _ (List.mem_map.mpr ⟨y, hy, rfl⟩), ob := x.ob, ns := fun y hy i R q => by rcases startG_im as N.length i _ q with z | ⟨P, z⟩ <;> cases z }
  have back : ∀ {B' M' : Hp} {X' : Gx}, Dj B' M' → Ex M0 M' → X'.map (·.1) = X.map (·.1) → (∀ y ∈ X', ∃ o, M' y.1 = some o ∧ y.2.r y.1 o B') → (∀ a o, M a = some o → ∃ u, M' a = some u) ∧ ∀ a, a ∉ X.map (·.1) → keepM M M' a = M a := fun {B' M' X'} d c e1 hx => by
    have k1 : ∀ a o, M a = some o → ∃ u, M' a = some u := fun a o ha => by
      by_cases z : a ∈ X.map (·.1)
      · rw [← e1] at z
        obtain ⟨y, hy, e⟩ := List.mem_map.mp z
        obtain ⟨u, hu, _⟩ := hx y hy
        exact ⟨u, by rw [← e]; exact hu⟩
      · exact ⟨o, c a o (by rw [m1 a z]; exact ha)⟩
    refine ⟨k1, fun a z => ?_⟩
    unfold keepM
    cases e : M a with
    | none => rfl
    | some o => exact c a o (by rw [m1 a z]; exact e)
  have kx : ∀ {B' M' : Hp} {X' : Gx}, Dj B' M' → (∀ a o, M a = some o → ∃ u, M' a = some u) → X'.map (·.1) = X.map (·.1) → (∀ y ∈ X', ∃ o, M' y.1 = some o ∧ y.2.r y.1 o B') → ∀ y ∈ X', ∃ o, keepM M M' y.1 = some o ∧ y.2.r y.1 o (keepB M (jn B' M')) := fun {B' M' X'} d k1 e1 hx y hy => by
    obtain ⟨o, h1, h2⟩ := hx y hy
    refine ⟨o, ?_, y.2.mono (keep_ex d k1) h2⟩
    have z : y.1 ∈ X.map (·.1) := by rw [← e1]; exact List.mem_map.mpr ⟨y, hy, rfl⟩
    obtain ⟨y', hy', e⟩ := List.mem_map.mp z
    obtain ⟨u, hu, _⟩ := x.ob y' hy'
    unfold keepM
    rw [← e, hu]
    show M' y'.1 = some o
    rw [e]; exact h1
  cases a with
  | ok e1 s =>
    refine s M0 _ _ B M H g fun v B' M' e d c p y => ?_
    obtain ⟨k1, k2⟩ := back d c e1 y.ob
    have := w.2 v (keepB M (jn B' M')) (keepM M M') (e.trans (keep_ex d k1)) keep_dj k2 (kx d k1 e1 y.ob) (Ty.mono _ (keep_ex d k1) p)
    rw [keep_jn k1] at this
    exact this
  | non e1 s =>
    refine s M0 _ _ B M H g fun σ' B' M' e H' y => ?_
    obtain ⟨k1, k2⟩ := back H'.dj H'.cal e1 y.ob
    have := w.2 .non (keepB M (jn B' M')) (keepM M M') (e.trans (keep_ex H'.dj k1)) keep_dj k2 (kx H'.dj k1 e1 y.ob) Dq.non
    rw [keep_jn k1] at this
    exact this
  | bad e1 s =>
    refine s M0 _ _ B M H g fun B' M' e d c y => ?_
    obtain ⟨k1, k2⟩ := back d c e1 y.ob
    have := w (keepB M (jn B' M')) (keepM M M') (e.trans (keep_ex d k1)) keep_dj k2 fun a ha => by
      rw [← e1] at ha
      obtain ⟨y', hy', e⟩ := List.mem_map.mp ha
      obtain ⟨u, hu, _⟩ := kx d k1 e1 y.ob y' hy'
      exact ⟨u, by rw [← e]; exact hu⟩
    rw [keep_jn k1] at this
    exact this
theorem fn_okM {P : Program} {w : World} {K : PySem.W.Frag} {mg : Str → Option Value} {base : Heap} {x qual : Str} {st : Stmt} {f : Addr} {fd : FuncData} {N ps : List Str} {k : Nat} {S : Fm} (F : Fun K x qual st f fd) (sc : FnScope N ps (defScope st)) (hn : S.n = ps.length)
    (hb : ∀ (cdv : Value) (A : Around) (outer : List Env) (s : Shared) (H : Hp) (E : XK), Room k (A.deeper (envOfC qual (defScope st) s.heap.objs.size f cdv)) →
      ∃ t, PSs (cxD P w K mg base N qual st f cdv A outer s H E) (defBody st) t ∧ ∀ x : S.α, Anm E t (startG N.length ((S.ars x).map Ar.im)) (S.gh x) (S.res x)) : FnOk P w K mg base (L2.CX P w) (k + 1) f fd ps (spM S) := by
  refine F.okX sc (fun vs H Q E h => by rw [spM_len h, hn]) (fun cdv A outer s H vs Q E hr h => ?_)
  obtain ⟨t, h1, h2⟩ := hb cdv A outer s H E hr
  refine ⟨t, h1, ?_⟩
  obtain ⟨x, B, M, rfl, dj, ha, hx, hw⟩ := h
  refine anm_run dj ha ?_ hx hw (h2 x)
  have := congrArg List.length sc.pre
  rw [List.length_take] at this
  rw [S.len, hn]
  omega
/-! ### a call that changes ghosts -/
/-- the heap behind such a call -/
theorem GOk.after {ad : List Addr} (H : Holds M0 G σ B M) (g : GOk (X1 ++ X2) M0 G σ B M) (had : X1.map (·.1) = Y.map (·.1)) (hY : Y.map (·.1) = ad) (e : Ex B B') (d : Dj B' M') (k : ∀ a, a ∉ ad → M' a = M a) (hx : ∀ y ∈ Y, ∃ o, M' y.1 = some o ∧ y.2.r y.1 o B') :
    Holds M0 G σ B' M' ∧ GOk (Y ++ X2) M0 G σ B' M' := by
  have em : (Y ++ X2).map (·.1) = (X1 ++ X2).map (·.1) := by rw [List.map_append, List.map_append, had]
  have mem : ∀ y ∈ Y ++ X2, ∃ x ∈ X1 ++ X2, x.1 = y.1 := fun y hy => by
    have : y.1 ∈ (X1 ++ X2).map (·.1) := by rw [← em]; exact List.mem_map.mpr ⟨y, hy, rfl⟩
    obtain ⟨x, hx, e⟩ := List.mem_map.mp this
    exact ⟨x, hx, e⟩
  have out0 : ∀ a o, M0 a = some o → a ∉ ad := fun a o h z => by
    rw [← hY, ← had] at z
    obtain ⟨x, hx, e⟩ := List.mem_map.mp z
    have := g.m0 x (List.mem_append_left _ hx)
    rw [e, h] at this; cases this
  have outs : ∀ (i : Nat) R l, G[i]? = some (.ow R) → σ[i]? = some (some (.ref l)) → l ∉ ad := fun i R l q s z => by
    rw [← hY, ← had] at z
    obtain ⟨x, hx, e⟩ := List.mem_map.mp z
    exact g.ns x (List.mem_append_left _ hx) i R q (by rw [e]; exact s)
  refine ⟨⟨H.len, d, fun a o h => ?_, fun i P q => ?_, fun i R q => ?_, fun i R q => ?_, H.ne⟩, { nd := by rw [em]; exact g.nd, m0 := fun y hy => ?_, ob := fun y hy => ?_, ns := fun y hy i R q => ?_ }⟩
  · rw [k a (out0 a o h)]; exact H.cal a o h
  · obtain ⟨v, a, b⟩ := H.im i P q
    exact ⟨v, a, P.mono e b⟩
  · obtain ⟨l, o, a, b, c, f⟩ := H.ow i R q
    exact ⟨l, o, a, by rw [k l (outs i R l q a)]; exact b, R.mono e c, f⟩
  · obtain ⟨l, o, a, b, c⟩ := H.bw i R q
    exact ⟨l, o, a, b, R.mono e c⟩
  · obtain ⟨x, hx, e⟩ := mem y hy
    rw [← e]; exact g.m0 x hx
  · rcases List.mem_append.mp hy with z | z
    · exact hx y z
    · obtain ⟨o, h1, h2⟩ := g.ob y (List.mem_append_right _ z)
      refine ⟨o, ?_, y.2.mono e h2⟩
      rw [k]
      · exact h1
      · intro q
        rw [← hY, ← had] at q
        have nd := g.nd
        rw [List.map_append] at nd
        exact (List.nodup_append.mp nd).2.2 _ q _ (List.mem_map.mpr ⟨y, z, rfl⟩) rfl
  · obtain ⟨x, hx, e⟩ := mem y hy
    rw [← e]; exact g.ns x hx i R q
theorem sg_setM {S : Fm} {as : List Ty} (ha : Sa tas G (as.map Ar.im)) (x : S.α) (hx : S.ars x = as) (hg : S.gh x = X1) (hr : S.res x = .ok P Y) (hy : Y.map (·.1) = X1.map (·.1)) (hn : n < G.length := by exact Nat.le_of_ble_eq_true rfl) :
    Sg E (tAsg (tCallS (spM S) (fun _ => E) tas) (gName n)) G (X1 ++ X2) (.nx (G.set n (.im P)) (Y ++ X2)) := fun M0 D σ B M H g q => ha M0 σ B M H _ fun vs B1 e1 d1 p1 => by
  have g1 := g.ext e1
  refine ⟨x, B1, M, rfl, d1, by rw [hx]; exact p1, ⟨by rw [hg]; have := g.nd; rw [List.map_append] at this; exact (List.nodup_append.mp this).1, fun y hy => by rw [hg] at hy; exact g1.ob y (List.mem_append_left _ hy)⟩, ?_⟩
  rw [hr, hg]
  refine ⟨hy, fun v B' M' e d k hx' p => ?_⟩
  obtain ⟨h1, h2⟩ := GOk.after (H.ext e1 d1) g1 hy.symm hy e d k hx'
  exact q _ B' M' (e1.trans e) (h1.setIm hn p) (h2.set n P v)
theorem sg_dropM {S : Fm} {as : List Ty} (ha : Sa tas G (as.map Ar.im)) (x : S.α) (hx : S.ars x = as) (hg : S.gh x = X1) (hr : S.res x = .ok P Y) (hy : Y.map (·.1) = X1.map (·.1)) :
    Sg E (tDrop (tCallS (spM S) (fun _ => E) tas)) G (X1 ++ X2) (.nx G (Y ++ X2)) := fun M0 D σ B M H g q => ha M0 σ B M H _ fun vs B1 e1 d1 p1 => by
  have g1 := g.ext e1
  refine ⟨x, B1, M, rfl, d1, by rw [hx]; exact p1, ⟨by rw [hg]; have := g.nd; rw [List.map_append] at this; exact (List.nodup_append.mp this).1, fun y hy => by rw [hg] at hy; exact g1.ob y (List.mem_append_left _ hy)⟩, ?_⟩
  rw [hr, hg]
  refine ⟨hy, fun v B' M' e d k hx' p => ?_⟩
  obtain ⟨h1, h2⟩ := GOk.after (H.ext e1 d1) g1 hy.symm hy e d k hx'
  exact q _ B' M' (e1.trans e) h1 h2
theorem sg_setMbad {S : Fm} {as : List Ty} (ha : Sa tas G (as.map Ar.im)) (x : S.α) (hx : S.ars x = as) (hg : S.gh x = X1) (hr : S.res x = .bad C) :
    Sg E (tAsg (tCallS (spM S) (fun _ => E) tas) (gName n)) G (X1 ++ X2) (.bad C (X1.map (fun y => (y.1, anyO)) ++ X2)) := fun M0 D σ B M H g q => ha M0 σ B M H _ fun vs B1 e1 d1 p1 => by
  have g1 := g.ext e1
  refine ⟨x, B1, M, rfl, d1, by rw [hx]; exact p1, ⟨by rw [hg]; have := g.nd; rw [List.map_append] at this; exact (List.nodup_append.mp this).1, fun y hy => by rw [hg] at hy; exact g1.ob y (List.mem_append_left _ hy)⟩, ?_⟩
  rw [hr, hg]
  intro B' M' e d k hx'
  have hm : (X1.map (fun y => (y.1, anyO))).map (·.1) = X1.map (·.1) := by rw [List.map_map]; rfl
  obtain ⟨h1, h2⟩ := GOk.after (Y := X1.map (fun y => (y.1, anyO))) (H.ext e1 d1) g1 hm.symm hm e d k fun y hy => by
    obtain ⟨z, hz, rfl⟩ := List.mem_map.mp hy
    obtain ⟨o, ho⟩ := hx' z.1 (List.mem_map.mpr ⟨z, hz, rfl⟩)
    exact ⟨o, ho, trivial⟩
  exact q B' M' (e1.trans e) d h1.cal h2.toXOk
/-! ### ghost lists -/
/-- y = [], a list that others may change -/
theorem sg_newL {ds : List PyData} (h : Svl te G ds) (hn : n < G.length) (k : ∀ p, Sg E tu (G.set n (.im (isV (.ref p)))) ((p, isL ds) :: X) o) : Sg E (tSeq (tAsg te (gName n)) tu) G X o := fun M0 D σ B M H g q =>
  h M0 σ B M H _ fun p vs B' e d hf hv => by
    have hB := (jn_free hf).1
    have hM := (jn_free hf).2
    have hx : p ∉ X.map (·.1) := fun z => by
      obtain ⟨x, hx, e⟩ := List.mem_map.mp z
      obtain ⟨o, h1, _⟩ := g.ob x hx
      rw [e, hM] at h1; cases h1
    rw [upd_own]
    have H1 := ((H.ext e d).more (p := p) (o := .lst vs) hf).setIm (n := n) (v := .ref p) (P := isV (.ref p)) hn rfl
    have d1 : Dj B' (upd M p (.lst vs)) := dj_own d hB
    refine k p M0 D _ B' _ H1 ?_ (q.ext e)
    have g1 := (g.ext e).set n (isV (.ref p)) (.ref p)
    have hM0 : M0 p = none := by
      cases z : M0 p with
      | none => rfl
      | some u => have := H.cal p u z; rw [hM] at this; cases this
    refine { nd := by rw [List.map_cons]; exact List.nodup_cons.mpr ⟨hx, g.nd⟩, m0 := fun x hx' => ?_, ob := fun x hx' => ?_, ns := fun x hx' i R z => ?_ }
    · rcases List.mem_cons.mp hx' with rfl | z
      · exact hM0
      · exact g.m0 x z
    · rcases List.mem_cons.mp hx' with rfl | z
      · exact ⟨_, upd_same, vs, rfl, hv⟩
      · obtain ⟨o, h1, h2⟩ := g1.ob x z
        have ne : x.1 ≠ p := fun z' => hx (z' ▸ List.mem_map.mpr ⟨x, z, rfl⟩)
        exact ⟨o, by rw [upd_ne ne]; exact h1, h2⟩
    · rcases List.mem_cons.mp hx' with rfl | z'
      · intro s
        obtain ⟨l, o, a, b, c, f⟩ := ((H.ext e d).setIm (n := n) (v := .ref p) (P := isV (.ref p)) hn rfl).ow i R z
        rw [a] at s
        cases s
        rw [hM] at b; cases b
      · exact g1.ns x z' i R z
/-- xs.append(y), xs a ghost that a slot shows -/
theorem sg_app {K : PySem.W.Frag} {ds : List PyData} {d : PyData} {tl : TE} {p : Addr} (hl : Sv tl G (isV (.ref p))) (he : Sv te G (isD d)) (hz : ds.length < sizeLine) :
    Sg E (tDrop (tBM K "list" rAppend tl (tCons te tNil))) G ((p, isL ds) :: X) (.nx G ((p, isL (ds ++ [d])) :: X)) := fun M0 D σ B M H g q => hl M0 σ B M H _ fun u B1 e1 d1 p1 => by
  obtain rfl : u = .ref p := p1
  obtain ⟨o, h1, vs, rfl, h2⟩ := (g.ext e1).ob _ (List.mem_cons_self ..)
  refine ⟨Or.inl ⟨rfl, vs, sq_of (jn_M h1)⟩, ?_⟩
  refine he M0 σ B1 M (H.ext e1 d1) _ fun y B2 e2 d2 p2 => ?_
  have h3 := DqAll_ex e2 h2
  refine ⟨p, vs, y, rfl, rfl, jn_M h1, by rw [DqAll_len h2]; exact hz, ?_⟩
  rw [upd_own]
  have g2 := (g.ext e1).ext e2
  have H2 := (H.ext e1 d1).ext e2 d2
  obtain ⟨r1, r2⟩ := GOk.after (X1 := [(p, isL ds)]) (X2 := X) (Y := [(p, isL (ds ++ [d]))]) (ad := [p]) (B' := B2) (M' := upd M p (.lst (vs ++ [y]))) H2 g2 rfl rfl (Ex.refl _) (fun a u z => by
      by_cases w : a = p
      · have := d2 a u z
        rw [w] at this
        rw [show M p = some (.lst vs) from h1] at this
        cases this
      · rw [upd_ne w]; exact d2 a u z) (fun a w => upd_ne (fun z => w (by rw [z]; exact List.mem_singleton.mpr rfl))) (fun y' hy' => by
      rw [List.mem_singleton] at hy'
      subst hy'
      exact ⟨_, upd_same, vs ++ [y], rfl, DqAll_append h3 (.cons p2 .nil)⟩)
  exact q σ B2 _ (e1.trans e2) r1 r2
end
end Mini

namespace Mini
open PySem L2 Evl PyProof.Rows

/-! ### loops over ghosts -/
def Pvg (M0 B : Hp) (Gi : Nat → Gm) (Xi : Nat → Gx) (N : Nat) (i : Nat) (σ : L2.St) (H : Hp) : Prop := i ≤ N ∧ ∃ B' M', H = jn B' M' ∧ Ex B B' ∧ Holds M0 (Gi i) σ B' M' ∧ GOk (Xi i) M0 (Gi i) σ B' M'
/-- an outcome that leaves the loop -/
def Og.leaves : Og → Prop
  | .nx _ _ => False
  | _ => True
section
variable {K : PySem.W.Frag} {E : XK} {X : Gx} {M0 B M B1 M1 : Hp} {G : Gm} {σ : L2.St} {tu : TS} {tl : TE} {tt : TT} {o : Og} {D : Ends} {ds : List PyData} {j : Nat}
theorem turn_okG {Gi : Nat → Gm} {Xi : Nat → Gx} {N i : Nat} (hi : i ≤ N) (H : Holds M0 G σ B1 M1) (g : GOk X M0 G σ B1 M1) (e : Ex B B1) (hs : i < N → Sg E tu G X (.nx (Gi (i + 1)) (Xi (i + 1)))) (hd : i = N → o.leaves ∧ Sg E tu G X o) (q : o.ok E D M0 B) :
    tu { D with nx := Pvg M0 B Gi Xi N (i + 1), ct := Pvg M0 B Gi Xi N (i + 1), bk := D.nx } σ (jn B1 M1) := by
  by_cases hN : i < N
  · exact hs hN M0 _ σ B1 M1 H g fun σ' B' M' e' H' g' => ⟨hN, B', M', rfl, e.trans e', H', g'⟩
  · obtain ⟨l, h⟩ := hd (by omega)
    refine h M0 _ σ B1 M1 H g ?_
    cases o with
    | nx => cases l
    | rt P X' => exact fun v B' M' e' => q v B' M' (e.trans e')
    | bad C X' => exact fun B' M' e' => q B' M' (e.trans e')
theorem sg_while (Gi : Nat → Gm) (Xi : Nat → Gx) (N : Nat) (h0 : G = Gi 0) (x0 : X = Xi 0) (ht : ∀ i, i < N → Stg tt (Gi i) (Xi i) true) (hs : ∀ i, i < N → Sg E tu (Gi i) (Xi i) (.nx (Gi (i + 1)) (Xi (i + 1))))
    (hd : (Stg tt (Gi N) (Xi N) false ∧ o = .nx (Gi N) (Xi N)) ∨ (Stg tt (Gi N) (Xi N) true ∧ o.leaves ∧ Sg E tu (Gi N) (Xi N) o)) : Sg E (tWhile tt tu) G X o := fun M0 D σ B M H g q => by
  subst h0
  subst x0
  refine ⟨fun m σ' H' => ∃ i, i + m = N ∧ Pvg M0 B Gi Xi N i σ' H', ⟨N, 0, Nat.zero_add _, Nat.zero_le _, B, M, rfl, Ex.refl B, H, g⟩, fun m σ' H' w => ?_⟩
  obtain ⟨i, him, hiN, B1, M1, rfl, e, H1, g1⟩ := w
  by_cases hN : i < N
  · refine ht i hN M0 σ' B1 M1 H1 g1 _ fun B2 e2 d2 => ?_
    refine ⟨fun σ2 H2 => Pvg M0 B Gi Xi N (i + 1) σ2 H2, fun σ2 H2 p => ⟨m - 1, by omega, i + 1, by omega, p⟩, ?_⟩
    exact turn_okG (o := o) hiN (H1.ext e2 d2) (g1.ext e2) (e.trans e2) (fun l => hs i l) (fun l => by omega) q
  · have hiE : i = N := by omega
    subst hiE
    rcases hd with ⟨a, b⟩ | ⟨a, l, b⟩
    · refine a M0 σ' B1 M1 H1 g1 _ fun B2 e2 d2 => ?_
      rw [b] at q
      exact q σ' B2 M1 (e.trans e2) (H1.ext e2 d2) (g1.ext e2)
    · refine a M0 σ' B1 M1 H1 g1 _ fun B2 e2 d2 => ?_
      refine ⟨fun σ2 H2 => Pvg M0 B Gi Xi i (i + 1) σ2 H2, fun σ2 H2 p => by have := p.1; omega, ?_⟩
      exact turn_okG (o := o) hiN (H1.ext e2 d2) (g1.ext e2) (e.trans e2) (fun l => by omega) (fun _ => ⟨l, b⟩) q
/-- over a list that stays -/
theorem sg_forL (h : Sv tl G (isD (.list ds))) (Gi : Nat → Gm) (Xi : Nat → Gx) (N : Nat) (hN : N ≤ ds.length) (h0 : G = Gi 0) (x0 : X = Xi 0) (hj : ∀ i, i ≤ N → j < (Gi i).length)
    (hs : ∀ i d, ds[i]? = some d → i < N → Sg E tu ((Gi i).set j (.im (isD d))) (Xi i) (.nx (Gi (i + 1)) (Xi (i + 1)))) (hd : (N = ds.length ∧ o = .nx (Gi N) (Xi N)) ∨ (N < ds.length ∧ o.leaves ∧ Sg E tu ((Gi N).set j (.im (isD (ds.getD N .none)))) (Xi N) o)) :
    Sg E (tFor (iList K tl) (gName j) tu) G X o := fun M0 D σ B M H g q => by
  subst h0
  subst x0
  exact h M0 σ B M H _ fun v B1 e1 d1 p1 => by
    obtain ⟨a, vs, rfl, ha, hv⟩ := dq_lst p1
    have hlen := DqAll_len hv
    refine ⟨a, rfl, ⟨vs, sq_of (jn_B d1 ha)⟩, ?_⟩
    refine for_list (xs := vs) (Pvg M0 B1 Gi Xi N) ⟨Nat.zero_le _, B1, M, rfl, Ex.refl B1, H.ext e1 d1, g.ext e1⟩ (fun i σ' H' _ p => ?_) (fun i x σ' H' hx p => ?_) (fun σ' H' p => ?_)
    · obtain ⟨_, B', M', rfl, e, H', _⟩ := p
      exact sq_of (jn_B H'.dj (e _ _ ha))
    · obtain ⟨hiN, B', M', rfl, e, H', g'⟩ := p
      obtain ⟨d, hd1, px⟩ := DqAll_getV hv hx
      refine turn_okG (o := o) hiN (H'.setIm (hj i hiN) (P := isD d) (Dq_ex e d x px)) (g'.set j (isD d) x) e (fun l => hs i d hd1 l) (fun l => ?_) (q.ext e1)
      rcases hd with ⟨b, _⟩ | ⟨_, l', b⟩
      · have := (List.getElem?_eq_some_iff.mp hx).1; omega
      · have z : ds.getD N .none = d := by rw [← l, List.getD_eq_getElem?_getD, hd1]; rfl
        rw [z, ← l] at b
        exact ⟨l', b⟩
    · obtain ⟨hiN, B', M', rfl, e, H', g'⟩ := p
      rcases hd with ⟨b, c⟩ | ⟨b, _⟩
      · rw [c] at q
        rw [hlen, ← b] at H' g'
        exact q σ' B' M' (e1.trans e) H' g'
      · omega
end
end Mini

namespace Mini
open PySem L2 Evl PyProof.Rows
def noOwB : Gm → Bool
  | [] => true
  | .ow _ :: _ => false
  | _ :: G => noOwB G
theorem noOw_of : ∀ {G : Gm}, noOwB G = true → ∀ (i : Nat) R, G[i]? ≠ some (.ow R)
  | [], _, i, R => by simp
  | .ow _ :: _, h, _, _ => by cases h
  | .no :: G, h, i, R => by cases i with
    | zero => simp
    | succ i => exact fun e => noOw_of (G := G) h i R (by simpa using e)
  | .im _ :: G, h, i, R => by cases i with
    | zero => simp
    | succ i => exact fun e => noOw_of (G := G) h i R (by simpa using e)
  | .bw _ :: G, h, i, R => by cases i with
    | zero => simp
    | succ i => exact fun e => noOw_of (G := G) h i R (by simpa using e)
section
variable {K : PySem.W.Frag} {E : XK} {X X1 : Gx} {G G1 G2 : Gm} {ts tu : TS} {te tl : TE} {tt : TT} {o : Og} {R0 : Addr × Ow} {d : PyData} {ds : List PyData}
theorem sg_leN (h : Sg E ts G X (.nx G1 X1)) (l : Le G1 G2) (no : noOwB G2 = true := by rfl) : Sg E ts G X (.nx G2 X1) := sg_le h l fun i R e => absurd e (noOw_of no i R)
theorem sg_if0 (h : Stg tt G X false) (k : Sg E tu G X o) : Sg E (tIfS tt ts tu) G X o := sg_if h (fun z => by cases z) fun _ => k
theorem sg_if1 (h : Stg tt G X true) (k : Sg E ts G X o) : Sg E (tIfS tt ts tu) G X o := sg_if h (fun _ => k) fun z => by cases z
theorem sg_app2 {p : Addr} (hl : Sv tl G (isV (.ref p))) (he : Sv te G (isD d)) (hz : ds.length < sizeLine) :
    Sg E (tDrop (tBM K "list" rAppend tl (tCons te tNil))) G (R0 :: (p, isL ds) :: X) (.nx G (R0 :: (p, isL (ds ++ [d])) :: X)) :=
  sg_perm (sg_permO (sg_app (X := R0 :: X) hl he hz) (.swap ..)) (.swap ..)
end
end Mini

namespace Mini
open PySem PySem.Spec L2 Evl PyProof.Rows

/-! ### dicts with keys that are tuples of ints and texts, the module's own among them -/
abbrev KX := List (List Key × Addr × V)
abbrev XT : KX → List (List Key × Addr × Value) → Prop := Paired fun p q => p.1 = q.1 ∧ p.2.1 = q.2.1 ∧ RelV p.2.2 q.2.2
def getX (kvs : KX) (k : List Key) : Option V := (kvs.find? fun p => decide (p.1 = k)).map (·.2.2)
def putX (kvs : KX) (k : List Key) (b : Addr) (v : V) : KX := if (getX kvs k).isSome then kvs.map (fun p => if p.1 = k then (p.1, p.2.1, v) else p) else kvs ++ [(k, b, v)]
structure DX0 (P : Program) (w : World) (a : Addr) (kvs : KX) (h : Heap) : Prop where
  sys : (a == sysModules) = false
  few : kvs.length ≤ sizeLine
  ex : ∃ xs, XT kvs xs ∧ (∃ o es ep, h.get? a = some o ∧ o.ExactDict ∧ o.data = .dict es ep ∧ es.toList = xs.map (entryOfKey (tupleKind (mixKind P w)))) ∧ (xs.map (·.1)).Nodup
def DXO (P : Program) (w : World) (a : Addr) (kvs : KX) : HO := .ext (DX0 P w a kvs)
theorem dxo_new {P : Program} {w : World} {H : Hp} {h : Heap} {a : Addr} {kvs : KX} (R : DX0 P w a kvs h) : ObjOk P w H h a (DXO P w a kvs) := by
  obtain ⟨h1, h2, xs, h3, ⟨o, es, ep, h4, h5⟩, h6⟩ := id R
  refine ⟨R, ⟨o, h4⟩, fun g1 g2 p k => ?_⟩
  obtain ⟨p1, p2, ys, p3, ⟨o', es', ep', p4, p5⟩, p6⟩ := id (show DX0 P w a kvs g1 from p)
  exact ⟨p1, p2, ys, p3, ⟨o', es', ep', k _ p4, p5⟩, p6⟩
theorem XT.val {kvs : KX} {xs : List (List Key × Addr × Value)} (r : XT kvs xs) (k : List Key) : RelO (getX kvs k) ((atKey xs k).map (·.2)) := by
  induction r with
  | nil => exact True.intro
  | @cons p q ps qs h t ih =>
    obtain ⟨h1, _, h2⟩ := h
    by_cases e : p.1 = k
    · have e' : q.1 = k := h1.symm.trans e
      have b : atKey (q :: qs) k = some q.2 := by simp [atKey, List.find?_cons, e']
      have c : getX (p :: ps) k = some p.2.2 := by simp [getX, List.find?_cons, e]
      rw [c, b]; exact h2
    · have e' : ¬ q.1 = k := fun z => e (h1.trans z)
      have b : atKey (q :: qs) k = atKey qs k := by simp [atKey, List.find?_cons, e']
      have c : getX (p :: ps) k = getX ps k := by simp [getX, List.find?_cons, e]
      rw [c, b]; exact ih
theorem XT.put {kvs : KX} {xs : List (List Key × Addr × Value)} (r : XT kvs xs) (k : List Key) {b : Addr} {y : V} {u : Value} (ry : RelV y u) : XT (putX kvs k b y) (storedH xs k b u) := by
  have e : (getX kvs k).isSome = (atKey xs k).isSome := by rw [(r.val k).isSome_eq, Option.isSome_map]
  unfold putX storedH
  rw [e]
  by_cases q : (atKey xs k).isSome = true
  · rw [if_pos q, if_pos q]
    clear q e
    induction r with
    | nil => exact .nil
    | @cons p q ps qs h t ih =>
      rw [List.map_cons, List.map_cons]
      refine .cons ?_ ih
      obtain ⟨h1, h2, h3⟩ := h
      unfold putAt
      by_cases e : p.1 = k
      · rw [if_pos e, if_pos (h1.symm.trans e)]; exact ⟨h1, h2, ry⟩
      · rw [if_neg e, if_neg (fun z => e (h1.trans z))]; exact ⟨h1, h2, h3⟩
  · rw [if_neg q, if_neg q]; exact Paired.snoc r ⟨rfl, rfl, ry⟩
theorem putX_len (kvs : KX) (k : List Key) (b : Addr) (v : V) : (putX kvs k b v).length ≤ kvs.length + 1 := by
  unfold putX
  split
  · rw [List.length_map]; omega
  · rw [List.length_append]; exact Nat.le_refl _
/-- the keys stand where they are said to -/
def KeysX (K : PySem.W.Frag) (H : Hp) (kvs : KX) : Prop := ∀ p ∈ kvs, SqT K H p.2.1 (p.1.map kV)
theorem XT.mem {kvs : KX} {xs : List (List Key × Addr × Value)} (r : XT kvs xs) : ∀ q ∈ xs, ∃ p ∈ kvs, p.1 = q.1 ∧ p.2.1 = q.2.1 := by
  induction r with
  | nil => intro q h; cases h
  | @cons p q ps qs h t ih =>
    intro q' h'
    rcases List.mem_cons.mp h' with rfl | z
    · exact ⟨p, List.mem_cons_self .., h.1, h.2.1⟩
    · obtain ⟨p', hp, e⟩ := ih q' z
      exact ⟨p', List.mem_cons_of_mem _ hp, e⟩
section
variable {X : Cx} {pins : List (Addr × Obj)} {σ : L2.St} {H : Hp} {s : Shared} {a b : Addr} {kvs : KX} {k : List Key} {v : V} {u r : Value} {A : Around} {E : Value → Shared → Prop}
theorem inv_key (I : Inv X pins σ H s) (h : SqT X.K H b (k.map kV)) : (tupleKind (mixKind X.prog X.w)).is s.heap k b := by
  obtain ⟨its, r, ⟨o, ho, hc, n, hd⟩, _⟩ := I.tuple h
  exact ⟨o, its.toArray, n, ho, hc, hd, by simpa using items_are r⟩
theorem dx_at (I : Inv X pins σ H s) (e : H a = some (DXO X.prog X.w a kvs)) (hk : KeysX X.K H kvs) : (a == sysModules) = false ∧ kvs.length ≤ sizeLine ∧ ∃ xs, XT kvs xs ∧ s.heap.DictOfH (tupleKind (mixKind X.prog X.w)) a xs := by
  obtain ⟨h1, h2, xs, h3, ⟨o, es, ep, h4, h5, h6, h7⟩, h8⟩ := id (show DX0 X.prog X.w a kvs s.heap from (I.hok a _ e).1)
  refine ⟨h1, h2, xs, h3, o, es, ep, h4, h5, h6, h7, fun q hq => ?_, h8⟩
  obtain ⟨p, hp, e1, e2⟩ := h3.mem q hq
  rw [← e1, ← e2]
  exact inv_key I (hk p hp)
theorem dx_in {Q : Value → Shared → Prop} (hu : A.units + 1 < cLine) (I : Inv X pins σ H s) (e : H a = some (DXO X.prog X.w a kvs)) (hk : KeysX X.K H kvs) (hb : SqT X.K H b (k.map kV)) (h : ∀ s', Inv X pins σ H s' → Q (.bool (getX kvs k).isSome) s') :
    wpAny (model X.prog X.w) A (compareOp .In (.ref b) (.ref a)) Q E s := by
  obtain ⟨hd, _, xs, rel, dd⟩ := dx_at I e hk
  refine wpAny_in_heap (tupleKind_room_in1 hu) (inv_key I hb) hd dd ?_
  have q := (rel.val k).isSome_eq
  rw [Option.isSome_map] at q
  rw [← q]
  exact h _ (I.tok _)
theorem dx_notIn {Q : Value → Shared → Prop} (hu : A.units + 1 < cLine) (I : Inv X pins σ H s) (e : H a = some (DXO X.prog X.w a kvs)) (hk : KeysX X.K H kvs) (hb : SqT X.K H b (k.map kV)) (h : ∀ s', Inv X pins σ H s' → Q (.bool (!(getX kvs k).isSome)) s') :
    wpAny (model X.prog X.w) A (compareOp .NotIn (.ref b) (.ref a)) Q E s := by
  obtain ⟨hd, _, xs, rel, dd⟩ := dx_at I e hk
  refine wpAny_notIn_heap (tupleKind_room_in1 hu) (inv_key I hb) hd dd ?_
  have q := (rel.val k).isSome_eq
  rw [Option.isSome_map] at q
  rw [← q]
  exact h _ (I.tok _)
theorem dx_get {Q : Value → Shared → Prop} (hu : A.units + 1 < cLine) (I : Inv X pins σ H s) (e : H a = some (DXO X.prog X.w a kvs)) (hk : KeysX X.K H kvs) (hb : SqT X.K H b (k.map kV)) (l : getX kvs k = some v)
    (h : ∀ w' s', Inv X pins σ H s' → RelV v w' → Q w' s') : wpAny (model X.prog X.w) A (getItem (.ref a) (.ref b)) Q E s := by
  obtain ⟨_, _, xs, rel, dd⟩ := dx_at I e hk
  obtain ⟨w', hw, rw'⟩ := RelO.some_of (v := v) (o := (atKey xs k).map (·.2)) (by rw [← l]; exact rel.val k)
  obtain ⟨p, hp, hp2⟩ := Option.map_eq_some_iff.mp hw
  refine wpAny_getItem_heap (tupleKind_room_in1 hu) (inv_key I hb) dd hp ?_
  rw [hp2]
  exact h w' _ (I.tok _) rw'
theorem dx_set {Q : Unit → Shared → Prop} (hu : A.units + 1 < cLine) (I : Inv X pins σ H s) (e : H a = some (DXO X.prog X.w a kvs)) (hk : KeysX X.K H kvs) (hb : SqT X.K H b (k.map kV)) (hl : kvs.length < sizeLine) (rv : RelV v r)
    (h : ∀ s', Inv X pins σ (upd H a (DXO X.prog X.w a (putX kvs k b v))) s' → Q () s') : wpAny (model X.prog X.w) A (setItem (.ref a) (.ref b) r) Q E s := by
  obtain ⟨hd, z, xs, rel, dd⟩ := dx_at I e hk
  have hz : xs.length ≤ sizeLine := by rw [← Paired.length rel]; exact z
  have hl' : (putX kvs k b v).length ≤ sizeLine := by have := putX_len kvs k b v; omega
  refine wpAny_setItem_heap (hsz := hz) (tupleKind_room_in1 hu) (inv_key I hb) dd fun h' dd' hs => h _ ?_
  obtain ⟨q, es, ep, hq, h2, h3, h4, _, h5⟩ := dd'
  exact d_write I (by rw [e]; exact True.intro) hs ⟨q, hq⟩ (dxo_new ⟨hd, hl', _, rel.put k rv, ⟨q, es, ep, hq, h2, h3, h4⟩, h5⟩)
end
/-- d[y] -/
def tXGet (P : Program) (w : World) (K : PySem.W.Frag) (td ty : TE) : TE := fun σ H Q => td σ H fun x H1 => ty σ H1 fun y H2 => ∃ a b kvs k v, x = .ref a ∧ y = .ref b ∧ H2 a = some (DXO P w a kvs) ∧ KeysX K H2 kvs ∧ SqT K H2 b (k.map kV) ∧ getX kvs k = some v ∧ Q v H2
def tXIn (P : Program) (w : World) (K : PySem.W.Frag) (ty td : TE) : TE := fun σ H Q => ty σ H fun y H1 => td σ H1 fun x H2 => ∃ a b kvs k, x = .ref a ∧ y = .ref b ∧ H2 a = some (DXO P w a kvs) ∧ KeysX K H2 kvs ∧ SqT K H2 b (k.map kV) ∧ Q (.bl (getX kvs k).isSome) H2
def tXNot (P : Program) (w : World) (K : PySem.W.Frag) (ty td : TE) : TE := fun σ H Q => ty σ H fun y H1 => td σ H1 fun x H2 => ∃ a b kvs k, x = .ref a ∧ y = .ref b ∧ H2 a = some (DXO P w a kvs) ∧ KeysX K H2 kvs ∧ SqT K H2 b (k.map kV) ∧ Q (.bl (!(getX kvs k).isSome)) H2
def sXPut (P : Program) (w : World) (K : PySem.W.Frag) (td ty tv : TE) : TS := fun D σ H => tv σ H fun v H1 => td σ H1 fun x H2 => ty σ H2 fun y H3 => ∃ a b kvs k, x = .ref a ∧ y = .ref b ∧ H3 a = some (DXO P w a kvs) ∧ KeysX K H3 kvs ∧ SqT K H3 b (k.map kV) ∧ kvs.length < sizeLine ∧
  D.nx σ (upd H3 a (DXO P w a (putX kvs k b v)))
def tXNew (P : Program) (w : World) : TE := fun _ H Q => ∀ p, H p = none → Q (.ref p) (upd H p (DXO P w p []))
section
variable {X : Cx} {o i e value : Expr} {pos pos' tpos : Pos} {td ty tv : TE}
theorem pe_xget {P : Program} {w : World} {K : PySem.W.Frag} (hu : X.A.units + 1 < cLine) (ho : PE X o td) (hi : PE X i ty) (hs : NoSl i) (hP : X.prog = P := by rfl) (hw : X.w = w := by rfl) (hK : X.K = K := by rfl) : PE X (.Subscript o i pos) (tXGet P w K td ty) := by
  subst hP hw hK
  refine ⟨fun pins s σ H Q I h => ?_⟩
  refine subD_of PySem.F.slot_dict_getitem.lookup hs (thn (ho.run pins s σ H _ I h) fun u s1 ⟨x, H1, I1, rx, q1⟩ => thn (hi.run pins s1 σ H1 _ I1 q1) fun iv s2 ⟨y, H2, I2, ry, a, b, kvs, k, v, ex, ey, g, gk, gb, gv, q2⟩ => ?_)
  subst ex ey
  obtain rfl : u = Value.ref a := rx
  obtain rfl : iv = Value.ref b := ry
  obtain ⟨_, _, xs, _, dd⟩ := dx_at I2 g gk
  exact ⟨dd.typeIs, dx_get hu I2 g gk gb gv fun w' s3 I3 rw' => ⟨v, H2, I3, rw', q2⟩⟩
theorem pe_xin {P : Program} {w : World} {K : PySem.W.Frag} (hu : X.A.units + 1 < cLine) (hi : PE X i ty) (ho : PE X o td) (hP : X.prog = P := by rfl) (hw : X.w = w := by rfl) (hK : X.K = K := by rfl) (h1 : behindInMarks .In o = false := by rfl) : PE X (.Compare i [.In] [o] pos) (tXIn P w K ty td) := by
  subst hP hw hK
  refine pe_cmp (h1 := h1) ⟨fun pins s σ H Q I h => ?_⟩
  refine thn (hi.run pins s σ H _ I h) fun iv s1 ⟨y, H1, I1, ry, q1⟩ => thn (ho.run pins s1 σ H1 _ I1 q1) fun u s2 ⟨x, H2, I2, rx, a, b, kvs, k, ex, ey, g, gk, gb, q2⟩ => ?_
  subst ex ey
  obtain rfl : u = Value.ref a := rx
  obtain rfl : iv = Value.ref b := ry
  exact dx_in hu I2 g gk gb fun s3 I3 => ⟨.bl (getX kvs k).isSome, H2, I3, rfl, q2⟩
theorem pe_xnot {P : Program} {w : World} {K : PySem.W.Frag} (hu : X.A.units + 1 < cLine) (hi : PE X i ty) (ho : PE X o td) (hP : X.prog = P := by rfl) (hw : X.w = w := by rfl) (hK : X.K = K := by rfl) (h1 : behindInMarks .NotIn o = false := by rfl) : PE X (.Compare i [.NotIn] [o] pos) (tXNot P w K ty td) := by
  subst hP hw hK
  refine pe_cmp (h1 := h1) ⟨fun pins s σ H Q I h => ?_⟩
  refine thn (hi.run pins s σ H _ I h) fun iv s1 ⟨y, H1, I1, ry, q1⟩ => thn (ho.run pins s1 σ H1 _ I1 q1) fun u s2 ⟨x, H2, I2, rx, a, b, kvs, k, ex, ey, g, gk, gb, q2⟩ => ?_
  subst ex ey
  obtain rfl : u = Value.ref a := rx
  obtain rfl : iv = Value.ref b := ry
  exact dx_notIn hu I2 g gk gb fun s3 I3 => ⟨.bl (!(getX kvs k).isSome), H2, I3, rfl, q2⟩
theorem pt_xin {P : Program} {w : World} {K : PySem.W.Frag} (hu : X.A.units + 1 < cLine) (hi : PE X i ty) (ho : PE X o td) (hP : X.prog = P := by rfl) (hw : X.w = w := by rfl) (hK : X.K = K := by rfl) (h1 : behindInMarks .In o = false := by rfl) : PT X (.Compare i [.In] [o] pos) (tB (tXIn P w K ty td)) := by
  subst hP hw hK
  refine pt_cmp (h1 := h1) ⟨fun pins s σ H Q I h => ?_⟩
  refine thn (hi.run pins s σ H _ I h) fun iv s1 ⟨y, H1, I1, ry, q1⟩ => thn (ho.run pins s1 σ H1 _ I1 q1) fun u s2 ⟨x, H2, I2, rx, a, b, kvs, k, ex, ey, g, gk, gb, q2⟩ => ?_
  subst ex ey
  obtain rfl : u = Value.ref a := rx
  obtain rfl : iv = Value.ref b := ry
  exact dx_in hu I2 g gk gb fun s3 I3 => ⟨.bl (getX kvs k).isSome, H2, I3, rfl, q2⟩
theorem pt_xnot {P : Program} {w : World} {K : PySem.W.Frag} (hu : X.A.units + 1 < cLine) (hi : PE X i ty) (ho : PE X o td) (hP : X.prog = P := by rfl) (hw : X.w = w := by rfl) (hK : X.K = K := by rfl) (h1 : behindInMarks .NotIn o = false := by rfl) : PT X (.Compare i [.NotIn] [o] pos) (tB (tXNot P w K ty td)) := by
  subst hP hw hK
  refine pt_cmp (h1 := h1) ⟨fun pins s σ H Q I h => ?_⟩
  refine thn (hi.run pins s σ H _ I h) fun iv s1 ⟨y, H1, I1, ry, q1⟩ => thn (ho.run pins s1 σ H1 _ I1 q1) fun u s2 ⟨x, H2, I2, rx, a, b, kvs, k, ex, ey, g, gk, gb, q2⟩ => ?_
  subst ex ey
  obtain rfl : u = Value.ref a := rx
  obtain rfl : iv = Value.ref b := ry
  exact dx_notIn hu I2 g gk gb fun s3 I3 => ⟨.bl (!(getX kvs k).isSome), H2, I3, rfl, q2⟩
theorem ps_xput {P : Program} {w : World} {K : PySem.W.Frag} (hu : X.A.units + 1 < cLine) (ho : PE X o td) (hi : PE X i ty) (hv : PE X value tv) (hs : swapsWith value (some (.Subscript o i pos')) pos.line X.env = pure false) (hP : X.prog = P := by rfl) (hw : X.w = w := by rfl) (hK : X.K = K := by rfl) :
    PS X (.Assign [.Subscript o i pos'] value pos) (sXPut P w K td ty tv) := by
  subst hP hw hK
  refine ⟨fun pins s σ H D I h => ?_⟩
  refine wpAny_Assign_Subscript (thn (hv.run pins s σ H _ I h) fun r s1 ⟨v, H1, I1, rv, q1⟩ => thn (ho.run pins s1 σ H1 _ I1 q1) fun u s2 ⟨x, H2, I2, rx, q2⟩ => thn (hi.run pins s2 σ H2 _ I2 q2) fun iv s3 ⟨y, H3, I3, ry, a, b, kvs, k, ex, ey, g, gk, gb, gl, q3⟩ => ?_) hs
  subst ex ey
  obtain rfl : u = Value.ref a := rx
  obtain rfl : iv = Value.ref b := ry
  exact dx_set hu I3 g gk gb gl rv fun s4 I4 => ⟨σ, _, I4, q3⟩
theorem pe_xnew {P : Program} {w : World} (hP : X.prog = P := by rfl) (hw : X.w = w := by rfl) : PE X (.Dict [] [] pos) (tXNew P w) := by
  subst hP hw
  exact ⟨fun pins s σ H Q I h =>
    wpAny_Dict_empty ⟨.ref s.heap.objs.size, _, I.laid (a := s.heap.objs.size) (o := DXO X.prog X.w s.heap.objs.size []) (t' := s.toks) (fun _ _ q => Heap.get?_push_of_some _ q) (Nat.le_refl _)
      (dxo_new ⟨beq_eq_false_iff_ne.mpr (Ne.symm (Nat.ne_of_lt I.big)), Nat.zero_le _, [], .nil, ⟨_, #[], 0, Heap.get?_push_size _ rfl, ⟨rfl, rfl, rfl⟩, rfl, rfl⟩, List.nodup_nil⟩), rfl, h _ (I.hok.fresh (Nat.le_refl _))⟩⟩
end
end Mini

namespace Mini
open PySem PySem.Spec L2 Evl PyProof.Rows

/-! ### lists and tuples of things of any type -/
inductive AllT : List Ty → List V → Hp → Prop where
  | nil {B} : AllT [] [] B
  | cons {P Ps v vs B} : P.p v B → AllT Ps vs B → AllT (P :: Ps) (v :: vs) B
theorem AllT.ext {Ps : List Ty} {vs : List V} {B B' : Hp} (e : Ex B B') (h : AllT Ps vs B) : AllT Ps vs B' := by
  induction h with
  | nil => exact .nil
  | @cons P Ps v vs B p _ ih => exact .cons (P.mono e p) (ih e)
theorem AllT.len {Ps : List Ty} {vs : List V} {B : Hp} (h : AllT Ps vs B) : vs.length = Ps.length := by
  induction h with
  | nil => rfl
  | cons _ _ ih => simp [ih]
theorem AllT.getV {Ps : List Ty} {vs : List V} {B : Hp} (h : AllT Ps vs B) : ∀ {i : Nat} {v : V}, vs[i]? = some v → ∃ P, Ps[i]? = some P ∧ P.p v B := by
  induction h with
  | nil => intro i v e; simp at e
  | @cons P Ps v vs B p _ ih =>
    intro i u e
    cases i with
    | zero => simp at e; subst e; exact ⟨P, rfl, p⟩
    | succ i => simpa using ih (by simpa using e)
def isTs (Ps : List Ty) : Ty := ⟨fun v B => ∃ a vs, v = .ref a ∧ B a = some (.tup vs) ∧ AllT Ps vs B, fun e ⟨a, vs, h1, h2, h3⟩ => ⟨a, vs, h1, e _ _ h2, h3.ext e⟩⟩
def isLs (Ps : List Ty) : Ty := ⟨fun v B => ∃ a vs, v = .ref a ∧ B a = some (.lst vs) ∧ AllT Ps vs B, fun e ⟨a, vs, h1, h2, h3⟩ => ⟨a, vs, h1, e _ _ h2, h3.ext e⟩⟩
theorem allT_D {B : Hp} : ∀ {ds : List PyData} {vs : List V}, DqAll B vs ds → AllT (ds.map isD) vs B
  | [], _, h => by cases h; exact .nil
  | d :: ds, _, h => by cases h with | cons a b => exact .cons a (allT_D b)
def TyLe (P P' : Ty) : Prop := ∀ v B, P.p v B → P'.p v B
theorem AllT.le {B : Hp} : ∀ {Ps Ps' : List Ty} {vs : List V}, AllT Ps vs B → Paired TyLe Ps Ps' → AllT Ps' vs B
  | [], _, _, h, g => by cases h; cases g; exact .nil
  | P :: Ps, _, _, h, g => by cases h with | cons a b => cases g with | cons c d => exact .cons (c _ _ a) (AllT.le b d)
theorem tyLe_tup {ds : List PyData} {Ps : List Ty} (h : Paired TyLe (ds.map isD) Ps) : TyLe (isD (.tuple ds)) (isTs Ps) := fun v B p => by
  cases (show Dq B v (.tuple ds) from p) with
  | tup hs ha => exact ⟨_, _, rfl, hs, (allT_D ha).le h⟩
theorem tyLe_lst {ds : List PyData} {Ps : List Ty} (h : Paired TyLe (ds.map isD) Ps) : TyLe (isD (.list ds)) (isLs Ps) := fun v B p => by
  cases (show Dq B v (.list ds) from p) with
  | lst hs ha => exact ⟨_, _, rfl, hs, (allT_D ha).le h⟩
theorem tyLe_D {d : PyData} : TyLe (isD d) (isD d) := fun _ _ h => h
theorem tyLe_P {K : PySem.W.Frag} {d : PyData} : TyLe (isD d) (isP K d) := fun v B p => Dq_K d v p
section
variable {K : PySem.W.Frag} {E : L2.St → XK} {G : Gm} {te ta tb tl td ty : TE} {tas : TA} {P P1 P2 P3 : Ty} {Ps : List Ty} {d e : PyData} {n N : Nat} {js1 js2 js3 : List Nat} {g1 g2 g3 : TG} {f1 f2 f3 : Gm → Gm}
theorem sv_le {P' : Ty} (h : Sv te G P) (l : TyLe P P') : Sv te G P' := fun M0 σ B M H Q q => h M0 σ B M H Q fun v B' e dj p => q v B' e dj (l v B' p)
theorem argsP : ∀ {Ps : List Ty} {vs : List V} {B M : Hp}, ArsOk (Ps.map Ar.im) vs B M → AllT Ps vs B
  | [], _, _, _, h => by cases h; exact .nil
  | P :: Ps, _, _, _, h => by cases h with | cons a b => exact .cons a (argsP b)
theorem sv_tupTs (h : Sa tas G (Ps.map .im)) (hz : Ps.length ≤ sizeLine) : Sv (tTup tas) G (isTs Ps) := fun M0 σ B M H Q q => h M0 σ B M H _ fun vs B1 e1 d1 p1 => by
  have a := argsP p1
  refine ⟨by rw [a.len]; exact hz, fun p hp => ?_⟩
  rw [upd_new hp]
  exact q _ _ (e1.trans (ex_new hp)) (dj_new d1 hp) ⟨p, vs, rfl, upd_same, a.ext (ex_new hp)⟩
theorem sv_lstLs (h : Sa tas G (Ps.map .im)) (hz : Ps.length ≤ sizeLine) : Sv (tLst tas) G (isLs Ps) := fun M0 σ B M H Q q => h M0 σ B M H _ fun vs B1 e1 d1 p1 => by
  have a := argsP p1
  refine ⟨by rw [a.len]; exact hz, fun p hp => ?_⟩
  rw [upd_new hp]
  exact q _ _ (e1.trans (ex_new hp)) (dj_new d1 hp) ⟨p, vs, rfl, upd_same, a.ext (ex_new hp)⟩
theorem tg_tups3 (h1 : Tg N js1 g1 P1 f1) (h2 : Tg N js2 g2 P2 f2) (h3 : Tg N js3 g3 P3 f3) (hf : ∀ G : Gm, (f1 G).length = G.length) (hf2 : ∀ G : Gm, (f2 G).length = G.length) : Tg N (js1 ++ (js2 ++ js3)) (gTup K 3 (gCons g1 (gCons g2 (gCons g3 gNil)))) (isTs [P1, P2, P3]) (fun G => f3 (f2 (f1 G))) := fun M0 G σ B M v hl H p Q q => by
  obtain ⟨a, vs, rfl, hh, q1⟩ := p
  cases q1 with
  | cons p1 q1 => cases q1 with
    | cons p2 q1 => cases q1 with
      | cons p3 q1 =>
        cases q1
        refine ⟨a, _, rfl, st_of (jn_B H.dj hh), rfl, _, _, rfl, ?_⟩
        refine h1 M0 G σ B M _ hl H p1 _ fun σ1 w1 H1 => ⟨_, _, rfl, ?_⟩
        refine h2 M0 (f1 G) σ1 B M _ (by rw [hf]; exact hl) H1 p2 _ fun σ2 w2 H2 => ⟨_, _, rfl, ?_⟩
        refine h3 M0 (f2 (f1 G)) σ2 B M _ (by rw [hf2, hf]; exact hl) H2 p3 _ fun σ3 w3 H3 => ⟨rfl, ?_⟩
        exact q σ3 (fun vs h => ((w3 vs fun j hj => h j (List.mem_append.mpr (.inr (List.mem_append.mpr (.inr hj))))).trans (w2 vs fun j hj => h j (List.mem_append.mpr (.inr (List.mem_append.mpr (.inl hj)))))).trans (w1 vs fun j hj => h j (List.mem_append.mpr (.inl hj)))) H3
end
/-! ### equality with the module's data -/
theorem DqK_dp {K : PySem.W.Frag} {B M : Hp} (dj : Dj B M) : ∀ (d : PyData) (v : V), DqK K B v d → Dp K (jn B M) v d
  | .none, _, h => by cases h; exact .non
  | .bool b, _, h => by cases h; exact .bl b
  | .int i, _, h => by cases h; exact .int i
  | .str x, _, h => by cases h; exact .str x
  | .list ds, _, h => by
    cases h with
    | lst hs ha => exact .lst (sq_of (jn_B dj hs)) (go dj ds _ ha)
  | .tuple ds, _, h => by
    cases h with
    | tup hs ha => exact .tup (jn_st dj hs) (go dj ds _ ha)
  | .dict _, _, h => by cases h
where
  go {K : PySem.W.Frag} {B M : Hp} (dj : Dj B M) : ∀ (ds : List PyData) (vs : List V), DqKA K B vs ds → DpAll K (jn B M) vs ds
  | [], _, h => by cases h; exact .nil
  | d :: ds, _, h => by
    cases h with
    | cons a b => exact .cons (DqK_dp dj d _ a) (go dj ds _ b)
section
variable {K : PySem.W.Frag} {G : Gm} {ta tb : TE} {d e : PyData}
theorem sv_eqP (ha : Sv ta G (isP K d)) (hb : Sv tb G (isP K e)) (h1 : SeqAt.shaped d = true) (h2 : SeqAt.shaped e = true) : Sv (tOp (rEqD K) ta tb) G (isD (.bool (PyData.eqv d e))) := fun M0 σ B M H Q q =>
  ha M0 σ B M H _ fun x B1 e1 d1 p1 => hb M0 σ B1 M (H.ext e1 d1) _ fun y B2 e2 d2 p2 =>
    ⟨d, e, DqK_dp d2 d x (DqK_ex e2 d x p1), DqK_dp d2 e y p2, h1, h2, q _ B2 (e1.trans e2) d2 (.bl _)⟩
theorem sv_neP (ha : Sv ta G (isP K d)) (hb : Sv tb G (isP K e)) (h1 : SeqAt.shaped d = true) (h2 : SeqAt.shaped e = true) : Sv (tOp (rNeD K) ta tb) G (isD (.bool (!PyData.eqv d e))) := fun M0 σ B M H Q q =>
  ha M0 σ B M H _ fun x B1 e1 d1 p1 => hb M0 σ B1 M (H.ext e1 d1) _ fun y B2 e2 d2 p2 =>
    ⟨d, e, DqK_dp d2 d x (DqK_ex e2 d x p1), DqK_dp d2 e y p2, h1, h2, q _ B2 (e1.trans e2) d2 (.bl _)⟩
end
/-! ### a dict with tuple keys that one owns or is shown -/
def keyT (k : List Key) : PyData := .tuple (k.map keyD)
theorem keyT_dq {K : PySem.W.Frag} {B : Hp} {v : V} {k : List Key} (h : DqK K B v (keyT k)) : ∃ b, v = .ref b ∧ (B b = some (.tup (k.map kV)) ∨ KT K b (k.map kV)) := by
  cases h with
  | @tup a xs _ hs ha =>
    have e : ∀ {ks : List Key} {xs : List V}, DqKA K B xs (ks.map keyD) → xs = ks.map kV := fun {ks} => by
      induction ks with
      | nil => intro xs h; cases h; rfl
      | cons k ks ih =>
        intro xs h
        cases h with
        | cons a b =>
          rw [ih b]
          cases k with
          | inl i => cases a; rfl
          | inr s => cases a; rfl
    obtain rfl := e ha
    exact ⟨a, rfl, hs⟩
def dXo (P : Program) (w : World) (K : PySem.W.Frag) (n : Nat) (ks : List (List Key)) (f : List Key → PyData) : Ow :=
  ⟨fun a o B => ∃ kvs, o = DXO P w a kvs ∧ kvs.length ≤ n ∧ (∀ p ∈ kvs, (B p.2.1 = some (.tup (p.1.map kV)) ∨ KT K p.2.1 (p.1.map kV)) ∧ Dq B p.2.2 (f p.1)) ∧ ∀ k, (getX kvs k).isSome = true ↔ k ∈ ks,
   fun e ⟨kvs, h1, h2, h3, h4⟩ => ⟨kvs, h1, h2, fun p hp => ⟨(h3 p hp).1.imp (e _ _) id, Dq_ex e _ _ (h3 p hp).2⟩, h4⟩⟩
theorem getX_mem {kvs : KX} {k : List Key} {v : V} (h : getX kvs k = some v) : ∃ p ∈ kvs, p.1 = k ∧ p.2.2 = v := by
  unfold getX at h
  obtain ⟨p, hp, e⟩ := Option.map_eq_some_iff.mp h
  have z := List.find?_some hp
  exact ⟨p, List.mem_of_find?_eq_some hp, of_decide_eq_true z, e⟩
theorem getX_iff {kvs : KX} {k : List Key} : (getX kvs k).isSome = true ↔ k ∈ kvs.map (·.1) := by
  unfold getX
  rw [Option.isSome_map, List.find?_isSome]
  constructor
  · rintro ⟨p, hp, e⟩; exact List.mem_map.mpr ⟨p, hp, of_decide_eq_true e⟩
  · intro h; obtain ⟨p, hp, e⟩ := List.mem_map.mp h; exact ⟨p, hp, decide_eq_true e⟩
theorem putX_iff {kvs : KX} {k j : List Key} {b : Addr} {v : V} : (getX (putX kvs k b v) j).isSome = true ↔ j = k ∨ (getX kvs j).isSome = true := by
  rw [getX_iff, getX_iff]
  unfold putX
  split
  · rename_i h
    rw [getX_iff] at h
    rw [List.map_map]
    have e : (kvs.map ((fun p : List Key × Addr × V => p.1) ∘ fun p => if p.1 = k then (p.1, p.2.1, v) else p)) = kvs.map (·.1) := List.map_congr_left fun p _ => by
      show (if p.1 = k then (p.1, p.2.1, v) else p).1 = p.1
      split <;> rfl
    rw [e]
    constructor
    · exact .inr
    · rintro (rfl | z)
      · exact h
      · exact z
  · rw [List.map_append, List.mem_append]
    constructor
    · rintro (z | z)
      · exact .inr z
      · exact .inl (List.mem_singleton.mp z)
    · rintro (z | z)
      · exact .inr (List.mem_singleton.mpr z)
      · exact .inl z
theorem putX_mem {kvs : KX} {k : List Key} {b : Addr} {v : V} {p : List Key × Addr × V} (h : p ∈ putX kvs k b v) : p ∈ kvs ∨ (p.1 = k ∧ p.2.2 = v ∧ (p.2.1 = b ∨ ∃ q ∈ kvs, q.1 = k ∧ q.2.1 = p.2.1)) := by
  unfold putX at h
  split at h
  · obtain ⟨q, hq, e⟩ := List.mem_map.mp h
    split at e
    · rename_i z
      subst e
      exact .inr ⟨z, rfl, .inr ⟨q, hq, z, rfl⟩⟩
    · subst e; exact .inl hq
  · rcases List.mem_append.mp h with z | z
    · exact .inl z
    · rw [List.mem_singleton] at z
      subst z
      exact .inr ⟨rfl, rfl, .inl rfl⟩
theorem dXo_put {P : Program} {w : World} {K : PySem.W.Frag} {n : Nat} {ks : List (List Key)} {f : List Key → PyData} {a b : Addr} {B : Hp} {kvs : KX} {k : List Key} {v : V}
    (h2 : kvs.length ≤ n) (h3 : ∀ p ∈ kvs, (B p.2.1 = some (.tup (p.1.map kV)) ∨ KT K p.2.1 (p.1.map kV)) ∧ Dq B p.2.2 (f p.1)) (h4 : ∀ k, (getX kvs k).isSome = true ↔ k ∈ ks) (hb : B b = some (.tup (k.map kV)) ∨ KT K b (k.map kV)) (hv : Dq B v (f k)) :
    (dXo P w K (n + 1) (k :: ks) f).r a (DXO P w a (putX kvs k b v)) B := by
  refine ⟨_, rfl, by have := putX_len kvs k b v; omega, fun p hp => ?_, fun j => ?_⟩
  · rcases putX_mem hp with z | ⟨z1, z2, z3⟩
    · exact h3 p z
    · refine ⟨?_, by rw [z1, z2]; exact hv⟩
      rw [z1]
      rcases z3 with z | ⟨q, hq, e1, e2⟩
      · rw [z]; exact hb
      · rw [← e2, ← e1]; exact (h3 q hq).1
  · rw [putX_iff, h4 j, List.mem_cons]
def memX (ks : List (List Key)) (k : List Key) : Bool := ks.any fun j => decide (j = k)
theorem memX_iff {ks : List (List Key)} {k : List Key} : memX ks k = true ↔ k ∈ ks := by
  unfold memX
  rw [List.any_eq_true]
  constructor
  · rintro ⟨j, hj, e⟩; rw [← of_decide_eq_true e]; exact hj
  · intro h; exact ⟨k, h, decide_eq_true rfl⟩
theorem memX_of {ks : List (List Key)} {k : List Key} {b : Bool} (h : b = true ↔ k ∈ ks) : b = memX ks k := by
  cases b with
  | true => exact (memX_iff.mpr (h.mp rfl)).symm
  | false =>
    cases z : memX ks k with
    | true => exact absurd (h.mpr (memX_iff.mp z)) Bool.false_ne_true
    | false => rfl
/-- td is a dict -/
def Rx (td : TE) (G : Gm) (R : Ow) : Prop := ∀ (M0 : Hp) (σ : L2.St) (B M : Hp), Holds M0 G σ B M → ∀ Q : VK, (∀ a o, M a = some o → R.r a o B → Q (.ref a) (jn B M)) → td σ (jn B M) Q
section
variable {P : Program} {w : World} {K : PySem.W.Frag} {E : L2.St → XK} {G : Gm} {td ty tv : TE} {n m : Nat} {ks : List (List Key)} {f : List Key → PyData} {k : List Key} {R : Ow}
theorem rx_ow (h : G[n]? = some (.ow R)) : Rx (tVar n) G R := fun M0 σ B M H Q q => by
  obtain ⟨l, o, a, b, c, _⟩ := H.ow n _ h
  exact ⟨_, a, q l o b c⟩
theorem rx_bw (h : G[n]? = some (.bw R)) : Rx (tVar n) G R := fun M0 σ B M H Q q => by
  obtain ⟨l, o, a, b, c⟩ := H.bw n _ h
  exact ⟨_, a, q l o (H.cal _ _ b) c⟩
theorem keysX_of {B M : Hp} {kvs : KX} (dj : Dj B M) (h3 : ∀ p ∈ kvs, (B p.2.1 = some (.tup (p.1.map kV)) ∨ KT K p.2.1 (p.1.map kV)) ∧ Dq B p.2.2 (f p.1)) : KeysX K (jn B M) kvs := fun p hp => jn_st dj (h3 p hp).1
theorem sv_xin (hk : Sv ty G (isP K (keyT k))) (hd : Rx td G (dXo P w K m ks f)) : Sv (tXIn P w K ty td) G (isD (.bool (memX ks k))) := fun M0 σ B M H Q q =>
  hk M0 σ B M H _ fun y B1 e1 d1 p1 => hd M0 σ B1 M (H.ext e1 d1) _ fun a o ho hr => by
    obtain ⟨b, rfl, hb⟩ := keyT_dq p1
    obtain ⟨kvs, rfl, h2, h3, h4⟩ := hr
    refine ⟨a, b, kvs, k, rfl, rfl, jn_M ho, keysX_of d1 h3, jn_st d1 hb, ?_⟩
    have e : (getX kvs k).isSome = memX ks k := memX_of (h4 k)
    rw [e]
    exact q _ B1 e1 d1 (.bl _)
theorem sv_xnot (hk : Sv ty G (isP K (keyT k))) (hd : Rx td G (dXo P w K m ks f)) : Sv (tXNot P w K ty td) G (isD (.bool (!memX ks k))) := fun M0 σ B M H Q q =>
  hk M0 σ B M H _ fun y B1 e1 d1 p1 => hd M0 σ B1 M (H.ext e1 d1) _ fun a o ho hr => by
    obtain ⟨b, rfl, hb⟩ := keyT_dq p1
    obtain ⟨kvs, rfl, h2, h3, h4⟩ := hr
    refine ⟨a, b, kvs, k, rfl, rfl, jn_M ho, keysX_of d1 h3, jn_st d1 hb, ?_⟩
    have e : (getX kvs k).isSome = memX ks k := memX_of (h4 k)
    rw [e]
    exact q _ B1 e1 d1 (.bl _)
theorem sv_xget (hd : Rx td G (dXo P w K m ks f)) (hk : Sv ty G (isP K (keyT k))) (hm : k ∈ ks) : Sv (tXGet P w K td ty) G (isD (f k)) := fun M0 σ B M H Q q =>
  hd M0 σ B M H _ fun a o ho hr => hk M0 σ B M H _ fun y B1 e1 d1 p1 => by
    obtain ⟨b, rfl, hb⟩ := keyT_dq p1
    obtain ⟨kvs, rfl, h2, h3, h4⟩ := hr
    obtain ⟨v, hv⟩ := Option.isSome_iff_exists.mp ((h4 k).mpr hm)
    obtain ⟨p, hp, e2, e3⟩ := getX_mem hv
    refine ⟨a, b, kvs, k, v, rfl, rfl, jn_M ho, keysX_of (f := f) d1 (fun p hp => ⟨(h3 p hp).1.imp (e1 _ _) id, Dq_ex e1 _ _ (h3 p hp).2⟩), jn_st d1 hb, hv, ?_⟩
    refine q _ B1 e1 d1 ?_
    have := Dq_ex e1 _ _ (h3 p hp).2
    rw [e2, e3] at this
    exact this
/-- d[y] = v, d one's own -/
theorem ss_xput (h : G[n]? = some (.ow (dXo P w K m ks f))) (hv : Sv tv G (isD (f k))) (hk : Sv ty G (isP K (keyT k))) (hm : m < sizeLine) : Ss E (sXPut P w K (tVar n) ty tv) G (.nx (G.set n (.ow (dXo P w K (m + 1) (k :: ks) f)))) := fun M0 D σ B M H q =>
  hv M0 σ B M H _ fun v B1 e1 d1 p1 => by
    have H1 := H.ext e1 d1
    obtain ⟨l, o, a, c, _, _⟩ := H1.ow n _ h
    refine ⟨.ref l, a, ?_⟩
    refine hk M0 σ B1 M H1 _ fun y B2 e2 d2 p2 => ?_
    have H2 := H1.ext e2 d2
    obtain ⟨l', o', a', c', ⟨kvs, rfl, h2, h3, h4⟩, _⟩ := H2.ow n _ h
    obtain rfl : l = l' := by rw [a] at a'; cases a'; rfl
    obtain ⟨b, rfl, hb⟩ := keyT_dq p2
    refine ⟨l, b, kvs, k, rfl, rfl, jn_M c', keysX_of d2 h3, jn_st d2 hb, by omega, ?_⟩
    rw [upd_own]
    exact q σ B2 _ (e1.trans e2) (H2.change h a' c' (dXo_put h2 h3 h4 hb (Dq_ex e2 _ _ p1)))
/-- y = {} -/
theorem ss_xnew (f : List Key → PyData) (hn : n < G.length := by exact Nat.le_of_ble_eq_true rfl) : Ss E (tAsg (tXNew P w) (gName n)) G (.nx (G.set n (.ow (dXo P w K 0 [] f)))) := fun M0 D σ B M H q p hf => by
  rw [upd_own]
  exact q _ B _ (Ex.refl B) (H.setOw hn hf ⟨[], rfl, Nat.le_refl _, ⟨fun p hp => absurd hp List.not_mem_nil, fun k => ⟨fun z => absurd z (by simp [getX]), fun z => absurd z List.not_mem_nil⟩⟩⟩)
end
end Mini

namespace Mini
open PySem PySem.Spec L2 Evl PyProof.Rows

/-! ### from statements over ghosts to plain ones -/
section
variable {E : XK} {ts tu : TS} {G G' : Gm} {X X1 : Gx} {P : Ty} {C : Addr} {R : Ow} {n : Nat} {p : Addr}
theorem gok_nil {M0 B M : Hp} {σ : L2.St} : GOk [] M0 G σ B M := { nd := List.nodup_nil, m0 := fun x h => absurd h List.not_mem_nil, ob := fun x h => absurd h List.not_mem_nil, ns := fun x h => absurd h List.not_mem_nil }
theorem ss_sgRt (h : Sg E ts G [] (.rt P X)) : Ss (fun _ => E) ts G (.rt P) := fun M0 D σ B M H q => h M0 D σ B M H gok_nil fun v B' M' e d c p _ => q v B' M' e d c p
theorem rep_no {m i : Nat} {S : Sl} (h : (List.replicate m Sl.no)[i]? = some S) : S = .no := List.eq_of_mem_replicate (List.mem_of_getElem? h)
theorem ss_sgBad (h : Sg E ts G [] (.bad C X)) : Ss (fun _ => E) ts G (.bad C (List.replicate G.length .no)) := fun M0 D σ B M H q => h M0 D σ B M H gok_nil fun B' M' e d c _ =>
  q σ B' M' e ⟨by rw [List.length_replicate]; exact H.len, d, c, fun i P z => absurd (rep_no z) (fun w => by cases w), fun i R z => absurd (rep_no z) (fun w => by cases w), fun i R z => absurd (rep_no z) (fun w => by cases w), fun i j R R' l z => absurd (rep_no z) (fun w => by cases w)⟩
/-! ### a ghost seen through its slot -/
def atO (p : Addr) (R : Ow) : Ow := ⟨fun a o B => a = p ∧ R.r a o B, fun e ⟨h1, h2⟩ => ⟨h1, R.mono e h2⟩⟩
theorem GOk.viewA {M0 B M : Hp} {σ : L2.St} (g : GOk X M0 G σ B M) (H : Holds M0 G σ B M) (hn : G[n]? = some (.im (isV (.ref p)))) (hx : (p, R) ∈ X) : Holds (Mini.fr X M0 M) (G.set n (.bw (atO p R))) σ B M := by
  have F := g.view H hn hx
  have hlt := (List.getElem?_eq_some_iff.mp hn).1
  obtain ⟨v, h1, h2⟩ := H.im n _ hn
  obtain rfl : v = .ref p := h2
  have old : ∀ {i : Nat} {S : Sl}, i ≠ n → (G.set n (.bw (atO p R)))[i]? = some S → (G.set n (.bw R))[i]? = some S := fun {i S} z q => by
    rw [List.getElem?_set_ne (Ne.symm z)] at q ⊢; exact q
  have at' : ∀ {i : Nat} {S : Sl}, (G.set n (.bw (atO p R)))[i]? = some S → (i = n ∧ S = .bw (atO p R)) ∨ (i ≠ n ∧ (G.set n (.bw R))[i]? = some S) := fun {i S} q => by
    by_cases z : i = n
    · subst z; rw [List.getElem?_set_self hlt] at q; cases q; exact .inl ⟨rfl, rfl⟩
    · exact .inr ⟨z, old z q⟩
  refine ⟨by have := F.len; simpa using this, F.dj, F.cal, fun i P q => ?_, fun i R' q => ?_, fun i R' q => ?_, fun i j R1 R2 l q1 q2 s1 s2 => ?_⟩
  · rcases at' q with ⟨_, z⟩ | ⟨_, z⟩
    · cases z
    · exact F.im i P z
  · rcases at' q with ⟨_, z⟩ | ⟨_, z⟩
    · cases z
    · exact F.ow i R' z
  · rcases at' q with ⟨rfl, z⟩ | ⟨_, z⟩
    · cases z
      obtain ⟨l, o, a, b, c⟩ := F.bw i R (List.getElem?_set_self hlt)
      rw [h1] at a
      cases a
      exact ⟨p, o, h1, b, rfl, c⟩
    · exact F.bw i R' z
  · rcases at' q1 with ⟨_, z⟩ | ⟨_, z1⟩
    · cases z
    · rcases at' q2 with ⟨_, z⟩ | ⟨_, z2⟩
      · cases z
      · exact F.ne i j R1 R2 l z1 z2 s1 s2
/-- a statement that reads a ghost -/
theorem sg_nxV (hn : G[n]? = some (.im (isV (.ref p)))) (hx : (p, R) ∈ X) (h : Ss (fun _ => E) ts (G.set n (.bw (atO p R))) (.nx (G'.set n (.bw (atO p R))))) (hn' : G'[n]? = some (.im (isV (.ref p)))) (nb : noBwB G' = true) : Sg E ts G X (.nx G' X) := fun M0 D σ B M H g q =>
  h _ D σ B M (g.viewA H hn hx) fun σ' B' M' e H' => by
    have hlt := (List.getElem?_eq_some_iff.mp hn').1
    obtain ⟨l, o, a, b, rfl, c⟩ := H'.bw n _ (List.getElem?_set_self hlt)
    have F : Holds (Mini.fr X M0 M) G' σ' B' M' := by
      refine ⟨by have := H'.len; simpa using this, H'.dj, H'.cal, fun i P z => ?_, fun i R' z => ?_, fun i R' z => ?_, fun i j R1 R2 l z1 z2 => ?_⟩
      · by_cases w : i = n
        · subst w
          rw [hn'] at z
          cases z
          exact ⟨_, a, rfl⟩
        · exact H'.im i P (by rw [List.getElem?_set_ne (Ne.symm w)]; exact z)
      · by_cases w : i = n
        · subst w; rw [hn'] at z; cases z
        · exact H'.ow i R' (by rw [List.getElem?_set_ne (Ne.symm w)]; exact z)
      · exact absurd z (noBw_of nb i R')
      · have w1 : i ≠ n := fun w => by subst w; rw [hn'] at z1; cases z1
        have w2 : j ≠ n := fun w => by subst w; rw [hn'] at z2; cases z2
        exact H'.ne i j R1 R2 l (by rw [List.getElem?_set_ne (Ne.symm w1)]; exact z1) (by rw [List.getElem?_set_ne (Ne.symm w2)]; exact z2)
    obtain ⟨r1, r2⟩ := g.toXOk.unfr e F (noBw_of nb)
    exact q σ' B' M' e r1 r2
end
/-! ### ghost dicts -/
section
variable {P : Program} {w : World} {K : PySem.W.Frag} {E : XK} {ts tu : TS} {ty tv : TE} {G G' : Gm} {X : Gx} {o : Og} {n m : Nat} {p : Addr} {ks : List (List Key)} {f : List Key → PyData} {k : List Key}
theorem sg_new1 {te : TE} {R : Ow} (h : ∀ (M0 : Hp) (σ : L2.St) (B M : Hp), Holds M0 G σ B M → ∀ Q : VK, (∀ p o B', Ex B B' → Dj B' M → jn B' M p = none → R.r p o B' → Q (.ref p) (upd (jn B' M) p o)) → te σ (jn B M) Q) (hn : n < G.length)
    (k : ∀ p, Sg E tu (G.set n (.im (isV (.ref p)))) ((p, R) :: X) o) : Sg E (tSeq (tAsg te (gName n)) tu) G X o := fun M0 D σ B M H g q =>
  h M0 σ B M H _ fun p ob B' e d hf hv => by
    have hB := (jn_free hf).1
    have hM := (jn_free hf).2
    have hx : p ∉ X.map (·.1) := fun z => by
      obtain ⟨x, hx, e⟩ := List.mem_map.mp z
      obtain ⟨o, h1, _⟩ := g.ob x hx
      rw [e, hM] at h1; cases h1
    rw [upd_own]
    have H1 := ((H.ext e d).more (p := p) (o := ob) hf).setIm (n := n) (v := .ref p) (P := isV (.ref p)) hn rfl
    have d1 : Dj B' (upd M p ob) := dj_own d hB
    refine k p M0 D _ B' _ H1 ?_ (q.ext e)
    have g1 := (g.ext e).set n (isV (.ref p)) (.ref p)
    have hM0 : M0 p = none := by
      cases z : M0 p with
      | none => rfl
      | some u => have := H.cal p u z; rw [hM] at this; cases this
    refine { nd := by rw [List.map_cons]; exact List.nodup_cons.mpr ⟨hx, g.nd⟩, m0 := fun x hx' => ?_, ob := fun x hx' => ?_, ns := fun x hx' i R z => ?_ }
    · rcases List.mem_cons.mp hx' with rfl | z
      · exact hM0
      · exact g.m0 x z
    · rcases List.mem_cons.mp hx' with rfl | z
      · exact ⟨_, upd_same, hv⟩
      · obtain ⟨o, h1, h2⟩ := g1.ob x z
        have ne : x.1 ≠ p := fun z' => hx (z' ▸ List.mem_map.mpr ⟨x, z, rfl⟩)
        exact ⟨o, by rw [upd_ne ne]; exact h1, h2⟩
    · rcases List.mem_cons.mp hx' with rfl | z'
      · intro s
        obtain ⟨l, o, a, b, c, f⟩ := ((H.ext e d).setIm (n := n) (v := .ref p) (P := isV (.ref p)) hn rfl).ow i R z
        rw [a] at s
        cases s
        rw [hM] at b; cases b
      · exact g1.ns x z' i R z
theorem sg_xnew (f : List Key → PyData) (hn : n < G.length) (k : ∀ p, Sg E tu (G.set n (.im (isV (.ref p)))) ((p, dXo P w K 0 [] f) :: X) o) : Sg E (tSeq (tAsg (tXNew P w) (gName n)) tu) G X o :=
  sg_new1 (R := dXo P w K 0 [] f) (fun M0 σ B M H Q q p hf => q p _ B (Ex.refl B) H.dj hf ⟨[], rfl, Nat.le_refl _, ⟨fun p hp => absurd hp List.not_mem_nil, fun k => ⟨fun z => absurd z (by simp [getX]), fun z => absurd z List.not_mem_nil⟩⟩⟩) hn k
theorem sg_xput (hl : G[n]? = some (.im (isV (.ref p)))) (hv : Sv tv G (isD (f k))) (hk : Sv ty G (isP K (keyT k))) (hm : m < sizeLine) :
    Sg E (sXPut P w K (tVar n) ty tv) G ((p, dXo P w K m ks f) :: X) (.nx G ((p, dXo P w K (m + 1) (k :: ks) f) :: X)) := fun M0 D σ B M H g q =>
  hv M0 σ B M H _ fun v B1 e1 d1 p1 => by
    have H1 := H.ext e1 d1
    obtain ⟨u, a, b⟩ := H1.im n _ hl
    obtain rfl : u = .ref p := b
    refine ⟨.ref p, a, ?_⟩
    refine hk M0 σ B1 M H1 _ fun y B2 e2 d2 p2 => ?_
    have H2 := H1.ext e2 d2
    have g2 := (g.ext e1).ext e2
    obtain ⟨ob, h1, kvs, rfl, h2, h3, h4⟩ := g2.ob _ (List.mem_cons_self ..)
    obtain ⟨b, rfl, hb⟩ := keyT_dq p2
    refine ⟨p, b, kvs, k, rfl, rfl, jn_M h1, keysX_of d2 h3, jn_st d2 hb, by omega, ?_⟩
    rw [upd_own]
    obtain ⟨r1, r2⟩ := GOk.after (X1 := [(p, dXo P w K m ks f)]) (X2 := X) (Y := [(p, dXo P w K (m + 1) (k :: ks) f)]) (ad := [p]) (B' := B2) (M' := upd M p (DXO P w p (putX kvs k b v))) H2 g2 rfl rfl (Ex.refl _) (fun a u z => by
      by_cases w : a = p
      · have := d2 a u z
        rw [w] at this
        rw [show M p = some (DXO P _ p kvs) from h1] at this
        cases this
      · rw [upd_ne w]; exact d2 a u z) (fun a w => upd_ne (fun z => w (by rw [z]; exact List.mem_singleton.mpr rfl))) (fun y' hy' => by
      rw [List.mem_singleton] at hy'
      subst hy'
      exact ⟨_, upd_same, dXo_put h2 h3 h4 hb (Dq_ex e2 _ _ p1)⟩)
    exact q σ B2 _ (e1.trans e2) r1 r2
end
/-! ### loops -/
section
variable {K : PySem.W.Frag} {E : XK} {X : Gx} {G : Gm} {tu : TS} {te tl : TE} {o : Og} {j nn : Nat} {n : Int} {js : List Nat} {g : TG} {Ps : List Ty}
/-- over range(n) -/
theorem sg_forR (h : Sv te G (isD (.int n))) (hn : n ≤ 2 ^ 60) (Gi : Nat → Gm) (Xi : Nat → Gx) (N : Nat) (hN : N ≤ n.toNat) (h0 : G = Gi 0) (x0 : X = Xi 0) (hj : ∀ i, i ≤ N → j < (Gi i).length)
    (hs : ∀ i : Nat, i < N → Sg E tu ((Gi i).set j (.im (isD (.int (i : Int))))) (Xi i) (.nx (Gi (i + 1)) (Xi (i + 1)))) (hd : (N = n.toNat ∧ o = .nx (Gi N) (Xi N)) ∨ (N < n.toNat ∧ o.leaves ∧ Sg E tu ((Gi N).set j (.im (isD (.int (N : Int))))) (Xi N) o))
    (hlo : -(2 ^ 60) ≤ n := by first | omega | decide) : Sg E (tFor (iRng1 (tCons te tNil)) (gName j) tu) G X o := fun M0 D σ B M H g q => by
  subst h0
  subst x0
  exact h M0 σ B M H _ fun v B1 e1 d1 p1 => ⟨n, by rw [dp_int p1], by omega, by omega, by
    refine for_range (lo := 0) (n := n.toNat) (Pvg M0 B1 Gi Xi N) ⟨Nat.zero_le _, B1, M, rfl, Ex.refl _, H.ext e1 d1, g.ext e1⟩ (fun i σ' H' hi p => ?_) (fun σ' H' p => ?_)
    · obtain ⟨hiN, B', M', rfl, e, H', g'⟩ := p
      have e0 : (0 : Int) + (i : Int) = (i : Int) := Int.zero_add _
      show tu _ (σ'.set j (some (.int ((0 : Int) + (i : Int))))) _
      rw [e0]
      refine turn_okG (o := o) hiN (H'.setIm (hj i hiN) (P := isD (.int _)) (Dq.int _)) (g'.set j _ _) e (fun l => hs i l) (fun l => ?_) (q.ext e1)
      rcases hd with ⟨a, _⟩ | ⟨_, l', b⟩
      · omega
      · rw [l]; exact ⟨l', b⟩
    · obtain ⟨hiN, B', M', rfl, e, H', g'⟩ := p
      rcases hd with ⟨a, b⟩ | ⟨a, _⟩
      · rw [b] at q
        rw [← a] at H' g'
        exact q σ' B' M' (e1.trans e) H' g'
      · omega⟩
/-- over a list of things of any type, any target -/
theorem sg_forLs (h : Sv tl G (isLs Ps)) (fd : Nat → Gm → Gm) (Gi : Nat → Gm) (Xi : Nat → Gx) (N : Nat) (hN : N ≤ Ps.length) (h0 : G = Gi 0) (x0 : X = Xi 0) (hj : ∀ i, i ≤ N → (Gi i).length = nn) (hg : ∀ i P, Ps[i]? = some P → Tg nn js g P (fd i)) (nb : ∀ i, i ≤ N → noBwB (fd i (Gi i)) = true)
    (hs : ∀ i, i < N → Sg E tu (fd i (Gi i)) (Xi i) (.nx (Gi (i + 1)) (Xi (i + 1)))) (hd : (N = Ps.length ∧ o = .nx (Gi N) (Xi N)) ∨ (N < Ps.length ∧ o.leaves ∧ Sg E tu (fd N (Gi N)) (Xi N) o)) :
    Sg E (tFor (iList K tl) g tu) G X o := fun M0 D σ B M H g' q => by
  subst h0
  subst x0
  exact h M0 σ B M H _ fun v B1 e1 d1 p1 => by
    obtain ⟨a, vs, rfl, ha, hv⟩ := p1
    have hlen := hv.len
    refine ⟨a, rfl, ⟨vs, sq_of (jn_B d1 ha)⟩, ?_⟩
    refine for_list (xs := vs) (Pvg M0 B1 Gi Xi N) ⟨Nat.zero_le _, B1, M, rfl, Ex.refl B1, H.ext e1 d1, g'.ext e1⟩ (fun i σ' H' _ p => ?_) (fun i x σ' H' hx p => ?_) (fun σ' H' p => ?_)
    · obtain ⟨_, B', M', rfl, e, H', _⟩ := p
      exact sq_of (jn_B H'.dj (e _ _ ha))
    · obtain ⟨hiN, B', M', rfl, e, H', g2⟩ := p
      obtain ⟨P, hP, px⟩ := hv.getV hx
      refine hg i P hP _ (Gi i) σ' B' M' x (hj i hiN) (g2.fr H') (P.mono e px) _ fun σ2 _ H2 => ?_
      obtain ⟨r1, r2⟩ := g2.toXOk.unfr (Ex.refl _) H2 (noBw_of (nb i hiN))
      refine turn_okG (o := o) hiN r1 r2 e (fun l => hs i l) (fun l => ?_) (q.ext e1)
      rcases hd with ⟨b, _⟩ | ⟨_, l', b⟩
      · have := (List.getElem?_eq_some_iff.mp hx).1; omega
      · rw [← l] at b
        exact ⟨l', b⟩
    · obtain ⟨hiN, B', M', rfl, e, H', g2⟩ := p
      rcases hd with ⟨b, c⟩ | ⟨b, _⟩
      · rw [c] at q
        rw [hlen, ← b] at H' g2
        exact q σ' B' M' (e1.trans e) H' g2
      · omega
end
end Mini

namespace Mini
open PySem PySem.Spec L2 Evl PyProof.Rows
section
variable {K : PySem.W.Frag} {E : L2.St → XK} {G : Gm} {te tel tl : TE} {tt : TT} {g : TG} {ds : List PyData} {d : PyData} {n m j : Nat} {C : Addr} {vs : List Nat}
/-- a comprehension over what raises -/
theorem sb_lc (h : Sb tl G E C) : Sb (tLc (iList K tl) g tt te vs) G E C := fun M0 σ B M H Q q => h M0 σ B M H _ q
/-- xs.pop(i), xs one's own -/
theorem ss_popAt {i : Int} (h : G[n]? = some (.ow (isL ds))) (hi : Sv te G (isD (.int i))) (hb : 0 ≤ i ∧ i < ds.length) (hz : ds.length ≤ sizeLine) :
    Ss E (tDrop (tBM K "list" rPopAt (tVar n) (tCons te tNil))) G (.nx (G.set n (.ow (isL (ds.eraseIdx i.toNat))))) := fun M0 D σ B M H q => by
  obtain ⟨l, ob, a, c, ⟨vs, rfl, r⟩, f⟩ := H.ow n _ h
  refine ⟨.ref l, a, Or.inl ⟨rfl, vs, sq_of (jn_M c)⟩, ?_⟩
  refine hi M0 σ B M H _ fun iv B1 e1 d1 p1 => ?_
  rw [dp_int p1]
  have hlen := DqAll_len r
  have hlt : i.toNat < ds.length := by omega
  obtain ⟨y, hy, py⟩ := DqAll_get (DqAll_ex e1 r) (List.getElem?_eq_getElem hlt)
  have hzz : (sizeLine : Nat) = 16777216 := sizeLine_eq
  refine ⟨l, vs, i, i.toNat, y, rfl, rfl, jn_M c, by omega, by omega, ?_, hy, ?_⟩
  · unfold seqIndex?
    rw [hlen]
    have h1 : ¬ i < 0 := by omega
    have h2 : i < (ds.length : Int) := hb.2
    simp [h1, h2]
    try omega
  rw [upd_own]
  refine q _ B1 _ e1 ?_
  exact (H.ext e1 d1).change h a c (R' := isL (ds.eraseIdx i.toNat)) ⟨_, rfl, DqAll_eraseIdx _ (DqAll_ex e1 r)⟩
/-- y = [xs.pop(i) for k in range(N)] -/
theorem ss_setLcPop {N : Int} (rem out : Nat → List PyData) (ix : Nat → Int) (dd : Nat → PyData) (h : G[n]? = some (.ow (isL (rem 0)))) (hN : Sv te G (isD (.int N))) (hz : N < 10000000) (hlo : -(2 ^ 60) ≤ N)
    (hi : ∀ i : Nat, i < N.toNat → Sv tel (Gv (G.set n (.ow (isL (rem i)))) j (.int (i : Int))) (isD (.int (ix i)))) (hb : ∀ i : Nat, i < N.toNat → 0 ≤ ix i ∧ ix i < (rem i).length ∧ (rem i).length ≤ 1000000) (hd : ∀ i : Nat, i < N.toNat → (rem i)[(ix i).toNat]? = some (dd i))
    (hr : ∀ i : Nat, i < N.toNat → rem (i + 1) = (rem i).eraseIdx (ix i).toNat) (o0 : out 0 = []) (ho : ∀ i : Nat, i < N.toNat → out (i + 1) = out i ++ [dd i]) (hj : j < G.length) (hjn : j ≠ n) (hm : m < G.length) :
    Ss E (tAsg (tLc (iRng1 (tCons te tNil)) (gName j) tYes (tBM K "list" rPopAt (tVar n) (tCons tel tNil)) [j]) (gName m)) G (.nx ((G.set n (.ow (isL (rem N.toNat)))).set m (.ow (isL (out N.toNat))))) := fun M0 D σ B M H q =>
  hN M0 σ B M H _ fun v B1 e1 d1 p1 => by
  refine ⟨N, by rw [dp_int p1], by omega, by omega, fun Dl hD => ?_⟩
  have hzz : (sizeLine : Nat) = 16777216 := sizeLine_eq
  have H1 := H.ext e1 d1
  obtain ⟨l, ob, a, c, ⟨vs0, rfl, r0⟩, f⟩ := H1.ow n _ h
  have hMD := (jn_free hD).2
  have hl : l ≠ Dl := fun z => by rw [z, hMD] at c; cases c
  have hlen : ∀ i, i ≤ N.toNat → (out i).length = i := fun i => by
    induction i with
    | zero => intro _; rw [o0]; rfl
    | succ i ih => intro z; rw [ho i (by omega), List.length_append, ih (by omega)]; rfl
  let Pv : Nat → Hp → Prop := fun i H' => ∃ B' acc vs, H' = jn B' (upd (upd M l (.lst vs)) Dl (.lst acc)) ∧ Ex B1 B' ∧ Dj B' (upd (upd M l (.lst vs)) Dl (.lst acc)) ∧ DqAll B' acc (out i) ∧ DqAll B' vs (rem i)
  have updS : ∀ {F : Hp} {o : HO}, F l = some o → upd F l o = F := fun {F o} z => by
    funext x
    by_cases w : x = l
    · rw [w, upd_same, z]
    · rw [upd_ne w]
  have dj0 : ∀ {B' : Hp} {vs : List V} {acc : List V}, Dj B' (upd (upd M l (.lst vs)) Dl (.lst acc)) → Dj B' (upd M l (.lst vs)) := fun {B' vs acc} dj x u z => by
    have := dj x u z
    by_cases w : x = Dl
    · rw [w, upd_ne (fun z => hl z.symm)]; exact hMD
    · rw [upd_ne w] at this; exact this
  have djM : ∀ {B' : Hp} {vs : List V}, Dj B' (upd M l (.lst vs)) → Dj B' M := fun {B' vs} dj x u z => by
    have := dj x u z
    by_cases w : x = l
    · rw [w, upd_same] at this; cases this
    · rw [upd_ne w] at this; exact this
  refine lc_range (lo := 0) (n := N.toNat) Pv ?_ (fun i H' hi' p => ?_) (fun H' p => ?_)
  · refine ⟨B1, [], vs0, by rw [updS c, upd_own], Ex.refl _, ?_, by rw [o0]; exact .nil, r0⟩
    rw [updS c]
    exact dj_own d1 (jn_free hD).1
  · obtain ⟨B', acc, vs, rfl, e, dj, ha, hv⟩ := p
    have e0 : (0 : Int) + (i : Int) = (i : Int) := Int.zero_add _
    rw [e0]
    have dj1 := dj0 dj
    have hB' : B' Dl = none := dj_free dj upd_same
    have HA : Holds M0 (G.set n (.ow (isL (rem i)))) σ B' (upd M l (.lst vs)) := (H1.ext e (djM dj1)).change h a c ⟨vs, rfl, hv⟩
    have H2 : Holds M0 (Gv (G.set n (.ow (isL (rem i)))) j (.int (i : Int))) ((L2.wipe σ [j]).set j (some (V.int (i : Int)))) B' (upd (upd M l (.lst vs)) Dl (.lst acc)) := by
      have h1 := (HA.wipes [j]).more (p := Dl) (o := .lst acc) (show jn B' (upd M l (.lst vs)) Dl = none by rw [jn_N (by rw [upd_ne (fun z => hl z.symm)]; exact hMD)]; exact hB')
      exact h1.setIm (by show j < ((G.set n _).set j .no).length; rw [List.length_set, List.length_set]; exact hj) (.int _)
    refine ⟨wipe_one σ j _, ?_⟩
    unfold tYes
    dsimp only
    rw [if_pos rfl]
    have a2 : ((L2.wipe σ [j]).set j (some (V.int (i : Int))))[n]? = some (some (.ref l)) := by
      show (((σ.set j none).set j (some (V.int (i : Int)))))[n]? = _
      rw [List.getElem?_set_ne hjn, List.getElem?_set_ne hjn]; exact a
    have c2 : upd (upd M l (.lst vs)) Dl (.lst acc) l = some (.lst vs) := by rw [upd_ne hl, upd_same]
    refine ⟨.ref l, a2, Or.inl ⟨rfl, vs, sq_of (jn_M c2)⟩, ?_⟩
    refine hi i hi' M0 _ _ _ H2 _ fun iv B4 e4 d4 p4 => ?_
    rw [dp_int p4]
    have hlv := DqAll_len hv
    obtain ⟨b1, b2, b3⟩ := hb i hi'
    obtain ⟨y, hy, py⟩ := DqAll_get (DqAll_ex e4 hv) (hd i hi')
    refine ⟨l, vs, ix i, (ix i).toNat, y, rfl, rfl, jn_M c2, by omega, by omega, ?_, hy, ?_⟩
    · unfold seqIndex?
      rw [hlv]
      have h1 : ¬ ix i < 0 := by omega
      have h2 : ix i < ((rem i).length : Int) := b2
      simp [h1, h2]
      try omega
    rw [upd_own]
    refine ⟨acc, jn_M (by rw [upd_ne (fun z => hl z.symm), upd_same]), by rw [DqAll_len ha, hlen i (by omega)]; omega, ?_⟩
    have eM : upd (upd (upd (upd M l (.lst vs)) Dl (.lst acc)) l (.lst (vs.eraseIdx (ix i).toNat))) Dl (.lst (acc ++ [y])) = upd (upd M l (.lst (vs.eraseIdx (ix i).toNat))) Dl (.lst (acc ++ [y])) := by
      funext x
      by_cases w : x = Dl
      · rw [w, upd_same, upd_same]
      · rw [upd_ne w, upd_ne w]
        by_cases w2 : x = l
        · rw [w2, upd_same, upd_same]
        · rw [upd_ne w2, upd_ne w2, upd_ne w, upd_ne w2]
    rw [upd_own, eM]
    refine ⟨B4, acc ++ [y], vs.eraseIdx (ix i).toNat, rfl, e.trans e4, ?_, ?_, ?_⟩
    · intro x u z
      have := d4 x u z
      by_cases w : x = Dl
      · rw [w, upd_same] at this; cases this
      · rw [upd_ne w] at this ⊢
        by_cases w2 : x = l
        · rw [w2, upd_same] at this; cases this
        · rw [upd_ne w2] at this ⊢; exact this
    · rw [ho i hi']
      exact DqAll_append (DqAll_ex e4 ha) (.cons py .nil)
    · rw [hr i hi']
      exact DqAll_eraseIdx _ (DqAll_ex e4 hv)
  · obtain ⟨B', acc, vs, rfl, e, dj, ha, hv⟩ := p
    have dj1 := dj0 dj
    have hB' : B' Dl = none := dj_free dj upd_same
    have HA : Holds M0 (G.set n (.ow (isL (rem N.toNat)))) σ B' (upd M l (.lst vs)) := (H1.ext e (djM dj1)).change h a c ⟨vs, rfl, hv⟩
    exact q _ B' _ (e1.trans e) (HA.setOw (by rw [List.length_set]; exact hm) (show jn B' (upd M l (.lst vs)) Dl = none by rw [jn_N (by rw [upd_ne (fun z => hl z.symm)]; exact hMD)]; exact hB') ⟨acc, rfl, ha⟩)
end
end Mini

namespace Mini
open PySem PySem.Spec L2 Evl PyProof.Rows
section
variable {K : PySem.W.Frag} {E : L2.St → XK} {G : Gm} {ta tb te : TE} {tu : TS} {o : Out} {a b : Int} {i j l : Nat}
theorem svl_range2 (ha : Sv ta G (isD (.int a))) (hb : Sv tb G (isD (.int b))) (h0 : 0 ≤ a) (h1 : b ≤ 16777216) (h2 : a ≤ 16777216) (h3 : 0 ≤ b) : Svl (tLstRg (tRg2 ta tb)) G ((List.range (b - a).toNat).map fun k : Nat => PyData.int (a + (k : Int))) := fun M0 σ B M H Q q =>
  ha M0 σ B M H _ fun x B1 e1 d1 p1 => hb M0 σ B1 M (H.ext e1 d1) _ fun y B2 e2 d2 p2 => by
    rw [dp_int p1, dp_int p2]
    refine ⟨a, b, rfl, rfl, RgOk.of_le h0 h1 h2 h3, fun p hp => q p _ B2 (e1.trans e2) d2 hp ?_⟩
    have e : ((List.range (b - a).toNat).map fun k : Nat => PyData.int (a + (k : Int))) = ((List.range (b - a).toNat).map fun k : Nat => a + (k : Int)).map .int := by rw [List.map_map]; rfl
    have e' : rgV a b = ((List.range (b - a).toNat).map fun k : Nat => a + (k : Int)).map .int := by unfold rgV; rw [List.map_map]; rfl
    rw [e, e']
    exact DqAll_ofInts _
theorem pe_bmK {X : Cx} {K : PySem.W.Frag} {T name : String} {id : String} {o e : Expr} {es : List Expr} {to' : TE} {t : TA} {r : V → List V → Hp → VK → Prop} {apos cpos : Pos} (pa : PlainAttrs T) (slot : Slot T name id) (hty : typeOf (.builtin id) = pure (.type "method_descriptor")) (hm : MtR X id r) (ho : PE X o to') (ha : PA X (e :: es) t)
    (hbase : attributeBase o name X.env (eval o X.env) = eval o X.env := by rfl)
    (hfew : ((backTo cpos (starEach (e :: es) X.env)).all (fun x => !x.1) && (backToKw cpos (keywordEach [] X.env)).all (fun x => x.1.isSome)
      && decide ((e :: es).length + ([] : List Keyword).length + (if ([] : List Keyword).isEmpty then 0 else 1) < 30)) = true := by rfl)
    (hline : (apos.endLine == cpos.line) = true := by rfl) (hs : starEach (e :: es) X.env = (false, eval e X.env) :: starEach es X.env := by rfl) (hplain : (backTo cpos (starEach es X.env)).any (·.1) = false := by rfl) (hK : X.K = K := by rfl) :
    PE X (.Call (.Attribute o name apos) (e :: es) [] cpos) (tBM K T r to' t) := hK ▸ pe_bm pa slot hty hm ho ha hbase hfew hline hs hplain
/-- one of several types -/
def isEx {α : Type} (Q : α → Prop) (P : α → Ty) : Ty := ⟨fun v B => ∃ x, Q x ∧ (P x).p v B, fun e ⟨x, h1, h2⟩ => ⟨x, h1, (P x).mono e h2⟩⟩
theorem sv_ex {α : Type} {Q : α → Prop} {P : α → Ty} (x : α) (hq : Q x) (h : Sv te G (P x)) : Sv te G (isEx Q P) := fun M0 σ B M H R r => h M0 σ B M H R fun v B' e dj p => r v B' e dj ⟨x, hq, p⟩
theorem ss_unpEx3 {α : Type} {Q : α → Prop} {d1 d2 d3 : α → PyData} (h : Sv te G (isEx Q fun x => isD (.tuple [d1 x, d2 x, d3 x]))) (hi : i < G.length) (hj : j < G.length) (hl : l < G.length)
    (k : ∀ x, Q x → Ss E tu (((G.set i (.im (isD (d1 x)))).set j (.im (isD (d2 x)))).set l (.im (isD (d3 x)))) o) : Ss E (tSeq (tAsg te (gTup K 3 (gCons (gName i) (gCons (gName j) (gCons (gName l) gNil))))) tu) G o := fun M0 D σ B M H q =>
  h M0 σ B M H _ fun v B' e dj ⟨x, hq, p⟩ => by
    obtain ⟨a, vs, rfl, hh, q1⟩ := dq_tup p
    cases q1 with
    | cons p1 q1 => cases q1 with
      | cons p2 q1 => cases q1 with
        | cons p3 q1 =>
          cases q1
          refine ⟨a, _, rfl, st_of (jn_B dj hh), rfl, _, _, rfl, _, _, rfl, _, _, rfl, rfl, ?_⟩
          have H1 := ((H.ext e dj).setIm (n := i) (P := isD (d1 x)) hi p1)
          have H2 := H1.setIm (n := j) (P := isD (d2 x)) (by rw [List.length_set]; exact hj) p2
          have H3 := H2.setIm (n := l) (P := isD (d3 x)) (by rw [List.length_set, List.length_set]; exact hl) p3
          exact k x hq M0 D _ B' M H3 (q.ext e)
end
end Mini

namespace Mini
open PySem PySem.Spec L2 Evl PyProof.Rows
section
variable {K : PySem.W.Frag} {E : L2.St → XK} {G : Gm} {ta tb te tel : TE} {tt : TT} {lo hi : Int} {j : Nat} {C : Addr}
theorem svl_lcMapR2 (h : Sv ta G (isD (.int lo))) (h2 : Sv te G (isD (.int hi))) (hb : -(2 ^ 60) ≤ lo ∧ lo ≤ 2 ^ 60 ∧ -(2 ^ 60) ≤ hi ∧ hi ≤ 2 ^ 60) (g : Nat → PyData) (hj : j < G.length) (hz : (hi - lo).toNat < 10000000) (he : ∀ i : Nat, i < (hi - lo).toNat → Sv tel (Gv G j (.int (lo + (i : Int)))) (isD (g i))) :
    Svl (tLc (iRng2 (tCons ta (tCons te tNil))) (gName j) tYes tel [j]) G ((List.range (hi - lo).toNat).map g) := fun M0 σ B M H Q q => h M0 σ B M H _ fun v B0 e0 d0 p0 => h2 M0 σ B0 M (H.ext e0 d0) _ fun v2 B1 e1' d1 p1 => by
  have e1 := e0.trans e1'
  refine ⟨lo, hi, by rw [dp_int p0, dp_int p1], ⟨by omega, by omega, by omega, by omega⟩, fun Dl hD => ?_⟩
  have hM := (jn_free hD).2
  let es : Nat → List PyData := fun i => (List.range i).map g
  refine lc_range (lo := lo) (n := (hi - lo).toNat) (Pvc B1 M Dl es) ⟨B1, [], by rw [upd_own], Ex.refl B1, dj_own d1 (jn_free hD).1, .nil⟩ (fun i H' hi' p => ?_) (fun H' p => ?_)
  · obtain ⟨B', acc, rfl, e, dj, ha⟩ := p
    exact lc_turn (b := true) (y := g i) (H.ext e1 d1) hj hM e dj ha (by show ((List.range i).map g).length < sizeLine; rw [List.length_map, List.length_range, sizeLine_eq]; omega) (.int _) st_yes (fun _ => he i hi') (by show (List.range (i + 1)).map g = _; rw [List.range_succ, List.map_append]; rfl)
  · exact lc_end hM (Ex.refl _) (fun p vs B' e dj hf hv => q p vs B' (e1.trans e) dj hf hv) H' p
theorem sb_ite1 (h : St' tt G true) (h1 : Sb ta G E C) : Sb (tIf tt ta tb) G E C := fun M0 σ B M H Q q => h M0 σ B M H _ fun B' e d => h1 M0 σ B' M (H.ext e d) Q fun B2 e2 d2 => q B2 (e.trans e2) d2
theorem sb_ite0 (h : St' tt G false) (h1 : Sb tb G E C) : Sb (tIf tt ta tb) G E C := fun M0 σ B M H Q q => h M0 σ B M H _ fun B' e d => h1 M0 σ B' M (H.ext e d) Q fun B2 e2 d2 => q B2 (e.trans e2) d2
end
end Mini

namespace Mini
open PySem PySem.Spec L2 Evl PyProof.Rows
section
variable {K : PySem.W.Frag} {E : XK} {X X1 : Gx} {G G' : Gm} {ts tu : TS} {te ta tb tl : TE} {o : Og} {p : Addr} {n : Nat} {P P' : Ty} {Ps : List Ty} {ds es : List PyData} {R R' : Ow} {M0 B M : Hp} {σ : L2.St}
/-- an item of a tuple of things of any type -/
theorem sv_ixTs {i : Int} {m : Nat} (ha : Sv ta G (isTs Ps)) (hb : Sv tb G (isD (.int i))) (hi : i = (m : Int)) (hm : Ps[m]? = some P) : Sv (tOp (rIx K) ta tb) G P := fun M0 σ B M H Q q =>
  ha M0 σ B M H _ fun x B1 e1 d1 p1 => hb M0 σ B1 M (H.ext e1 d1) _ fun y B2 e2 d2 p2 => by
    obtain ⟨a, vs, rfl, hh, q1⟩ := (isTs Ps).mono e2 p1
    rw [dp_int p2]
    have hlt : m < vs.length := by rw [q1.len]; exact (List.getElem?_eq_some_iff.mp hm).1
    obtain ⟨P', h1, h2⟩ := q1.getV (List.getElem?_eq_getElem hlt)
    rw [hm] at h1
    cases h1
    exact .inr (.inl ⟨a, vs, i, vs[m], rfl, rfl, st_of (jn_B d2 hh), by rw [hi]; exact atI_nat (List.getElem?_eq_getElem hlt), q _ B2 (e1.trans e2) d2 h2⟩)
/-- one more ghost -/
theorem gok_more {ob : HO} (H : Holds M0 G σ B M) (g : GOk X M0 G σ B M) (hf : jn B M p = none) (hv : R.r p ob B) : GOk ((p, R) :: X) M0 G σ B (upd M p ob) := by
  have hB := (jn_free hf).1
  have hM := (jn_free hf).2
  have hx : p ∉ X.map (·.1) := fun z => by
    obtain ⟨x, hx, e⟩ := List.mem_map.mp z
    obtain ⟨o, h1, _⟩ := g.ob x hx
    rw [e, hM] at h1; cases h1
  have hM0 : M0 p = none := by
    cases z : M0 p with
    | none => rfl
    | some u => have := H.cal p u z; rw [hM] at this; cases this
  have a1 : ∀ x ∈ (p, R) :: X, M0 x.1 = none := fun x hx' => by
    rcases List.mem_cons.mp hx' with rfl | z
    · exact hM0
    · exact g.m0 x z
  have a2 : ∀ x ∈ (p, R) :: X, ∃ o, upd M p ob x.1 = some o ∧ x.2.r x.1 o B := fun x hx' => by
    rcases List.mem_cons.mp hx' with rfl | z
    · exact ⟨_, upd_same, hv⟩
    · obtain ⟨o, h1, h2⟩ := g.ob x z
      have ne : x.1 ≠ p := fun z' => hx (z' ▸ List.mem_map.mpr ⟨x, z, rfl⟩)
      exact ⟨o, by rw [upd_ne ne]; exact h1, h2⟩
  have a3 : ∀ x ∈ (p, R) :: X, ∀ (i : Nat) R, G[i]? = some (Sl.ow R) → σ[i]? ≠ some (some (V.ref x.1)) := fun x hx' i R z => by
    rcases List.mem_cons.mp hx' with rfl | z'
    · intro s
      obtain ⟨l, o, a, b, c, f⟩ := H.ow i R z
      rw [a] at s
      cases s
      rw [hM] at b; cases b
    · exact g.ns x z' i R z
  exact { nd := by rw [List.map_cons]; exact List.nodup_cons.mpr ⟨hx, g.nd⟩, m0 := a1, ob := a2, ns := a3 }
/-- y = (a new list, a new list), both of which others may change -/
theorem sg_newTup (h1 : Svl ta G ds) (h2 : Svl tb G es) (hn : n < G.length) (k : ∀ p1 p2, Sg E tu (G.set n (.im (isTs [isV (.ref p1), isV (.ref p2)]))) ((p1, isL ds) :: (p2, isL es) :: X) o) : Sg E (tSeq (tAsg (tTup (tCons ta (tCons tb tNil))) (gName n)) tu) G X o := fun M0 D σ B M H g q =>
  h1 M0 σ B M H _ fun p1 us B1 e1 d1 hf1 hv1 => by
    rw [upd_own]
    have H1 := (H.ext e1 d1).more (p := p1) (o := .lst us) hf1
    have g1 := gok_more (R := isL ds) (ob := .lst us) (H.ext e1 d1) (g.ext e1) hf1 ⟨us, rfl, hv1⟩
    refine h2 M0 σ B1 _ H1 _ fun p2 vs B2 e2 d2 hf2 hv2 => ?_
    rw [upd_own]
    have H2 := (H1.ext e2 d2).more (p := p2) (o := .lst vs) hf2
    have g2 := gok_more (R := isL es) (ob := .lst vs) (H1.ext e2 d2) (g1.ext e2) hf2 ⟨vs, rfl, hv2⟩
    refine ⟨by show 2 ≤ sizeLine; decide, fun a ha => ?_⟩
    rw [upd_new ha]
    have e3 : Ex B2 (upd B2 a (.tup [.ref p1, .ref p2])) := ex_new ha
    have d3 := dj_new (o := .tup [.ref p1, .ref p2]) H2.dj ha
    have H3 := (H2.ext e3 d3).setIm (n := n) (v := .ref a) (P := isTs [isV (.ref p1), isV (.ref p2)]) hn ⟨a, _, rfl, upd_same, .cons rfl (.cons rfl .nil)⟩
    have g3 := (g2.ext e3).set n (isTs [isV (.ref p1), isV (.ref p2)]) (.ref a)
    refine sg_perm (Y := (p2, isL es) :: (p1, isL ds) :: X) ?_ (.swap ..) M0 D _ _ _ H3 ?_ (q.ext ((e1.trans e2).trans e3))
    · exact sg_perm (k p1 p2) (.swap ..)
    · exact { nd := by have := g3.nd; simp only [List.map_cons] at this ⊢; exact (List.Perm.swap ..).nodup_iff.mp this, m0 := fun x hx => g3.m0 x ((List.Perm.swap ..).mem_iff.mp hx), ob := fun x hx => g3.ob x ((List.Perm.swap ..).mem_iff.mp hx), ns := fun x hx => g3.ns x ((List.Perm.swap ..).mem_iff.mp hx) }
/-- a ghost list is let stand from here on; a slot that shows it knows -/
theorem sg_frz (hn : G[n]? = some (.im P)) (l : ∀ v B', P.p v B' → (∃ vs, B' p = some (.lst vs) ∧ DqAll B' vs ds) → P'.p v B') (k : Sg E ts (G.set n (.im P')) X o) : Sg E ts G ((p, isL ds) :: X) o := fun M0 D σ B M H g q => by
  obtain ⟨ob, c, vs, rfl, r⟩ := g.ob _ (List.mem_cons_self ..)
  have c : M p = some (.lst vs) := c
  have hBp : B p = none := dj_free H.dj c
  have hm0 : M0 p = none := g.m0 (p, isL ds) (List.mem_cons_self ..)
  have nd := g.nd
  rw [List.map_cons, List.nodup_cons] at nd
  have ex : Ex B (upd B p (.lst vs)) := Ex.new hBp
  have hlt := (List.getElem?_eq_some_iff.mp hn).1
  rw [← jn_del (B := B) c]
  have dj : Dj (upd B p (.lst vs)) (del M p) := fun a u z => by
    by_cases w : a = p
    · rw [w]; exact if_pos rfl
    · rw [del_ne w]
      rw [upd_ne w] at z
      exact H.dj a u z
  have HH : Holds M0 (G.set n (.im P')) σ (upd B p (.lst vs)) (del M p) := by
    refine ⟨by rw [List.length_set]; exact H.len, dj, fun a u z => ?_, fun i Q z => ?_, fun i Q z => ?_, fun i Q z => ?_, fun i j R1 R2 l' q1 q2 => ?_⟩
    · have w : a ≠ p := fun w => by rw [w, hm0] at z; cases z
      rw [del_ne w]; exact H.cal a u z
    · by_cases w : i = n
      · subst w
        rw [List.getElem?_set_self hlt] at z
        cases z
        obtain ⟨v, a, b⟩ := H.im i _ hn
        exact ⟨v, a, l v _ (P.mono ex b) ⟨vs, upd_same, DqAll_ex ex r⟩⟩
      · rw [List.getElem?_set_ne (Ne.symm w)] at z
        obtain ⟨v, a, b⟩ := H.im i Q z
        exact ⟨v, a, Q.mono ex b⟩
    · by_cases w : i = n
      · subst w; rw [List.getElem?_set_self hlt] at z; cases z
      · rw [List.getElem?_set_ne (Ne.symm w)] at z
        obtain ⟨l', o', a, b, c', f⟩ := H.ow i Q z
        have w2 : l' ≠ p := fun w2 => g.ns (p, isL ds) (List.mem_cons_self ..) i Q z (by rw [a, w2])
        exact ⟨l', o', a, by rw [del_ne w2]; exact b, Q.mono ex c', f⟩
    · by_cases w : i = n
      · subst w; rw [List.getElem?_set_self hlt] at z; cases z
      · rw [List.getElem?_set_ne (Ne.symm w)] at z
        obtain ⟨l', o', a, b, c'⟩ := H.bw i Q z
        exact ⟨l', o', a, b, Q.mono ex c'⟩
    · by_cases w : i = n
      · subst w; rw [List.getElem?_set_self hlt] at q1; cases q1
      · by_cases w2 : j = n
        · subst w2; rw [List.getElem?_set_self hlt] at q2; cases q2
        · rw [List.getElem?_set_ne (Ne.symm w)] at q1
          rw [List.getElem?_set_ne (Ne.symm w2)] at q2
          exact H.ne i j R1 R2 l' q1 q2
  have b2 : ∀ x ∈ X, ∃ o, del M p x.1 = some o ∧ x.2.r x.1 o (upd B p (.lst vs)) := fun x hx => by
    obtain ⟨o', h1, h2⟩ := g.ob x (List.mem_cons_of_mem _ hx)
    have w : x.1 ≠ p := fun w => nd.1 (w ▸ List.mem_map.mpr ⟨x, hx, rfl⟩)
    exact ⟨o', by rw [del_ne w]; exact h1, x.2.mono ex h2⟩
  have b3 : ∀ x ∈ X, ∀ (i : Nat) R, (G.set n (.im P'))[i]? = some (Sl.ow R) → σ[i]? ≠ some (some (V.ref x.1)) := fun x hx i R z => by
    by_cases w : i = n
    · subst w; rw [List.getElem?_set_self hlt] at z; cases z
    · rw [List.getElem?_set_ne (Ne.symm w)] at z
      exact g.ns x (List.mem_cons_of_mem _ hx) i R z
  exact k M0 D σ _ _ HH { nd := nd.2, m0 := fun x hx => g.m0 x (List.mem_cons_of_mem _ hx), ob := b2, ns := b3 } (q.ext ex)
end
end Mini

namespace Mini
open PySem PySem.Spec L2 Evl PyProof.Rows
theorem first_over (p : Nat → Nat) (b : Nat) (h0 : p 0 ≤ b) : ∀ n, b < p n → ∃ N, N < n ∧ (∀ i, i ≤ N → p i ≤ b) ∧ b < p (N + 1) := by
  intro n
  induction n using Nat.strongRecOn with
  | ind n ih =>
    intro hn
    by_cases d : ∃ i, i < n ∧ b < p i
    · obtain ⟨i, hi, hb⟩ := d
      obtain ⟨N, h1, h2, h3⟩ := ih i hi hb
      exact ⟨N, by omega, h2, h3⟩
    · have hn0 : n ≠ 0 := fun z => by subst z; omega
      refine ⟨n - 1, by omega, fun i hi => ?_, by rw [show n - 1 + 1 = n by omega]; exact hn⟩
      exact Nat.le_of_not_lt fun z => d ⟨i, by omega, z⟩
theorem first_no (p : Nat → Bool) (h0 : p 0 = true) : ∀ n, p n = false → ∃ N, N < n ∧ (∀ i, i ≤ N → p i = true) ∧ p (N + 1) = false := by
  intro n
  induction n using Nat.strongRecOn with
  | ind n ih =>
    intro hn
    by_cases d : ∃ i, i < n ∧ p i = false
    · obtain ⟨i, hi, hb⟩ := d
      obtain ⟨N, h1, h2, h3⟩ := ih i hi hb
      exact ⟨N, by omega, h2, h3⟩
    · have hn0 : n ≠ 0 := fun z => by subst z; rw [h0] at hn; cases hn
      refine ⟨n - 1, by omega, fun i hi => ?_, by rw [show n - 1 + 1 = n by omega]; exact hn⟩
      cases z : p i with
      | true => rfl
      | false => exact absurd ⟨i, by omega, z⟩ d
section
variable {E : XK} {ts : TS} {G G1 : Gm} {X X1 : Gx} {p : Addr} {R R' : Ow}
theorem sg_gle (h : Sg E ts G X (.nx G1 ((p, R) :: X1))) (l : ∀ a o B, R.r a o B → R'.r a o B) : Sg E ts G X (.nx G1 ((p, R') :: X1)) := fun M0 D σ B M H g q => h M0 D σ B M H g fun σ' B' M' e H' g' => by
  have a1 : ∀ x ∈ (p, R') :: X1, M0 x.1 = none := fun x hx => by
    rcases List.mem_cons.mp hx with rfl | z
    · exact g'.m0 (p, R) (List.mem_cons_self ..)
    · exact g'.m0 _ (List.mem_cons_of_mem _ z)
  have a2 : ∀ x ∈ (p, R') :: X1, ∃ o, M' x.1 = some o ∧ x.2.r x.1 o B' := fun x hx => by
    rcases List.mem_cons.mp hx with rfl | z
    · obtain ⟨o, h1, h2⟩ := g'.ob (p, R) (List.mem_cons_self ..)
      exact ⟨o, h1, l _ _ _ h2⟩
    · exact g'.ob _ (List.mem_cons_of_mem _ z)
  have a3 : ∀ x ∈ (p, R') :: X1, ∀ (i : Nat) R, G1[i]? = some (Sl.ow R) → σ'[i]? ≠ some (some (V.ref x.1)) := fun x hx => by
    rcases List.mem_cons.mp hx with rfl | z
    · exact g'.ns (p, R) (List.mem_cons_self ..)
    · exact g'.ns _ (List.mem_cons_of_mem _ z)
  exact q σ' B' M' e H' { nd := g'.nd, m0 := a1, ob := a2, ns := a3 }
theorem rx_at {td : TE} (h : Rx td G (atO p R)) : Rx td G R := fun M0 σ B M H Q q => h M0 σ B M H Q fun a o ho hr => q a o ho hr.2
theorem sg_forLs' {K : PySem.W.Frag} {tu : TS} {tl : TE} {o : Og} {nn : Nat} {js : List Nat} {g : TG} {Ps : List Ty} (h : Sv tl G (isLs Ps)) (fd : Nat → Gm → Gm) (Gi : Nat → Gm) (Xi : Nat → Gx) (oi : Nat → Og) (N : Nat) (hN : N ≤ Ps.length) (h0 : G = Gi 0) (x0 : X = Xi 0) (hj : ∀ i, i ≤ N → (Gi i).length = nn) (hg : ∀ i P, Ps[i]? = some P → Tg nn js g P (fd i)) (nb : ∀ i, i ≤ N → noBwB (fd i (Gi i)) = true)
    (hs : ∀ i, i < Ps.length → i ≤ N → Sg E tu (fd i (Gi i)) (Xi i) (oi i)) (hn : ∀ i, i < N → oi i = .nx (Gi (i + 1)) (Xi (i + 1))) (hd : (N = Ps.length ∧ o = .nx (Gi N) (Xi N)) ∨ (N < Ps.length ∧ o.leaves ∧ oi N = o)) :
    Sg E (tFor (iList K tl) g tu) G X o :=
  sg_forLs h fd Gi Xi N hN h0 x0 hj hg nb (fun i hi => hn i hi ▸ hs i (by omega) (by omega)) (hd.imp id fun ⟨a, b, c⟩ => ⟨a, b, c ▸ hs N a (Nat.le_refl _)⟩)
theorem sg_seqO {tu : TS} {o o2 : Og} (h : Sg E ts G X o) (k : ∀ G1 X1, o = .nx G1 X1 → Sg E tu G1 X1 o2) (hb : o.leaves → o2 = o) : Sg E (tSeq ts tu) G X o2 := by
  cases o with
  | nx G1 X1 => exact sg_seq h (k G1 X1 rfl)
  | rt P X1 => rw [hb trivial]; exact sg_seqRt h
  | bad C X1 => rw [hb trivial]; exact sg_seqBad h
theorem anm_ite {c : Prop} [Decidable c] {X2 : Gx} {P : Ty} {C : Addr} (h1 : X1.map (·.1) = X.map (·.1)) (h2 : X2.map (·.1) = X.map (·.1)) (h : Sg E ts G X (if c then .rt P X1 else .bad C X2)) : Anm E ts G X (if c then .ok P X1 else .bad C) := by
  by_cases z : c
  · rw [if_pos z] at h ⊢; exact .ok h1 h
  · rw [if_neg z] at h ⊢; exact .bad h2 h
end
section
variable {E : XK} {ts : TS} {G G1 : Gm} {X X1 X2 : Gx} {P P' : Ty} {C : Addr} {c : Prop} [Decidable c] {n : Nat}
theorem xok_nil {M0 B M : Hp} : XOk [] M0 B M := { nd := List.nodup_nil, m0 := fun x h => absurd h List.not_mem_nil, ob := fun x h => absurd h List.not_mem_nil }
theorem sg_iteDrop (h : Sg E ts G X (if c then .rt P X1 else .bad C X2)) : Sg E ts G X (if c then .rt P [] else .bad C []) := by
  by_cases z : c
  · rw [if_pos z] at h ⊢
    exact fun M0 D σ B M H g q => h M0 D σ B M H g fun v B' M' e d k p _ => q v B' M' e d k p xok_nil
  · rw [if_neg z] at h ⊢
    exact fun M0 D σ B M H g q => h M0 D σ B M H g fun B' M' e d k _ => q B' M' e d k xok_nil
theorem ss_sgIte (h : Sg E ts G [] (if c then .rt P X1 else .bad C X2)) : Ss (fun _ => E) ts G (if c then .rt P else .bad C (List.replicate G.length .no)) := by
  by_cases z : c
  · rw [if_pos z] at h ⊢; exact ss_sgRt h
  · rw [if_neg z] at h ⊢; exact ss_sgBad h
theorem ans_ite {G' : Gm} (h : Ss (fun _ => E) ts G (if c then .rt P else .bad C G')) : Ans (fun _ => E) ts G (if c then .ok P else .bad C) := by
  by_cases z : c
  · rw [if_pos z] at h ⊢; exact .ok h
  · rw [if_neg z] at h ⊢; exact .bad h
theorem holds_tyle {M0 B M : Hp} {σ : L2.St} (H : Holds M0 G σ B M) (hn : G[n]? = some (.im P)) (l : TyLe P P') : Holds M0 (G.set n (.im P')) σ B M := by
  have hlt := (List.getElem?_eq_some_iff.mp hn).1
  have at' : ∀ {i : Nat} {S : Sl}, (G.set n (.im P'))[i]? = some S → (i = n ∧ S = .im P') ∨ (i ≠ n ∧ G[i]? = some S) := fun {i S} q => by
    by_cases z : i = n
    · subst z; rw [List.getElem?_set_self hlt] at q; cases q; exact .inl ⟨rfl, rfl⟩
    · exact .inr ⟨z, by rw [List.getElem?_set_ne (Ne.symm z)] at q; exact q⟩
  refine ⟨by rw [List.length_set]; exact H.len, H.dj, H.cal, fun i Q q => ?_, fun i R q => ?_, fun i R q => ?_, fun i j R1 R2 l' q1 q2 s1 s2 => ?_⟩
  · rcases at' q with ⟨rfl, z⟩ | ⟨_, z⟩
    · cases z
      obtain ⟨v, a, b⟩ := H.im i _ hn
      exact ⟨v, a, l v B b⟩
    · exact H.im i Q z
  · rcases at' q with ⟨_, z⟩ | ⟨_, z⟩
    · cases z
    · exact H.ow i R z
  · rcases at' q with ⟨_, z⟩ | ⟨_, z⟩
    · cases z
    · exact H.bw i R z
  · rcases at' q1 with ⟨_, z⟩ | ⟨_, z1⟩
    · cases z
    · rcases at' q2 with ⟨_, z⟩ | ⟨_, z2⟩
      · cases z
      · exact H.ne i j R1 R2 l' z1 z2 s1 s2
theorem sg_tyle (h : Sg E ts G X (.nx G1 X1)) (hn : G1[n]? = some (.im P)) (l : TyLe P P') : Sg E ts G X (.nx (G1.set n (.im P')) X1) := fun M0 D σ B M H g q => h M0 D σ B M H g fun σ' B' M' e H' g' => by
  have a : ∀ x ∈ X1, ∀ (i : Nat) R, (G1.set n (.im P'))[i]? = some (Sl.ow R) → σ'[i]? ≠ some (some (V.ref x.1)) := fun x hx i R z => by
    by_cases w : i = n
    · subst w
      rw [List.getElem?_set_self (List.getElem?_eq_some_iff.mp hn).1] at z
      cases z
    · exact g'.ns x hx i R (by rw [List.getElem?_set_ne (Ne.symm w)] at z; exact z)
  exact q σ' B' M' e (holds_tyle H' hn l) { toXOk := g'.toXOk, ns := a }
end
theorem sg_forR' {K : PySem.W.Frag} {E : XK} {X : Gx} {G : Gm} {tu : TS} {te : TE} {o : Og} {j : Nat} {n : Int} (h : Sv te G (isD (.int n))) (hn : n ≤ 2 ^ 60) (Gi : Nat → Gm) (Xi : Nat → Gx) (oi : Nat → Og) (N : Nat) (hN : N ≤ n.toNat) (h0 : G = Gi 0) (x0 : X = Xi 0) (hj : ∀ i, i ≤ N → j < (Gi i).length)
    (hs : ∀ i : Nat, i < n.toNat → i ≤ N → Sg E tu ((Gi i).set j (.im (isD (.int (i : Int))))) (Xi i) (oi i)) (hx : ∀ i, i < N → oi i = .nx (Gi (i + 1)) (Xi (i + 1))) (hd : (N = n.toNat ∧ o = .nx (Gi N) (Xi N)) ∨ (N < n.toNat ∧ o.leaves ∧ oi N = o))
    (hlo : -(2 ^ 60) ≤ n := by first | omega | decide) : Sg E (tFor (iRng1 (tCons te tNil)) (gName j) tu) G X o :=
  sg_forR h hn Gi Xi N hN h0 x0 hj (fun i hi => hx i hi ▸ hs i (by omega) (by omega)) (hd.imp id fun ⟨a, b, c⟩ => ⟨a, b, c ▸ hs N a (Nat.le_refl _)⟩) hlo
end Mini

namespace Mini
open PySem PySem.Spec L2 Evl PyProof.Rows
section
variable {K : PySem.W.Frag} {E : XK} {X X1 X2 Y : Gx} {G : Gm} {ts tu : TS} {te ta : TE} {tas : TA} {tt : TT} {o : Og} {n : Nat} {P : Ty} {C D : Addr} {F : Fl} {m : Str}
theorem sg_while' (Gi : Nat → Gm) (Xi : Nat → Gx) (oi : Nat → Og) (N : Nat) (L : Nat → Prop) (h0 : G = Gi 0) (x0 : X = Xi 0) (ht : ∀ i, L i → Stg tt (Gi i) (Xi i) true) (hL : ∀ i, i < N → L i) (hs : ∀ i, L i → Sg E tu (Gi i) (Xi i) (oi i)) (hn : ∀ i, i < N → oi i = .nx (Gi (i + 1)) (Xi (i + 1)))
    (hd : (Stg tt (Gi N) (Xi N) false ∧ o = .nx (Gi N) (Xi N)) ∨ (L N ∧ o.leaves ∧ oi N = o)) : Sg E (tWhile tt tu) G X o :=
  sg_while Gi Xi N h0 x0 (fun i hi => ht i (hL i hi)) (fun i hi => hn i hi ▸ hs i (hL i hi)) (hd.imp id fun ⟨a, b, c⟩ => ⟨ht N a, b, c ▸ hs N a⟩)
theorem sg_permRt (h : Sg E ts G X (.rt P X1)) (p : X1.Perm X2) : Sg E ts G X (.rt P X2) := fun M0 D σ B M H g q => h M0 D σ B M H g fun v B' M' e d c pv x => q v B' M' e d c pv
  { nd := (p.map _).nodup_iff.mp x.nd, m0 := fun y hy => x.m0 y (p.mem_iff.mpr hy), ob := fun y hy => x.ob y (p.mem_iff.mpr hy) }
/-- y = o.m(..), a method that changes ghosts -/
theorem sg_setMt {S : Fm} {as : List Ty} (ho : Sv ta G (isI C F)) (hm : ∀ vs B, F.r vs B → vs.lookup m = none) (ha : Sa tas G (as.map Ar.im)) (x : S.α) (hx : S.ars x = isI C F :: as) (hg : S.gh x = X1) (hr : S.res x = .ok P Y) (hy : Y.map (·.1) = X1.map (·.1)) (hn : n < G.length := by exact Nat.le_of_ble_eq_true rfl) :
    Sg E (tAsg (tMt C m (spM S) (fun _ => E) ta tas) (gName n)) G (X1 ++ X2) (.nx (G.set n (.im P)) (Y ++ X2)) := fun M0 D σ B M H g q => ho M0 σ B M H _ fun u B0 e0 d0 p0 => by
  obtain ⟨a, dx, fs, hu, h1, h2⟩ := id p0
  refine ⟨a, dx, fs, hu, jn_B d0 h1, hm _ _ h2, ?_⟩
  refine ha M0 σ B0 M (H.ext e0 d0) _ fun vs B1 e1 d1 p1 => ?_
  have g1 := (g.ext e0).ext e1
  refine ⟨x, B1, M, rfl, d1, by rw [hx]; exact .cons ((isI C F).mono e1 p0) p1, ⟨by rw [hg]; have := g.nd; rw [List.map_append] at this; exact (List.nodup_append.mp this).1, fun y hy => by rw [hg] at hy; exact g1.ob y (List.mem_append_left _ hy)⟩, ?_⟩
  rw [hr, hg]
  refine ⟨hy, fun v B' M' e d k hx' p => ?_⟩
  obtain ⟨r1, r2⟩ := GOk.after ((H.ext e0 d0).ext e1 d1) g1 hy.symm hy e d k hx'
  exact q _ B' M' ((e0.trans e1).trans e) (r1.setIm hn p) (r2.set n P v)
end
end Mini

namespace Mini
open PySem PySem.Spec L2 Evl PyProof.Rows
def ogO (C : Addr) : Option PyData → Og
  | some d => .rt (isD d) []
  | none => .bad C []
def rsO (C : Addr) : Option PyData → Rs
  | some d => .ok (isD d)
  | none => .bad C
section
variable {K : PySem.W.Frag} {E : XK} {X X1 X2 Y : Gx} {G G' : Gm} {ts tu : TS} {te ta : TE} {tas : TA} {tt : TT} {o : Og} {n : Nat} {P : Ty} {C D : Addr} {x : Option PyData} {p0 p1 p2 : Addr} {ds es : List PyData}
theorem ans_O (h : Sg E ts G [] (ogO C x)) : Ans (fun _ => E) ts G (rsO C x) := by
  cases x with
  | some d => exact .ok (ss_sgRt h)
  | none => exact .bad (ss_sgBad h)
theorem sg_O (h : Ss (fun _ => E) ts G (match x with | some d => .rt (isD d) | none => .bad C G')) : Sg E ts G [] (ogO C x) := by
  cases x with
  | some d => exact sg_rt h
  | none => exact sg_bad h
/-- what stands in a tuple of two ghosts that are let stand -/
theorem frz_fst {ds : List PyData} : ∀ v B', (isTs [isV (.ref p0), isV (.ref p1)]).p v B' → (∃ vs, B' p0 = some (.lst vs) ∧ DqAll B' vs ds) → (isTs [isD (.list ds), isV (.ref p1)]).p v B' := fun v B' h ⟨us, h1, h2⟩ => by
  obtain ⟨a, vs, rfl, h3, h4⟩ := h
  cases h4 with
  | cons a1 h4 => cases h4 with
    | cons a2 h4 =>
      cases h4
      have a1' : _ = V.ref p0 := a1
      subst a1'
      exact ⟨a, _, rfl, h3, .cons (.lst h1 h2) (.cons a2 .nil)⟩
theorem frz_snd {ds es : List PyData} : ∀ v B', (isTs [isD (.list ds), isV (.ref p1)]).p v B' → (∃ vs, B' p1 = some (.lst vs) ∧ DqAll B' vs es) → (isD (.tuple [.list ds, .list es])).p v B' := fun v B' h ⟨us, h1, h2⟩ => by
  obtain ⟨a, vs, rfl, h3, h4⟩ := h
  cases h4 with
  | cons a1 h4 => cases h4 with
    | cons a2 h4 =>
      cases h4
      have a2' : _ = V.ref p1 := a2
      subst a2'
      exact .tup h3 (.cons a1 (.cons (.lst h1 h2) .nil))
theorem frz_lst {ds : List PyData} : ∀ v B', (isV (.ref p0)).p v B' → (∃ vs, B' p0 = some (.lst vs) ∧ DqAll B' vs ds) → (isD (.list ds)).p v B' := fun v B' h ⟨us, h1, h2⟩ => by
  have h' : v = V.ref p0 := h
  subst h'
  exact .lst h1 h2
theorem ss_asgBad {E : L2.St → XK} {g : TG} (h : Sb te G E C) : Ss E (tAsg te g) G (.bad C G) := fun M0 D σ B M H q => h M0 σ B M H _ fun B' e d => q σ B' M e (H.ext e d)
end
end Mini

namespace Mini
open PySem PySem.Spec L2 Evl PyProof.Rows

/-! ### defs that return, with more ghosts than before -/
def SgE (E : XK) (ts : TS) (G : Gm) (X : Gx) (P : Ty) (Q : Gx → Prop) : Prop := ∀ (M0 : Hp) (D : Ends) (σ : L2.St) (B M : Hp), Holds M0 G σ B M → GOk X M0 G σ B M →
  (∀ v B' M' X', Ex B B' → Dj B' M' → Ex M0 M' → P.p v B' → XOk X' M0 B' M' → Q X' → D.rt v (jn B' M')) → ts D σ (jn B M)
section
variable {P : Program} {w : World} {K : PySem.W.Frag} {E : XK} {X X1 X2 Y : Gx} {G G1 : Gm} {ts tu : TS} {te ty tv : TE} {tt : TT} {T : Ty} {Q : Gx → Prop} {n : Nat} {pd : Addr} {b : Bool} {ds : List PyData} {k : List Key}
theorem sge_rt (h : Sg E ts G X (.rt T X1)) (hq : Q X1) : SgE E ts G X T Q := fun M0 D σ B M H g q => h M0 D σ B M H g fun v B' M' e d c p x => q v B' M' X1 e d c p x hq
theorem sge_seq (h : Sg E ts G X (.nx G1 X1)) (k : SgE E tu G1 X1 T Q) : SgE E (tSeq ts tu) G X T Q := fun M0 D σ B M H g q => h M0 { D with nx := tu D } σ B M H g fun σ' B' M' e H' g' => k M0 D σ' B' M' H' g' fun v B2 M2 X' e2 => q v B2 M2 X' (e.trans e2)
theorem sge_seqRt (h : SgE E ts G X T Q) : SgE E (tSeq ts tu) G X T Q := fun M0 D σ B M H g q => h M0 { D with nx := tu D } σ B M H g q
theorem sge_if1 (h : Stg tt G X true) (k : SgE E ts G X T Q) : SgE E (tIfS tt ts tu) G X T Q := fun M0 D σ B M H g q => h M0 σ B M H g _ fun B' e d => k M0 D σ B' M (H.ext e d) (g.ext e) fun v B2 M2 X' e2 => q v B2 M2 X' (e.trans e2)
theorem sge_perm (h : SgE E ts G Y T Q) (p : X.Perm Y) : SgE E ts G X T Q := fun M0 D σ B M H g q => h M0 D σ B M H
  { nd := (p.map _).nodup_iff.mp g.nd, m0 := fun x hx => g.m0 x (p.mem_iff.mpr hx), ob := fun x hx => g.ob x (p.mem_iff.mpr hx), ns := fun x hx => g.ns x (p.mem_iff.mpr hx) } q
/-! ### dicts whose values are lists that others may change -/
def dSo (P : Program) (w : World) (K : PySem.W.Frag) (es : List (List Key × Addr)) : Ow :=
  ⟨fun a o B => ∃ kvs, o = DXO P w a kvs ∧ kvs.map (fun p => (p.1, p.2.2)) = es.map (fun e => (e.1, V.ref e.2)) ∧ ∀ p ∈ kvs, B p.2.1 = some (.tup (p.1.map kV)) ∨ KT K p.2.1 (p.1.map kV),
   fun e ⟨kvs, h1, h2, h3⟩ => ⟨kvs, h1, h2, fun p hp => (h3 p hp).imp (e _ _) id⟩⟩
theorem dSo_get {kvs : KX} {es : List (List Key × Addr)} (h : kvs.map (fun p => (p.1, p.2.2)) = es.map (fun e => (e.1, V.ref e.2))) (k : List Key) : getX kvs k = (es.find? fun e => decide (e.1 = k)).map fun e => V.ref e.2 := by
  unfold getX
  induction kvs generalizing es with
  | nil => cases es with
    | nil => rfl
    | cons e es => cases h
  | cons p kvs ih =>
    cases es with
    | nil => cases h
    | cons e es =>
      rw [List.map_cons, List.map_cons] at h
      injection h with h1 h2
      injection h1 with h3 h4
      rw [List.find?_cons, List.find?_cons, h3]
      cases decide (e.1 = k) with
      | true => show some p.2.2 = some (V.ref e.2); rw [h4]
      | false => exact ih h2
theorem dSo_len {kvs : KX} {es : List (List Key × Addr)} (h : kvs.map (fun p => (p.1, p.2.2)) = es.map (fun e => (e.1, V.ref e.2))) : kvs.length = es.length := by have := congrArg List.length h; simpa using this
def hasS (es : List (List Key × Addr)) (k : List Key) : Bool := (es.find? fun e => decide (e.1 = k)).isSome
theorem sv_snot {es : List (List Key × Addr)} {td : TE} (hk : Sv ty G (isP K (keyT k))) (hd : Rx td G (dSo P w K es)) : Sv (tXNot P w K ty td) G (isD (.bool (!hasS es k))) := fun M0 σ B M H Q q =>
  hk M0 σ B M H _ fun y B1 e1 d1 p1 => hd M0 σ B1 M (H.ext e1 d1) _ fun a o ho hr => by
    obtain ⟨b, rfl, hb⟩ := keyT_dq p1
    obtain ⟨kvs, rfl, h2, h3⟩ := hr
    refine ⟨a, b, kvs, k, rfl, rfl, jn_M ho, fun p hp => jn_st d1 (h3 p hp), jn_st d1 hb, ?_⟩
    have e : (getX kvs k).isSome = hasS es k := by rw [dSo_get h2, Option.isSome_map]; rfl
    rw [e]
    exact q _ B1 e1 d1 (.bl _)
theorem sv_sget {es : List (List Key × Addr)} {td : TE} {e : List Key × Addr} (hd : Rx td G (dSo P w K es)) (hk : Sv ty G (isP K (keyT k))) (hf : (es.find? fun e => decide (e.1 = k)) = some e) : Sv (tXGet P w K td ty) G (isV (.ref e.2)) := fun M0 σ B M H Q q =>
  hd M0 σ B M H _ fun a o ho hr => hk M0 σ B M H _ fun y B1 e1 d1 p1 => by
    obtain ⟨b, rfl, hb⟩ := keyT_dq p1
    obtain ⟨kvs, rfl, h2, h3⟩ := hr
    refine ⟨a, b, kvs, k, V.ref e.2, rfl, rfl, jn_M ho, fun p hp => jn_st d1 ((h3 p hp).imp (e1 _ _) id), jn_st d1 hb, by rw [dSo_get h2, hf]; rfl, ?_⟩
    exact q _ B1 e1 d1 rfl
/-- d[k] = a new list, one more ghost -/
theorem sge_put {es : List (List Key × Addr)} (hl : G[n]? = some (.im (isV (.ref pd)))) (hv : Svl tv G ds) (hk : Sv ty G (isP K (keyT k))) (hn : hasS es k = false) (hz : es.length < sizeLine)
    (c : ∀ p, SgE E tu G ((pd, dSo P w K (es ++ [(k, p)])) :: (X ++ [(p, isL ds)])) T Q) : SgE E (tSeq (sXPut P w K (tVar n) ty tv) tu) G ((pd, dSo P w K es) :: X) T Q := fun M0 D σ B M H g q =>
  hv M0 σ B M H _ fun p vs B1 e1 d1 hf hvs => by
    rw [upd_own]
    have H1 := (H.ext e1 d1).more (p := p) (o := .lst vs) hf
    have g1 := gok_more (R := isL ds) (ob := .lst vs) (H.ext e1 d1) (g.ext e1) hf ⟨vs, rfl, hvs⟩
    obtain ⟨u, a, b⟩ := H1.im n _ hl
    obtain rfl : u = .ref pd := b
    refine ⟨.ref pd, a, ?_⟩
    refine hk M0 σ B1 _ H1 _ fun y B2 e2 d2 p2 => ?_
    have H2 := H1.ext e2 d2
    have g2 := g1.ext e2
    obtain ⟨ob, h1, kvs, rfl, h2, h3⟩ := g2.ob (pd, dSo P w K es) (List.mem_cons_of_mem _ (List.mem_cons_self ..))
    obtain ⟨bb, rfl, hb⟩ := keyT_dq p2
    have hlen := dSo_len h2
    refine ⟨pd, bb, kvs, k, rfl, rfl, jn_M h1, fun p hp => jn_st d2 (h3 p hp), jn_st d2 hb, by omega, ?_⟩
    rw [upd_own]
    have hgn : getX kvs k = none := by
      rw [dSo_get h2]
      unfold hasS at hn
      cases z : es.find? fun e => decide (e.1 = k) with
      | none => rfl
      | some e => rw [z] at hn; cases hn
    have hput : putX kvs k bb (.ref p) = kvs ++ [(k, bb, .ref p)] := by unfold putX; rw [hgn]; rfl
    obtain ⟨r1, r2⟩ := GOk.after (X1 := [(pd, dSo P w K es)]) (X2 := (p, isL ds) :: X) (Y := [(pd, dSo P w K (es ++ [(k, p)]))]) (ad := [pd]) (B' := B2) (M' := upd (upd M p (.lst vs)) pd (DXO P w pd (putX kvs k bb (.ref p)))) H2 { nd := by have := g2.nd; simp only [List.map_cons, List.cons_append, List.nil_append] at this ⊢; exact (List.Perm.swap ..).nodup_iff.mp this, m0 := fun x hx => g2.m0 x ((List.Perm.swap ..).mem_iff.mp hx), ob := fun x hx => g2.ob x ((List.Perm.swap ..).mem_iff.mp hx), ns := fun x hx => g2.ns x ((List.Perm.swap ..).mem_iff.mp hx) } rfl rfl (Ex.refl _) (fun a u z => by
      by_cases w : a = pd
      · have := d2 a u z
        rw [w] at this
        rw [show upd M p (.lst vs) pd = some (DXO P _ pd kvs) from h1] at this
        cases this
      · rw [upd_ne w]; exact d2 a u z) (fun a w => upd_ne (fun z => w (by rw [z]; exact List.mem_singleton.mpr rfl))) (fun y' hy' => by
      rw [List.mem_singleton] at hy'
      subst hy'
      refine ⟨_, upd_same, _, rfl, ?_, fun x hx => ?_⟩
      · rw [hput, List.map_append, List.map_append, h2]; rfl
      · rw [hput] at hx
        rcases List.mem_append.mp hx with z | z
        · exact h3 x z
        · rw [List.mem_singleton] at z; rw [z]; exact hb)
    have hp : ((pd, dSo P w K (es ++ [(k, p)])) :: (p, isL ds) :: X).Perm ((pd, dSo P w K (es ++ [(k, p)])) :: (X ++ [(p, isL ds)])) := List.Perm.cons _ (List.perm_append_comm (l₁ := [(p, isL ds)]) (l₂ := X))
    exact sge_perm (c p) hp M0 D σ B2 _ r1 r2 fun v B' M' X' e => q v B' M' X' ((e1.trans e2).trans e)
end
/-! ### the promise of such a def -/
structure Fe where
  α : Type
  n : Nat
  ars : α → List Ty
  len : ∀ x, (ars x).length = n
  gh : α → Gx
  T : α → Ty
  q : α → Gx → Prop
def spE (S : Fe) : Sp := fun vs H Q E => ∃ (x : S.α) (B M : Hp), H = jn B M ∧ Dj B M ∧ ArsOk ((S.ars x).map Ar.im) vs B M ∧ XIn (S.gh x) B M ∧
  ∀ v B' M' X', Ex B B' → Dj B' M' → (∀ a o, a ∉ (S.gh x).map (·.1) → M a = some o → M' a = some o) → (∀ y ∈ X', y.1 ∈ (S.gh x).map (·.1) ∨ M y.1 = none) → XIn X' B' M' → S.q x X' → (S.T x).p v B' → Q v (jn B' M')
theorem spE_len {S : Fe} {vs H Q E} (h : spE S vs H Q E) : vs.length = S.n := by
  obtain ⟨x, B, M, _, _, a, _⟩ := h
  rw [a.len, List.length_map, S.len]
theorem fn_okE {P : Program} {w : World} {K : PySem.W.Frag} {mg : Str → Option Value} {base : Heap} {x qual : Str} {st : Stmt} {f : Addr} {fd : FuncData} {N ps : List Str} {k : Nat} {S : Fe} (F : Fun K x qual st f fd) (sc : FnScope N ps (defScope st)) (hn : S.n = ps.length)
    (hb : ∀ (cdv : Value) (A : Around) (outer : List Env) (s : Shared) (H : Hp) (E : XK), Room k (A.deeper (envOfC qual (defScope st) s.heap.objs.size f cdv)) →
      ∃ t, PSs (cxD P w K mg base N qual st f cdv A outer s H E) (defBody st) t ∧ ∀ x : S.α, SgE E t (startG N.length ((S.ars x).map Ar.im)) (S.gh x) (S.T x) (S.q x)) : FnOk P w K mg base (L2.CX P w) (k + 1) f fd ps (spE S) := by
  refine F.okX sc (fun vs H Q E h => by rw [spE_len h, hn]) (fun cdv A outer s H vs Q E hr h => ?_)
  obtain ⟨t, h1, h2⟩ := hb cdv A outer s H E hr
  refine ⟨t, h1, ?_⟩
  obtain ⟨x, B, M, rfl, dj, ha, hx, hw⟩ := h
  have hN : (S.ars x).length ≤ N.length := by
    have := congrArg List.length sc.pre
    rw [List.length_take] at this
    rw [S.len, hn]
    omega
  have H0 := holds_start dj ha (by rw [List.length_map]; exact hN)
  let M0 : Hp := fun a => if a ∈ (S.gh x).map (·.1) then none else M a
  have m0 : ∀ a, a ∈ (S.gh x).map (·.1) → M0 a = none := fun a h => if_pos h
  have m1 : ∀ a, a ∉ (S.gh x).map (·.1) → M0 a = M a := fun a h => if_neg h
  have HH : Holds M0 (startG N.length ((S.ars x).map Ar.im)) (L2.start N vs) B M := by
    refine ⟨H0.len, H0.dj, fun a o e => ?_, H0.im, fun i R q => ?_, fun i R q => ?_, H0.ne⟩
    · by_cases z : a ∈ (S.gh x).map (·.1)
      · rw [m0 a z] at e; cases e
      · rw [m1 a z] at e; exact e
    · rcases startG_im (S.ars x) N.length i _ q with z | ⟨P, z⟩ <;> cases z
    · rcases startG_im (S.ars x) N.length i _ q with z | ⟨P, z⟩ <;> cases z
  have g : GOk (S.gh x) M0 (startG N.length ((S.ars x).map Ar.im)) (L2.start N vs) B M := { nd := hx.nd, m0 := fun y hy => m0 _ (List.mem_map.mpr ⟨y, hy, rfl⟩), ob := hx.ob, ns := fun y hy i R q => by rcases startG_im (S.ars x) N.length i _ q with z | ⟨P, z⟩ <;> cases z }
  refine h2 x M0 _ _ B M HH g fun v B' M' X' e d c p y hq => ?_
  refine hw v B' M' X' e d (fun a o z ha => c a o (by rw [m1 a z]; exact ha)) (fun y' hy' => ?_) ⟨y.nd, y.ob⟩ hq p
  by_cases z : y'.1 ∈ (S.gh x).map (·.1)
  · exact .inl z
  · right
    rw [← m1 _ z]
    exact y.m0 y' hy'
end Mini

namespace Mini
open PySem PySem.Spec L2 Evl PyProof.Rows
section
variable {K : PySem.W.Frag} {E : XK} {X : Gx} {G : Gm} {tl : TE} {ds : List PyData} {n m j l : Nat} {pd : Addr} {S : Fe} {M0 B M B' M' : Hp} {σ : L2.St}
theorem gok_tail {y : Addr × Ow} (g : GOk (y :: X) M0 G σ B M) : GOk X M0 G σ B M where
  nd := by have := g.nd; rw [List.map_cons, List.nodup_cons] at this; exact this.2
  m0 := fun x hx => g.m0 x (List.mem_cons_of_mem _ hx)
  ob := fun x hx => g.ob x (List.mem_cons_of_mem _ hx)
  ns := fun x hx => g.ns x (List.mem_cons_of_mem _ hx)
def esE (b : Nat → Bool) (i : Nat) : List PyData := ((List.range i).filter b).map fun k : Nat => PyData.int (k : Int)
theorem esE_succ (b : Nat → Bool) (i : Nat) : esE b (i + 1) = if b i = true then esE b i ++ [.int (i : Int)] else esE b i := by
  unfold esE
  rw [List.range_succ, List.filter_append]
  cases h : b i with
  | true => rw [List.filter_cons_of_pos h, if_pos rfl, List.map_append]; rfl
  | false => rw [List.filter_cons_of_neg (by rw [h]; exact Bool.false_ne_true), if_neg Bool.false_ne_true, List.filter_nil, List.append_nil]
theorem esE_len (b : Nat → Bool) (i : Nat) : (esE b i).length ≤ i := by
  unfold esE
  rw [List.length_map]
  have := List.length_filter_le b (List.range i)
  rw [List.length_range] at this
  exact this
/-- y = [i for i, d in enumerate(list) if f(d, ghosts)] -/
theorem sg_lcE (Qi : Nat → Gx → Prop) (b : Nat → Bool) (h : Sv tl G (isD (.list ds))) (hz : ds.length < 10000000) (h0 : Qi 0 X) (hx : ∀ i d X', ds[i]? = some d → Qi i X' → ∃ x : S.α, S.ars x = [isD d, isV (.ref pd)] ∧ S.gh x = X' ∧ S.T x = isD (.bool (b i)) ∧ ∀ X'', S.q x X'' → Qi (i + 1) X'')
    (hno : noOwB G = true) (hnb : noBwB G = true) (hpd : G[n]? = some (.im (isV (.ref pd)))) (hj : j < G.length) (hl : l < G.length) (hm : m < G.length) (hjl : j ≠ l) (hnj : n ≠ j) (hnl : n ≠ l) :
    Sg E (tAsg (tLc (iEnum K (tCons tl tNil)) (gTup K 2 (gCons (gName j) (gCons (gName l) gNil))) (tB (tCallS (spE S) (fun _ => E0) (tCons (tVar l) (tCons (tVar n) tNil)))) (tVar j) [j, l]) (gName m)) G X (.nx (G.set m (.im (isD (.list (esE b ds.length))))) []) := fun M0 D σ B M H g q =>
  h M0 σ B M H _ fun v B1 e1 d1 p1 => by
  obtain ⟨a, vs, rfl, ha, hv⟩ := dq_lst p1
  have hlen := DqAll_len hv
  have noOw := noOw_of hno
  have noBw := noBw_of hnb
  refine ⟨a, vs, rfl, sq_of (jn_B d1 ha), fun Dl hD => ?_⟩
  have hM0D : M0 Dl = none := by
    cases z : M0 Dl with
    | none => rfl
    | some u => have := H.cal Dl u z; rw [(jn_free hD).2] at this; cases this
  let Pv : Nat → Hp → Prop := fun i H' => ∃ B' M' X' acc, H' = jn B' M' ∧ Ex B1 B' ∧ Holds M0 G σ B' M' ∧ GOk X' M0 G σ B' M' ∧ Qi i X' ∧ M' Dl = some (.lst acc) ∧ Dl ∉ X'.map (·.1) ∧ DqAll B' acc (esE b i)
  refine ⟨fun i k H' => i ≤ vs.length ∧ k = vs.length - i ∧ Pv i H', ⟨vs.length, Nat.zero_le _, rfl, ?_⟩, fun i k H' hW => ?_⟩
  · have gm := gok_more (R := isL []) (ob := .lst []) (H.ext e1 d1) (g.ext e1) hD ⟨[], rfl, .nil⟩
    have nd := gm.nd
    rw [List.map_cons, List.nodup_cons] at nd
    refine ⟨B1, upd M Dl (.lst []), X, [], by rw [upd_own], Ex.refl _, (H.ext e1 d1).more hD, gok_tail gm, h0, upd_same, nd.1, .nil⟩
  · obtain ⟨hle, rfl, B', M', X', acc, rfl, e, H', g', hq, hDl, hDX, hacc⟩ := hW
    have hS : SqL K (jn B' M') a vs := sq_of (jn_B H'.dj (e _ _ ha))
    by_cases z : i < vs.length
    · refine .inr ⟨⟨vs, vs[i], hS, List.getElem?_eq_getElem z⟩, Pv (i + 1), fun H'' p => ⟨vs.length - (i + 1), by omega, by omega, rfl, p⟩, fun v H'' hy => ?_⟩
      obtain ⟨t, x, rfl, ht, rfl, hxx⟩ := hy
      obtain ⟨d, hd, px⟩ := DqAll_getV hv (hxx vs hS)
      rw [upd_new ht]
      have et : Ex B' (upd B' t (.tup [V.int i, x])) := ex_new ht
      have djt : Dj (upd B' t (.tup [V.int i, x])) M' := dj_new H'.dj ht
      refine ⟨t, _, rfl, st_of (jn_B djt upd_same), rfl, _, _, rfl, _, _, rfl, rfl, ?_⟩
      refine ⟨wipe_two2 σ hjl _ _, ?_⟩
      have H2 : Holds M0 (GvE G j l i d) (((L2.wipe σ [j, l]).set j (some (V.int i))).set l (some x)) (upd B' t (.tup [V.int i, x])) M' := by
        have h1 := (H'.wipes [j, l]).ext et djt
        have h2 := h1.setIm (n := j) (v := V.int i) (P := isD (.int (i : Int))) (by show j < ((G.set l .no).set j .no).length; rw [List.length_set, List.length_set]; exact hj) (.int _)
        exact h2.setIm (by rw [List.length_set]; show l < ((G.set l .no).set j .no).length; rw [List.length_set, List.length_set]; exact hl) (Dq_ex (e.trans et) d x px)
      have gl : (GvE G j l i d)[l]? = some (.im (isD d)) := by
        show (((((G.set l .no).set j .no)).set j (.im (isD (.int (i : Int))))).set l (.im (isD d)))[l]? = _
        exact List.getElem?_set_self (by rw [List.length_set, List.length_set, List.length_set]; exact hl)
      have gn : (GvE G j l i d)[n]? = some (.im (isV (.ref pd))) := by
        show (((((G.set l .no).set j .no)).set j (.im (isD (.int (i : Int))))).set l (.im (isD d)))[n]? = _
        rw [List.getElem?_set_ne (Ne.symm hnl), List.getElem?_set_ne (Ne.symm hnj), List.getElem?_set_ne (Ne.symm hnj), List.getElem?_set_ne (Ne.symm hnl)]
        exact hpd
      have sa : Sa (tCons (tVar l) (tCons (tVar n) tNil)) (GvE G j l i d) ([isD d, isV (.ref pd)].map Ar.im) := sa_im (sv_var gl) (sa_im (sv_var gn) sa_nil)
      show tCallS (spE S) (fun _ => E0) (tCons (tVar l) (tCons (tVar n) tNil)) _ _ _
      refine sa M0 _ _ _ H2 _ fun us B3 e3 d3 p3 => ?_
      obtain ⟨x', xa, xg, xt, xq⟩ := hx i d X' hd hq
      have g3 := (g'.ext et).ext e3
      refine ⟨x', B3, M', rfl, d3, by rw [xa]; exact p3, by rw [xg]; exact ⟨g3.nd, g3.ob⟩, fun v B4 M4 X4 e4 d4 fr nw xin qx pv => ?_⟩
      rw [xg] at fr nw
      rw [xt] at pv
      refine ⟨b i, dp_bool pv, ?_⟩
      have eB : Ex B' B4 := (et.trans e3).trans e4
      have H4 : Holds M0 G σ B4 M4 := by
        refine ⟨H'.len, d4, fun a o za => ?_, fun i P zi => ?_, fun i R zi => absurd zi (noOw i R), fun i R zi => absurd zi (noBw i R), fun i j R R' l' zi => absurd zi (noOw i R)⟩
        · refine fr a o (fun zz => ?_) (H'.cal a o za)
          obtain ⟨y, hy, ey⟩ := List.mem_map.mp zz
          have := g'.m0 y hy
          rw [ey, za] at this; cases this
        · obtain ⟨v', a', b'⟩ := H'.im i P zi
          exact ⟨v', a', P.mono eB b'⟩
      have g4 : GOk X4 M0 G σ B4 M4 := { nd := xin.nd, ob := xin.ob, m0 := fun y hy => (by
        rcases nw y hy with zz | zz
        · obtain ⟨y', hy', ey⟩ := List.mem_map.mp zz
          rw [← ey]; exact g'.m0 y' hy'
        · cases w : M0 y.1 with
          | none => rfl
          | some u => have := H'.cal _ _ w; rw [zz] at this; cases this), ns := fun y hy i R zi => absurd zi (noOw i R) }
      have hD4 : M4 Dl = some (.lst acc) := fr Dl _ hDX hDl
      have hX4 : Dl ∉ X4.map (·.1) := fun zz => by
        obtain ⟨y, hy, ey⟩ := List.mem_map.mp zz
        rcases nw y hy with w | w
        · rw [ey] at w; exact hDX w
        · rw [ey, hDl] at w; cases w
      have hes := esE_succ b i
      cases hb : b i with
      | false =>
        dsimp only
        rw [if_neg Bool.false_ne_true]
        rw [hb, if_neg Bool.false_ne_true] at hes
        exact ⟨B4, M4, X4, acc, rfl, e.trans eB, H4, g4, xq _ qx, hD4, hX4, by rw [hes]; exact DqAll_ex eB hacc⟩
      | true =>
        dsimp only
        rw [if_pos rfl]
        rw [hb, if_pos rfl] at hes
        have hjj : (((L2.wipe σ [j, l]).set j (some (V.int i))).set l (some x))[j]? = some (some (V.int i)) := by
          rw [List.getElem?_set_ne (Ne.symm hjl)]
          exact List.getElem?_set_self (by show j < ((σ.set l none).set j none).length; rw [List.length_set, List.length_set, H.len]; exact hj)
        have hal := esE_len b i
        refine ⟨_, hjj, acc, jn_M hD4, by rw [DqAll_len hacc, sizeLine_eq]; omega, ?_⟩
        rw [upd_own]
        have dj5 : Dj B4 (upd M4 Dl (.lst (acc ++ [V.int i]))) := fun a u za => by
          by_cases w : a = Dl
          · have := d4 a u za
            rw [w, hD4] at this; cases this
          · rw [upd_ne w]; exact d4 a u za
        have H5 : Holds M0 G σ B4 (upd M4 Dl (.lst (acc ++ [V.int i]))) := by
          refine ⟨H4.len, dj5, fun a o za => ?_, H4.im, fun i R zi => absurd zi (noOw i R), fun i R zi => absurd zi (noBw i R), fun i j R R' l' zi => absurd zi (noOw i R)⟩
          have w : a ≠ Dl := fun w => by rw [w, hM0D] at za; cases za
          rw [upd_ne w]; exact H4.cal a o za
        have g5 : GOk X4 M0 G σ B4 (upd M4 Dl (.lst (acc ++ [V.int i]))) := { nd := g4.nd, m0 := g4.m0, ob := fun y hy => (by
          obtain ⟨o, o1, o2⟩ := g4.ob y hy
          exact ⟨o, by rw [upd_ne (fun w => hX4 (List.mem_map.mpr ⟨y, hy, w⟩))]; exact o1, o2⟩), ns := g4.ns }
        exact ⟨B4, _, X4, acc ++ [V.int i], rfl, e.trans eB, H5, g5, xq _ qx, upd_same, hX4, by rw [hes]; exact DqAll_append (DqAll_ex eB hacc) (.cons (.int _) .nil)⟩
    · have ei : i = vs.length := by omega
      subst ei
      refine .inl ⟨⟨vs, hS, Nat.le_refl _⟩, ?_⟩
      show D.nx (σ.set m (some (.ref Dl))) (jn B' M')
      have hBD : B' Dl = none := dj_free H'.dj hDl
      have ex : Ex B' (upd B' Dl (.lst acc)) := Ex.new hBD
      rw [← jn_del (B := B') hDl]
      have dj : Dj (upd B' Dl (.lst acc)) (del M' Dl) := fun a u za => by
        by_cases w : a = Dl
        · rw [w]; exact if_pos rfl
        · rw [del_ne w]
          rw [upd_ne w] at za
          exact H'.dj a u za
      have HH : Holds M0 G σ (upd B' Dl (.lst acc)) (del M' Dl) := by
        refine ⟨H'.len, dj, fun a o za => ?_, fun i P zi => ?_, fun i R zi => absurd zi (noOw i R), fun i R zi => absurd zi (noBw i R), fun i j R R' l' zi => absurd zi (noOw i R)⟩
        · have w : a ≠ Dl := fun w => by rw [w, hM0D] at za; cases za
          rw [del_ne w]; exact H'.cal a o za
        · obtain ⟨v', a', b'⟩ := H'.im i P zi
          exact ⟨v', a', P.mono ex b'⟩
      exact q _ _ _ ((e1.trans e).trans ex) (HH.setIm hm (.lst upd_same (by rw [← hlen]; exact DqAll_ex ex hacc))) gok_nil
end
end Mini

namespace Mini
open PySem PySem.Spec L2 Evl PyProof.Rows
section
variable {K : PySem.W.Frag} {E : L2.St → XK} {G G' : Gm} {ts tu : TS} {te ta tb tl : TE} {o : Out} {n : Nat} {d e : PyData} {ds es : List PyData} {R R' : Ow} {M0 B M : Hp} {σ : L2.St}
/-- an owned list; tuples of the module may stand in it -/
def isLK (K : PySem.W.Frag) (ds : List PyData) : Ow := ⟨fun _ o B => ∃ vs, o = .lst vs ∧ DqKA K B vs ds, fun e ⟨vs, h, q⟩ => ⟨vs, h, DqK_ex.go e _ vs q⟩⟩
theorem isL_K {a : Addr} {o : HO} {B : Hp} (h : (isL ds).r a o B) : (isLK K ds).r a o B := by
  obtain ⟨vs, h1, h2⟩ := h
  exact ⟨vs, h1, Dq_K.go ds vs h2⟩
theorem Holds.owLe (H : Holds M0 G σ B M) (h : G[n]? = some (.ow R)) (le : ∀ a o B, R.r a o B → R'.r a o B) : Holds M0 (G.set n (.ow R')) σ B M where
  len := by rw [List.length_set]; exact H.len
  dj := H.dj
  cal := H.cal
  im := fun i P q => by
    rcases get_set_cases q with ⟨rfl, e⟩ | ⟨e, q⟩
    · cases e
    · exact H.im i P q
  ow := fun i S q => by
    rcases get_set_cases q with ⟨rfl, e⟩ | ⟨e, q⟩
    · cases e
      obtain ⟨l, o, a, b, c, f⟩ := H.ow _ R h
      exact ⟨l, o, a, b, le _ _ _ c, f⟩
    · exact H.ow i S q
  bw := fun i S q => by
    rcases get_set_cases q with ⟨rfl, e⟩ | ⟨e, q⟩
    · cases e
    · exact H.bw i S q
  ne := fun i j S S' l q q' a b => by
    rcases get_set_cases q with ⟨e0, e⟩ | ⟨e, qq⟩
    · subst e0
      rcases get_set_cases q' with ⟨e0', e'⟩ | ⟨e', qq'⟩
      · exact e0'.symm
      · exact H.ne _ j R S' l h qq' a b
    · rcases get_set_cases q' with ⟨e0', e'⟩ | ⟨e', qq'⟩
      · subst e0'
        exact H.ne i _ S R l qq h a b
      · exact H.ne i j S S' l qq qq' a b
theorem ss_owLe (h : G[n]? = some (.ow R)) (le : ∀ a o B, R.r a o B → R'.r a o B) (hs : Ss E ts (G.set n (.ow R')) o) : Ss E ts G o := fun M0 D σ B M H q => hs M0 D σ B M (H.owLe h le) q
theorem DqKA_set {H : Hp} {v : V} (p : DqK K H v d) : ∀ {ds : List PyData} {vs : List V} (j : Nat), DqKA K H vs ds → DqKA K H (vs.set j v) (ds.set j d)
  | [], _, _, .nil => .nil
  | _ :: _, _, 0, .cons a b => .cons p b
  | _ :: _, _, j + 1, .cons a b => .cons a (DqKA_set p j b)
/-- xs[i] = e, xs one's own, e perhaps a tuple of the module -/
theorem ss_setItemK {i : Int} {j : Nat} (h : G[n]? = some (.ow (isLK K ds))) (he : Sv te G (isP K d)) (hi : Sv tb G (isD (.int i))) (hj : ixN ds.length i = some j) : Ss E (tAsg te (gSub (tVar n) tb rSetL)) G (.nx (G.set n (.ow (isLK K (ds.set j d))))) := fun M0 D σ B M H q => by
  obtain ⟨l, ob, a, c, ⟨vs, rfl, r⟩, f⟩ := H.ow n _ h
  refine he M0 σ B M H _ fun v B1 e1 d1 p1 => ?_
  refine ⟨.ref l, a, ?_⟩
  refine hi M0 σ B1 M (H.ext e1 d1) _ fun iv B2 e2 d2 p2 => ?_
  rw [dp_int p2]
  refine ⟨l, vs, i, j, rfl, rfl, jn_M c, by rw [DqKA_len r]; exact hj, ?_⟩
  rw [upd_own]
  exact q σ B2 _ (e1.trans e2) (((H.ext e1 d1).ext e2 d2).change h a c ⟨_, rfl, DqKA_set (DqK_ex e2 d v p1) j (DqK_ex.go (e1.trans e2) ds vs r)⟩)
/-- tuple(xs), xs such a list -/
theorem sv_tupleK (h : G[n]? = some (.ow (isLK K ds))) : Sv (tThen (tVar n) (kTup K)) G (isP K (.tuple ds)) := fun M0 σ B M H Q q => by
  obtain ⟨l, ob, a, c, ⟨vs, rfl, r⟩, f⟩ := H.ow n _ h
  refine ⟨.ref l, a, ?_⟩
  exact .inl ⟨l, vs, rfl, sq_of (jn_M c), fun t ht => by
    rw [upd_new ht]
    exact q _ _ (ex_new ht) (dj_new H.dj ht) (.tup (.inl upd_same) (DqK_ex.go (ex_new ht) ds vs r))⟩
end
end Mini

/-! ### d.items() of a dict whose keys are ints or texts; sorted(d.items()), keys and values ints -/
namespace Mini
open PySem PySem.Spec L2 Evl PyProof.Rows
def rItemsK : V → List V → Hp → VK → Prop := fun x xs H Q => ∃ (a : Addr) (kvs : List (Key × V)), x = .ref a ∧ xs = [] ∧ H a = some (.dK kvs) ∧ ∀ p, H p = none → Q (.ref p) (upd H p (L2.DX.itemsO p a))
theorem mt_itemsK {X : Cx} : MtR X "dict.items" rItemsK := by
  intro pins s σ H x xs v us Q I rx rxs h
  obtain ⟨a, kvs, rfl, rfl, ha, q⟩ := h
  cases rx
  cases rxs
  obtain ⟨z, hd, vs, rel, dd⟩ := dk_of I.hok ha
  obtain ⟨es, ep, hraw, hsz, hat⟩ := Heap.DictOf.raw dd
  refine DT.callItems (es := es) (ep := ep) hd hraw ?_
  exact ⟨.ref s.heap.objs.size, upd H s.heap.objs.size (L2.DX.itemsO s.heap.objs.size a), I.laid (t' := s.toks) (fun b u e => Heap.get?_push_of_some _ e) (Nat.le_refl _) (L2.DX.itemsO_ok (Heap.get?_push_size _ rfl)), rfl, q _ (I.hok.fresh (Nat.le_refl _))⟩
/-- tuples laid at addresses -/
def addT (H : Hp) : List (Addr × List V) → Hp
  | [] => H
  | t :: ts => addT (upd H t.1 (.tup t.2)) ts
theorem addT_old : ∀ {ts : List (Addr × List V)} {H : Hp} {a : Addr}, a ∉ ts.map (·.1) → addT H ts a = H a
  | [], _, _, _ => rfl
  | t :: ts, H, a, h => by
    rw [List.map_cons, List.mem_cons, not_or] at h
    show addT (upd H t.1 (.tup t.2)) ts a = H a
    rw [addT_old h.2, upd_ne h.1]
theorem take_all {X : Cx} {pins : List (Addr × Obj)} {σ : L2.St} {H0 : Hp} {s : Shared} {h' : Heap} {tk : Nat} (I0 : Inv X pins σ H0 s) : ∀ (ts : List (Addr × List V)) (H1 : Hp), Inv X pins σ H1 { s with heap := h', toks := tk } → (ts.map (·.1)).Nodup →
    (∀ t ∈ ts, s.heap.objs.size ≤ t.1 ∧ H1 t.1 = none ∧ ∀ H2, ObjOk X.prog X.w H2 h' t.1 (.tup t.2)) → Inv X pins σ (addT H1 ts) { s with heap := h', toks := tk }
  | [], H1, I1, _, _ => I1
  | t :: ts, H1, I1, hn, h => by
    obtain ⟨hb, hnone, ok⟩ := h t (List.mem_cons_self ..)
    have I2 : Inv X pins σ (upd H1 t.1 (.tup t.2)) { s with heap := h', toks := tk } := I1.take (h' := h') (t' := tk) (fun b ob _ e => e) (I0.fpOk hb hnone) (ok _)
    rw [List.map_cons, List.nodup_cons] at hn
    exact take_all I0 ts _ I2 hn.2 fun c hc => by
      obtain ⟨c1, c2, c3⟩ := h c (List.mem_cons_of_mem _ hc)
      exact ⟨c1, by rw [upd_ne (fun z => hn.1 (by rw [← z]; exact List.mem_map_of_mem hc))]; exact c2, c3⟩
theorem paired_get {α β : Type} {F : α → β → Prop} : ∀ {as : List α} {bs : List β} {i : Nat} {x : α}, Paired F as bs → as[i]? = some x → ∃ y, bs[i]? = some y ∧ F x y
  | _, _, _, _, .nil, h => by simp at h
  | _, _, 0, _, .cons (b := y) f _, h => by
    simp only [List.getElem?_cons_zero] at h
    cases h
    exact ⟨y, rfl, f⟩
  | _, _, i + 1, _, .cons _ t, h => by
    simp only [List.getElem?_cons_succ] at h
    obtain ⟨y, h1, h2⟩ := paired_get (i := i) t h
    exact ⟨y, (by rw [List.getElem?_cons_succ]; exact h1), h2⟩
def encII (p : Int × Int) : PyData := .tuple [.int p.1, .int p.2]
def srtII (kvs : List (Int × Int)) : List (Int × Int) := kvs.mergeSort (fun p q => decide (p.1 < q.1 ∨ (p.1 = q.1 ∧ p.2 ≤ q.2)))
def rSortII : List V → Hp → VK → Prop := fun vs H Q => ∃ (p a : Addr) (kvs : List (Int × Int)), vs = [.ref p] ∧ H p = some (L2.DX.itemsO p a) ∧ H a = some (.dK (dkV kvs)) ∧ kvs.length ≤ 1000 ∧
  ∀ (as : List Addr) (l : Addr) (out : List V), as.Nodup → as.length = kvs.length → (∀ b ∈ as, H b = none) → H l = none → l ∉ as → Paired (fun (v : V) (k : Int × Int) => ∃ (j : Nat) (a : Addr), v = .ref a ∧ as[j]? = some a ∧ kvs[j]? = some k) out (srtII kvs) →
    Q (.ref l) (upd (addT H (as.zip (kvs.map fun k => [.int k.1, .int k.2]))) l (.lst out))
theorem paired_of_each {α β γ : Type} {R : α → β → Prop} {F : γ → β → Prop} {G : γ → α → Prop} (h : ∀ a b, R a b → ∃ c, F c b ∧ G c a) : ∀ {as : List α} {bs : List β}, PySem.W.EachIs R as bs → ∃ cs : List γ, Paired F cs bs ∧ Paired G cs as
  | _, _, .nil => ⟨[], .nil, .nil⟩
  | _, _, .cons r t => by
    obtain ⟨c, h1, h2⟩ := h _ _ r
    obtain ⟨cs, h3, h4⟩ := paired_of_each h t
    exact ⟨c :: cs, .cons h1 h3, .cons h2 h4⟩
theorem each_of {α β : Type} {R : α → β → Prop} : ∀ {as : List α} {bs : List β}, as.length = bs.length → (∀ (i : Nat) a b, as[i]? = some a → bs[i]? = some b → R a b) → PySem.W.EachIs R as bs
  | [], [], _, _ => .nil
  | a :: as, b :: bs, h, f => .cons (f 0 a b rfl rfl) (each_of (by simpa using h) fun i x y h1 h2 => f (i + 1) x y (by simpa using h1) (by simpa using h2))
  | [], b :: bs, h, _ => by simp at h
  | a :: as, [], h, _ => by simp at h
theorem cr_sortedII {X : Cx} (hc : X.calm = true) (hu : X.A.units + 64 < cLine) : CallR X (.builtin "sorted") rSortII := by
  intro pins s σ H xs us Q I r h
  obtain ⟨p, a, kvs, rfl, hp, ha, hlen, q⟩ := h
  obtain rfl := Vals.ref1 r
  have hz : (sizeLine : Nat) = 16777216 := sizeLine_eq
  have view : s.heap.IsItemsView p a := (show ObjOk X.prog X.w H s.heap p (L2.DX.itemsO p a) from I.hok p _ hp).1
  obtain ⟨z, hd, vs0, rel, dd⟩ := dk_of I.hok ha
  obtain ⟨es, ep, hraw, hsz, hat⟩ := Heap.DictOf.raw dd
  have l0 : (dkV kvs).length = vs0.length := Paired.length rel
  have l1 : (dkV kvs).length = kvs.length := by unfold dkV; rw [List.length_map]
  have hh : X.A.handled = none := I.ok.hd hc
  refine DT.sortedI (es := es) (ep := ep) hh view hraw (by omega) fun h' tk as hk hlt hl hG => ?_
  have lak : as.length = kvs.length := by omega
  have nd : as.Nodup := List.Pairwise.imp (fun h => Nat.ne_of_lt h) hG.rise
  have pr : ∀ (j : Nat) (b : Addr) (k : Int × Int), as[j]? = some b → kvs[j]? = some k → ∃ t u, h'.get? b = some { cls := .type "tuple", data := .seq #[Value.int k.1 t, Value.int k.2 u] } := by
    intro j b k hj hkj
    obtain ⟨en, he, hg⟩ := hG.pairs j b hj
    have hlt2 := (Array.getElem?_eq_some_iff.mp he).1
    have hkv : (dkV kvs)[j]? = some (Sum.inl k.1, V.int k.2) := by unfold dkV; rw [List.getElem?_map, hkj]; rfl
    obtain ⟨x, hx1, hx2, hx3⟩ : ∃ x, vs0[j]? = some x ∧ (Sum.inl k.1 : Key) = x.1 ∧ RelV (V.int k.2) x.2 := by
      obtain ⟨x, h1, h2, h3⟩ := paired_get rel hkv
      exact ⟨x, h1, h2, h3⟩
    obtain ⟨x1, x2⟩ := x
    dsimp only at hx2 hx3
    subst hx2
    obtain ⟨u, rfl⟩ := hx3
    obtain ⟨k1, k2⟩ := hat j hlt2 _ _ hx1
    have een : es[j] = en := (Array.getElem?_eq_some_iff.mp he).2
    rw [een] at k1 k2
    rcases keyIs_shape (show keyIs (Sum.inl k.1) en.key = true from k1) with ⟨i, t, e1, e2⟩ | ⟨i, t, e1, e2⟩
    · have e1 : k.1 = i := Sum.inl.inj e1
      subst e1
      exact ⟨t, u, by rw [hg, e2, k2]⟩
    · cases e1
  have hob : (h'.push { cls := .type "list", data := .seq (as.map Value.ref).toArray }).get? h'.objs.size = some (seqObj "list" (as.map Value.ref).toArray 0) := Heap.get?_push_size _ rfl
  have kb : ∀ b o, s.heap.get? b = some o → (h'.push { cls := .type "list", data := .seq (as.map Value.ref).toArray }).get? b = some o := fun b o e => Heap.get?_push_of_some _ (hk b o e)
  have ne0 : ∀ b o, h'.get? b = some o → b ≠ h'.objs.size := fun b o e => Nat.ne_of_lt (Heap.lt_size e)
  generalize hh2 : h'.push { cls := .type "list", data := .seq (as.map Value.ref).toArray } = h2 at hob kb ⊢
  have ka : ∀ b o, h'.get? b = some o → h2.get? b = some o := fun b o e => by rw [← hh2]; exact Heap.get?_push_of_some _ e
  let R : Value → Int × Int → Prop := fun v k => ∃ (j : Nat) (b : Addr), v = .ref b ∧ as[j]? = some b ∧ kvs[j]? = some k
  have eR : PySem.W.EachIs R (as.map Value.ref) kvs := each_of (by rw [List.length_map]; exact lak) fun i v k h1 h2 => by
    rw [List.getElem?_map] at h1
    cases hi : as[i]? with
    | none => rw [hi] at h1; cases h1
    | some b => rw [hi] at h1; cases h1; exact ⟨i, b, rfl, hi, h2⟩
  have er : PySem.W.EachIs (fun v k => ∃ bs, Reads h2 v (encII k) bs ∧ h'.objs.size ∉ bs) (as.map Value.ref) kvs := eR.mono fun v k ⟨j, b, e1, e2, e3⟩ => by
    subst e1
    obtain ⟨t, u, hg⟩ := pr j b k e2 e3
    exact ⟨[], .tuple (ka _ _ hg) rfl rfl (.cons (as := []) (bs := []) (.int _ _) (.cons (as := []) (bs := []) (.int _ _) .nil)), List.not_mem_nil⟩
  refine PySem.W.list_sort_data (s := { s with heap := h2, toks := tk }) (bs := kvs) (enc := encII) (R := R) (n := 0) hob eR er (PySem.W.AllAlike.of fun _ _ => rfl) (PySem.W.Sortable.tuples fun k => ⟨_, _, rfl⟩) (by omega) (fun k _ => ?_) fun out ho he => ?_
  · show X.A.units + 1 + 1 + (encII k).depth < cLine
    have : (encII k).depth ≤ 10 := by unfold encII; simp [PyData.depth, PyData.depthAll]
    omega
  have eL : PySem.W.dataLe false encII = fun p q => decide (p.1 < q.1 ∨ (p.1 = q.1 ∧ p.2 ≤ q.2)) := PySem.W.dataLe_ii (fun p : Int × Int => p.1) (fun p => p.2)
  rw [eL] at he
  have he : PySem.W.EachIs R out (srtII kvs) := he
  obtain ⟨vs, pF, pG⟩ := paired_of_each (F := fun (v : V) (k : Int × Int) => ∃ (j : Nat) (a : Addr), v = .ref a ∧ as[j]? = some a ∧ kvs[j]? = some k) (G := RelV) (fun v k ⟨j, b, e1, e2, e3⟩ => ⟨.ref b, ⟨j, b, rfl, e2, e3⟩, e1⟩) he
  have kF : ∀ b o, b ≠ h'.objs.size → h2.get? b = some o → (sortedHeap h2 h'.objs.size (as.map Value.ref) (List.toArray out)).get? b = some o := fun b o hb e => (sortedHeap_old hb (Heap.lt_size e)).trans e
  have kS : ∀ b o, s.heap.get? b = some o → (sortedHeap h2 h'.objs.size (as.map Value.ref) (List.toArray out)).get? b = some o := fun b o e => kF b o (ne0 _ _ (hk b o e)) (kb b o e)
  obtain ⟨eF, heF⟩ := sortedHeap_at (vs := as.map Value.ref) (out := List.toArray out) hob
  show EP X pins σ Q (.ref h'.objs.size) { s with heap := sortedHeap h2 h'.objs.size (as.map Value.ref) (List.toArray out), toks := tk }
  have I1 : Inv X pins σ H { s with heap := sortedHeap h2 h'.objs.size (as.map Value.ref) (List.toArray out), toks := tk } := I.kept (t' := tk) kS
  have hn0 : H h'.objs.size = none := I.hok.fresh (Nat.le_of_lt hlt)
  have hna : h'.objs.size ∉ as := fun hb => Nat.lt_irrefl _ (hG.there hb)
  have hfa : ∀ b ∈ as, H b = none := fun b hb => I.hok.fresh (Nat.le_of_lt (hG.above b hb))
  have efst : (as.zip (kvs.map fun k : Int × Int => [V.int k.1, V.int k.2])).map (·.1) = as := List.map_fst_zip (by rw [List.length_map, lak]; exact Nat.le_refl _)
  have I2 := take_all I (as.zip (kvs.map fun k : Int × Int => [V.int k.1, V.int k.2])) H I1 (by rw [efst]; exact nd) fun t ht => by
    obtain ⟨j, hj⟩ := List.mem_iff_getElem?.mp ht
    obtain ⟨j1, j2⟩ := List.getElem?_zip_eq_some.mp hj
    rw [List.getElem?_map] at j2
    cases hkj : kvs[j]? with
    | none => rw [hkj] at j2; cases j2
    | some k =>
      rw [hkj] at j2
      have e2 : [V.int k.1, V.int k.2] = t.2 := Option.some.inj j2
      have hb := List.mem_of_getElem? j1
      obtain ⟨tt, u, hg⟩ := pr j t.1 k j1 hkj
      refine ⟨Nat.le_of_lt (hG.above _ hb), hfa _ hb, fun H3 => ?_⟩
      rw [← e2]
      exact ⟨(by rw [hz]; show 2 ≤ 16777216; omega), [Value.int k.1 tt, Value.int k.2 u], .cons ⟨tt, rfl⟩ (.cons ⟨u, rfl⟩ .nil), ⟨_, kF _ _ (ne0 _ _ hg) (ka _ _ hg), rfl, 0, rfl⟩⟩
  have hn1 : addT H (as.zip (kvs.map fun k : Int × Int => [V.int k.1, V.int k.2])) h'.objs.size = none := by rw [addT_old (by rw [efst]; exact hna)]; exact hn0
  have lv : vs.length = out.length := Paired.length pG
  have I3 := I2.take (h' := sortedHeap h2 h'.objs.size (as.map Value.ref) (List.toArray out)) (t' := tk) (o := .lst vs) (fun b ob _ e => e) (I.fpOk (Nat.le_of_lt hlt) hn1) ⟨by omega, out, eF, pG, heF⟩
  exact ⟨.ref h'.objs.size, _, I3, rfl, q as h'.objs.size vs nd lak hfa hn0 hna pF⟩
theorem addT_jn {M : Hp} : ∀ (ts : List (Addr × List V)) (B : Hp), Dj B M → (∀ t ∈ ts, jn B M t.1 = none) → (ts.map (·.1)).Nodup →
    addT (jn B M) ts = jn (addT B ts) M ∧ Ex B (addT B ts) ∧ Dj (addT B ts) M ∧ ∀ t ∈ ts, addT B ts t.1 = some (.tup t.2)
  | [], B, d, _, _ => ⟨rfl, Ex.refl B, d, fun _ h => absurd h List.not_mem_nil⟩
  | t :: ts, B, d, h, hn => by
    have h1 := h t (List.mem_cons_self ..)
    rw [List.map_cons, List.nodup_cons] at hn
    have d2 := dj_new (o := .tup t.2) d h1
    have e2 := ex_new (o := .tup t.2) h1
    obtain ⟨a1, a2, a3, a4⟩ := addT_jn ts (upd B t.1 (.tup t.2)) d2 (fun c hc => by
      rw [← upd_new h1, upd_ne (fun z => hn.1 (by rw [← z]; exact List.mem_map_of_mem hc))]
      exact h c (List.mem_cons_of_mem _ hc)) hn.2
    refine ⟨by show addT (upd (jn B M) t.1 (.tup t.2)) ts = _; rw [upd_new h1]; exact a1, e2.trans a2, a3, fun c hc => ?_⟩
    rcases List.mem_cons.mp hc with rfl | hc
    · show addT (upd B c.1 (.tup c.2)) ts c.1 = _
      rw [addT_old hn.1, upd_same]
    · exact a4 c hc
theorem dqAll_pairs {B : Hp} {F : V → Int × Int → Prop} (h : ∀ v k, F v k → Dq B v (encII k)) : ∀ {vs : List V} {ks : List (Int × Int)}, Paired F vs ks → DqAll B vs (ks.map encII)
  | _, _, .nil => .nil
  | _, _, .cons r t => .cons (h _ _ r) (dqAll_pairs h t)
/-- sorted(d.items()), keys and values ints -/
theorem svl_sortII {K : PySem.W.Frag} {G : Gm} {td : TE} {kvs : List (Int × Int)} (hd : Sv td G (isDi kvs)) (hz : kvs.length ≤ 1000) : Svl (tCB rSortII (tCons (tBM0 K "dict" rItemsK td) tNil)) G ((srtII kvs).map encII) := fun M0 σ B M H Q q => hd M0 σ B M H _ fun v B1 e1 d1 p1 => by
  obtain ⟨a, rfl, h1⟩ := p1
  refine ⟨.inr (.inr (.inl ⟨rfl, .inl ⟨_, jn_B d1 h1⟩⟩)), a, dkV kvs, rfl, rfl, jn_B d1 h1, fun p hp => ?_⟩
  have e2 := ex_new (o := L2.DX.itemsO p a) hp
  have d2 := dj_new (o := L2.DX.itemsO p a) d1 hp
  show rSortII [.ref p] (upd (jn B1 M) p (L2.DX.itemsO p a)) Q
  rw [upd_new hp]
  refine ⟨p, a, kvs, rfl, jn_B d2 upd_same, jn_B d2 (e2 _ _ h1), hz, fun as l out nd hl hfr hl0 hla pd => ?_⟩
  have efst : (as.zip (kvs.map fun k : Int × Int => [V.int k.1, V.int k.2])).map (·.1) = as := List.map_fst_zip (by rw [List.length_map, hl]; exact Nat.le_refl _)
  obtain ⟨a1, a2, a3, a4⟩ := addT_jn (M := M) (as.zip (kvs.map fun k : Int × Int => [V.int k.1, V.int k.2])) _ d2 (fun t ht => hfr _ (by rw [← efst]; exact List.mem_map_of_mem ht)) (by rw [efst]; exact nd)
  rw [a1]
  refine q l out _ ((e1.trans e2).trans a2) a3 (by rw [← a1, addT_old (by rw [efst]; exact hla)]; exact hl0) (dqAll_pairs (fun v k ⟨j, b, ev, e3, e4⟩ => ?_) pd)
  subst ev
  have hm : (b, [V.int k.1, V.int k.2]) ∈ as.zip (kvs.map fun k : Int × Int => [V.int k.1, V.int k.2]) := List.mem_of_getElem? (i := j) (List.getElem?_zip_eq_some.mpr ⟨e3, by rw [List.getElem?_map, e4]; rfl⟩)
  exact .tup (a4 _ hm) (.cons (.int _) (.cons (.int _) .nil))
end Mini

namespace Mini
open PySem PySem.Spec L2 Evl PyProof.Rows
section
variable {E : L2.St → XK} {G : Gm}
/-- a, b, c = three values or new lists, side by side -/
theorem ss_par3S {ta : TA} {kk1 kk2 kk3 : Ty ⊕ List PyData} {i j l : Nat} (h : Sn ta G [kk1, kk2, kk3]) (hi : i < G.length := by exact Nat.le_of_ble_eq_true rfl) (hj : j < G.length := by exact Nat.le_of_ble_eq_true rfl) (hl : l < G.length := by exact Nat.le_of_ble_eq_true rfl) : Ss E (tPar3 i j l ta) G (.nx (setAll G [i, j, l] [kk1, kk2, kk3])) := fun M0 D σ B M H q =>
  h M0 σ B M H _ fun vs B1 M1 e1 d1 p1 => by
    have dM : Dj B1 M := fun a u z => by
      have w := d1 a u z
      cases hm : M a with
      | none => rfl
      | some o => rw [p1.ex a o hm] at w; cases w
    have K1 := holds_set (is := [i, j, l]) (H.ext e1 dM) d1 p1 rfl (fun k hk => by
      rcases List.mem_cons.mp hk with rfl | hk
      · exact hi
      · rcases List.mem_cons.mp hk with rfl | hk
        · exact hj
        · rcases List.mem_cons.mp hk with rfl | hk
          · exact hl
          · cases hk)
    have hl := p1.len
    match vs, hl with
    | [u, v, w], _ => exact ⟨u, v, w, rfl, q _ _ _ e1 K1⟩
end
end Mini

namespace Mini
open PySem PySem.Spec L2 Evl PyProof.Rows
/-! ### a dict that is written out: keys and values ints and texts -/
def kkP (kv : Key × Key) : TE × TE := (tC (kV kv.1), tC (kV kv.2))
def kkV (kv : Key × Key) : Key × V := (kv.1, kV kv.2)
theorem pairs_c {σ : L2.St} : ∀ {kvs : List (Key × Key)} {H : Hp} {Q : List (V × V) → Hp → Prop}, Q (kvs.map fun kv => (kV kv.1, kV kv.2)) H → tPairs (kvs.map kkP) σ H Q
  | [], _, _, q => q
  | kv :: kvs, H, Q, q => pairs_c (kvs := kvs) (H := H) (Q := fun ps H3 => Q ((kV kv.1, kV kv.2) :: ps) H3) q
theorem mergeK_new : ∀ {more acc : List (Key × V)}, ((acc ++ more).map (·.1)).Nodup → mergeK acc more = acc ++ more
  | [], acc, _ => by rw [List.append_nil]; rfl
  | kv :: more, acc, h => by
    have h2 : ((acc ++ [kv] ++ more).map (·.1)).Nodup := by rw [List.append_assoc]; exact h
    have hn : kv.1 ∉ acc.map (·.1) := fun z => by
      rw [List.map_append, List.nodup_append] at h
      exact h.2.2 _ z _ (List.mem_cons_self ..) rfl
    show mergeK (putK acc kv.1 kv.2) more = acc ++ (kv :: more)
    rw [putK_new hn]
    have := mergeK_new (more := more) (acc := acc ++ [kv]) h2
    rw [List.append_assoc] at this
    exact this
theorem sv_disp {G : Gm} {kvs : List (Key × Key)} {f : Key → PyData} (hn : (kvs.map (·.1)).Nodup) (h15 : kvs.length ≤ 15) (hf : ∀ kv ∈ kvs, f kv.1 = keyD kv.2) : Sv (tDisp (kvs.map kkP)) G (isDf (kvs.map (·.1)) f) := fun M0 σ B M H Q q p hp => by
  refine pairs_c ?_
  refine ⟨upd_same, kvs.map kkV, by rw [List.map_map]; rfl, by rw [List.length_map]; exact h15, ?_⟩
  have e : mergeK [] (kvs.map kkV) = kvs.map kkV := mergeK_new (acc := []) (by
    rw [List.nil_append, List.map_map]
    exact hn)
  rw [e, upd_upd, upd_new hp]
  refine q _ _ (ex_new hp) (dj_new H.dj hp) ⟨p, kvs.map kkV, rfl, upd_same, by rw [List.map_map]; rfl, fun x hx => ?_⟩
  obtain ⟨kv, hkv, rfl⟩ := List.mem_map.mp hx
  show Dq _ (kV kv.2) (f kv.1)
  rw [hf kv hkv]
  cases kv.2 with
  | inl i => exact .int i
  | inr z => exact .str z
/-- [y for target in a tuple if b] -/
theorem svl_lcGT {K : PySem.W.Frag} {tl te : TE} {tt : TT} {G : Gm} {g : TG} {js : List Nat} {ds : List PyData} {vs : List Nat} (h : Sv tl G (isD (.tuple ds))) (fd : PyData → Gm → Gm) (b : PyData → Bool) (y : PyData → PyData) (hz : ds.length < 10000000) (hg : ∀ d ∈ ds, Tg G.length js g (isD d) (fd d)) (hjs : ∀ j ∈ js, j ∈ vs) (ht : ∀ d ∈ ds, St' tt (fd d (wipeG G vs)) (b d)) (he : ∀ d ∈ ds, b d = true → Sv te (fd d (wipeG G vs)) (isD (y d))) :
    Svl (tLc (iTup K tl) g tt te vs) G ((ds.filter b).map y) := fun M0 σ B M H Q q => h M0 σ B M H _ fun v B1 e1 dd1 p1 => by
  obtain ⟨a, us, rfl, hh, q1⟩ := dq_tup p1
  have hlen := DqAll_len q1
  let es : Nat → List PyData := fun i => ((ds.take i).filter b).map y
  refine ⟨a, rfl, ⟨us, st_of (jn_B dd1 hh)⟩, fun Dl hD => ?_⟩
  have hM := (jn_free hD).2
  have hl : ∀ i, (es i).length ≤ i := fun i => by
    show (((ds.take i).filter b).map y).length ≤ i
    rw [List.length_map]
    have := List.length_filter_le b (ds.take i)
    rw [List.length_take] at this
    omega
  refine lc_tup (xs := us) (Pvc B1 M Dl es) ⟨B1, [], by rw [upd_own], Ex.refl B1, dj_own dd1 (jn_free hD).1, .nil⟩ (fun i H' _ p => ?_) (fun i x H' hx p => ?_) (fun H' p => ?_)
  · obtain ⟨B', acc, rfl, e, dj, _⟩ := p
    exact st_of (jn_B dj (e _ _ hh))
  · obtain ⟨B', acc, rfl, e, dj, ha⟩ := p
    obtain ⟨d, hd, px⟩ := DqAll_getV q1 hx
    have hi := (List.getElem?_eq_some_iff.mp hd).1
    have hm := List.mem_of_getElem? hd
    exact lc_turnG (H.ext e1 dd1) hM e dj ha (by have := hl i; rw [sizeLine_eq]; omega) (Dq_ex e d x px) (hg d hm) hjs (ht d hm) (he d hm) (take_filter b y ds i d hd)
  · rw [hlen] at p
    have ee : es ds.length = (ds.filter b).map y := by show ((ds.take ds.length).filter b).map y = _; rw [List.take_length]
    exact lc_end hM (Ex.refl _) (fun p vs B' e dj hf hv => by rw [ee] at hv; exact q p vs B' (e1.trans e) dj hf hv) H' p
theorem svl_lcGTm {K : PySem.W.Frag} {tl te : TE} {G : Gm} {g : TG} {js : List Nat} {ds : List PyData} {vs : List Nat} (h : Sv tl G (isD (.tuple ds))) (fd : PyData → Gm → Gm) (y : PyData → PyData) (hz : ds.length < 10000000) (hg : ∀ d ∈ ds, Tg G.length js g (isD d) (fd d)) (hjs : ∀ j ∈ js, j ∈ vs) (he : ∀ d ∈ ds, Sv te (fd d (wipeG G vs)) (isD (y d))) :
    Svl (tLc (iTup K tl) g tYes te vs) G (ds.map y) := by
  have z := svl_lcGT (K := K) (vs := vs) h fd (fun _ => true) y hz hg hjs (fun _ _ => st_yes) (fun d hd _ => he d hd)
  rw [List.filter_eq_self.mpr (fun _ _ => rfl)] at z
  exact z
end Mini

namespace ZL
open PySem PySem.Spec
open Sem (wp)
abbrev IsZipO (h : Heap) (z TI TO : Addr) (f0 : Value) (f : Bool) : Prop :=
  h.get? z = some { cls := .type "zip", dict := none, data := .fields #[f0, .bool f, .bool false, .ref TI, .ref TO], slots := #[] }
section
variable {prog : Program} {w : World} {A : Around} {E : Value → Shared → Prop} {s : Shared} {z TI TO i1 i2 i3 T : Addr} {oT : Obj} {f : Bool} {fp1 fp2 fp3 : List Addr} {n1 n2 n3 i : Nat} {P1 P2 P3 : Nat → Value → Prop} {St1 St2 St3 : Nat → Heap → Prop} {a1 a2 a3 : Value}
theorem alive_of {a : Addr} {o : Obj} {Q : Option Obj → Shared → Prop} (ho : s.heap.get? a = some o) (h : Q (some o) s) : wpAny (model prog w) A (loadIfAlive a) Q E s := by
  have h' : Q (s.heap.get? a) s := by rw [ho]; exact h
  exact fun _ _ _ => h'
theorem owned_out {Q : Bool → Shared → Prop} (hz : IsZipO s.heap z TI TO (rawInt T) f) (hT : s.heap.get? T = some oT) (hQ : ∀ g0, IsZipO g0 z TI TO (rawInt T) true → Heap.SameBut z s.heap g0 → Q false { s with heap := g0 }) :
    wpAny (model prog w) A (Builtin.SmallTypes.ownedTupleIsFree (.ref z)) Q E s := by
  obtain ⟨hp, g, d, tk0, os⟩ := s
  unfold Builtin.SmallTypes.ownedTupleIsFree
  refine wpAny_bind (wpAny_field hz rfl (x := rawInt T) rfl ?_)
  show wpAny _ _ (loadIfAlive ((T : Int).toNat) >>= _) _ _ _
  rw [Int.toNat_natCast]
  refine wpAny_bind (alive_of hT ?_)
  simp only [Option.isNone_some, Bool.false_eq_true, if_false]
  refine wpAny_bind (wpAny_field hz rfl (x := .bool f) rfl ?_)
  cases f with
  | true =>
    rw [if_neg (show ¬ ((Value.bool true != Value.bool true) = true) from Bool.false_ne_true)]
    exact wpAny_pure (hQ hp hz (Heap.SameBut.refl _ _))
  | false =>
    rw [if_pos (show (Value.bool false != Value.bool true) = true from rfl)]
    refine wpAny_bind (wpAny_setField_rec hz (by simp) fun h₃ he₃ hs₃ => ?_)
    exact wpAny_pure (hQ h₃ he₃ hs₃)
theorem zipO_next_item {Q : Value → Shared → Prop} (S : ZipSep3 z TI TO i1 i2 i3 fp1 fp2 fp3) (D1 : Draws prog w A i1 fp1 n1 P1 St1) (D2 : Draws prog w A i2 fp2 n2 P2 St2) (D3 : Draws prog w A i3 fp3 n3 P3 St3)
    (hz : IsZipO s.heap z TI TO (rawInt T) f) (hT : s.heap.get? T = some oT) (hTI : IsTupOf3 s.heap TI (.ref i1) (.ref i2) (.ref i3)) (st1 : St1 i s.heap) (st2 : St2 i s.heap) (st3 : St3 i s.heap) (hlt1 : i < n1) (hlt2 : i < n2) (hlt3 : i < n3)
    (hQ : ∀ x1 x2 x3 h' tk, P1 i x1 → P2 i x2 → P3 i x3 → IsZipO h' z TI TO (rawInt T) true → St1 (i + 1) h' → St2 (i + 1) h' → St3 (i + 1) h' → IsTupOf3 h' s.heap.objs.size x1 x2 x3 → h'.objs.size = s.heap.objs.size + 1 →
      (∀ c o, c ≠ z → c ≠ i1 → c ≠ i2 → c ≠ i3 → s.heap.get? c = some o → h'.get? c = some o) → Q (.ref s.heap.objs.size) { s with heap := h', toks := tk }) :
    wpAny (model prog w) A (Builtin.«zip.__next__» ⟨[.ref z], []⟩) (fun fin s' => ∃ v, fin = .done (.ret v) ∧ Q v s') E s := by
  obtain ⟨hp, g, d, tk0, os⟩ := s
  show wpAny _ _ (field (.ref z) 2 >>= _) _ _ _
  refine wpAny_bind (wpAny_field hz rfl (x := .bool false) rfl ?_)
  show wpAny _ _ (field (.ref z) 3 >>= _) _ _ _
  refine wpAny_bind (wpAny_field hz rfl (x := .ref TI) rfl ?_)
  refine wpAny_bind (wpAny_seqItems hTI rfl ?_)
  show wpAny _ _ (Builtin.SmallTypes.ownedTupleIsFree (.ref z) >>= _) _ _ _
  refine wpAny_bind (owned_out hz hT fun g0 hz0 hs0 => ?_)
  replace hs0 : Heap.SameBut z hp g0 := hs0
  simp only [Bool.false_eq_true, if_false]
  try refine wpAny_bind ?_
  first
  | rw [List.forIn_toArray]
  | (rw [← Array.forIn_toList]; simp only [List.toList_toArray])
  | rw [← Array.forIn_toList]
  simp only [List.forIn_cons, List.forIn_nil]
  refine wpAny_bind (wpAny_bind (wpAny_holding ?_))
  show wpAny _ _ (Builtin.SmallTypes.nextOf (.ref i1) >>= _) _ _ ⟨g0, g, d, tk0, os⟩
  refine wpAny_bind (D1.item i _ _ _ hlt1 (D1.over st1 hs0 S.zf1) fun x1 p1 tk1 hx1 sn1 hp1 => wpAny_pure ?_)
  replace hp1 : Heap.SameBut i1 g0 p1 := hp1
  refine wpAny_pure ?_
  refine wpAny_bind (wpAny_bind (wpAny_holding ?_))
  show wpAny _ _ (Builtin.SmallTypes.nextOf (.ref i2) >>= _) _ _ ⟨p1, g, d, tk1, os⟩
  refine wpAny_bind (D2.item i _ _ _ hlt2 (D2.over (D2.over st2 hs0 S.zf2) hp1 S.sep1_2) fun x2 p2 tk2 hx2 sn2 hp2 => wpAny_pure ?_)
  replace hp2 : Heap.SameBut i2 p1 p2 := hp2
  refine wpAny_pure ?_
  refine wpAny_bind (wpAny_bind (wpAny_holding ?_))
  show wpAny _ _ (Builtin.SmallTypes.nextOf (.ref i3) >>= _) _ _ ⟨p2, g, d, tk2, os⟩
  refine wpAny_bind (D3.item i _ _ _ hlt3 (D3.over (D3.over (D3.over st3 hs0 S.zf3) hp1 S.sep1_3) hp2 S.sep2_3) fun x3 p3 tk3 hx3 sn3 hp3 => wpAny_pure ?_)
  replace hp3 : Heap.SameBut i3 p2 p3 := hp3
  refine wpAny_pure (wpAny_pure ?_)
  have hsz : p3.objs.size = hp.objs.size := by rw [hp3.1, hp2.1, hp1.1, hs0.1]
  have hzz : IsZipO p3 z TI TO (rawInt T) true := hp3.extBut _ _ S.zi3 (hp2.extBut _ _ S.zi2 (hp1.extBut _ _ S.zi1 hz0))
  have hkk : ∀ c o, c ≠ z → c ≠ i1 → c ≠ i2 → c ≠ i3 → hp.get? c = some o → p3.get? c = some o := fun c o cz c1 c2 c3 e => hp3.extBut _ _ c3 (hp2.extBut _ _ c2 (hp1.extBut _ _ c1 (hs0.extBut _ _ cz e)))
  have hj1 : St1 (i + 1) p3 := D1.over (D1.over sn1 hp2 S.sep2_1) hp3 S.sep3_1
  have hj2 : St2 (i + 1) p3 := D2.over sn2 hp3 S.sep3_2
  show wpAny _ _ (newTuple [x1, x2, x3] >>= _) _ _ ⟨p3, g, d, tk3, os⟩
  refine wpAny_bind (wpAny_newTuple ?_)
  refine wpAny_pure ⟨_, rfl, ?_⟩
  show Q (.ref p3.objs.size) ⟨p3.push { cls := .type "tuple", data := .seq #[x1, x2, x3] }, g, d, tk3, os⟩
  have fr : ∀ c o, p3.get? c = some o → (p3.push { cls := .type "tuple", data := .seq #[x1, x2, x3] }).get? c = some o := fun c o e => Heap.get?_push_of_some _ e
  have ht : (p3.push { cls := .type "tuple", data := .seq #[x1, x2, x3] }).get? p3.objs.size = some { cls := .type "tuple", data := .seq #[x1, x2, x3] } := Heap.get?_push_size _ rfl
  rw [hsz] at ht ⊢
  exact hQ x1 x2 x3 _ tk3 hx1 hx2 hx3 (fr _ _ hzz) (D1.frame _ _ _ hj1 fun b _ o e => fr b o e) (D2.frame _ _ _ hj2 fun b _ o e => fr b o e) (D3.frame _ _ _ sn3 fun b _ o e => fr b o e) ht (by rw [Heap.size_push, hsz]) fun c o cz c1 c2 c3 e => fr _ _ (hkk c o cz c1 c2 c3 e)
/-- the end: all three have as many items -/
theorem zipO_next_end {Q : Fin → Shared → Prop} (S : ZipSep3 z TI TO i1 i2 i3 fp1 fp2 fp3) (D1 : Draws prog w A i1 fp1 i P1 St1)
    (hz : IsZipO s.heap z TI TO (rawInt T) f) (hT : s.heap.get? T = some oT) (hTI : IsTupOf3 s.heap TI (.ref i1) (.ref i2) (.ref i3)) (st1 : St1 i s.heap)
    (hE : ∀ h' tk e, (∀ c o, c ≠ z → c ≠ i1 → s.heap.get? c = some o → h'.get? c = some o) → (∃ o, h'.get? e = some o ∧ o.cls = .type "StopIteration") → E (.ref e) { s with heap := h', toks := tk }) :
    wpAny (model prog w) A (Builtin.«zip.__next__» ⟨[.ref z], []⟩) Q E s := by
  obtain ⟨hp, g, d, tk0, os⟩ := s
  show wpAny _ _ (field (.ref z) 2 >>= _) _ _ _
  refine wpAny_bind (wpAny_field hz rfl (x := .bool false) rfl ?_)
  show wpAny _ _ (field (.ref z) 3 >>= _) _ _ _
  refine wpAny_bind (wpAny_field hz rfl (x := .ref TI) rfl ?_)
  refine wpAny_bind (wpAny_seqItems hTI rfl ?_)
  show wpAny _ _ (Builtin.SmallTypes.ownedTupleIsFree (.ref z) >>= _) _ _ _
  refine wpAny_bind (owned_out hz hT fun g0 hz0 hs0 => ?_)
  replace hs0 : Heap.SameBut z hp g0 := hs0
  simp only [Bool.false_eq_true, if_false]
  try refine wpAny_bind ?_
  first
  | rw [List.forIn_toArray]
  | (rw [← Array.forIn_toList]; simp only [List.toList_toArray])
  | rw [← Array.forIn_toList]
  simp only [List.forIn_cons, List.forIn_nil]
  refine wpAny_bind (wpAny_bind (wpAny_holding ?_))
  show wpAny _ _ (Builtin.SmallTypes.nextOf (.ref i1) >>= _) _ _ ⟨g0, g, d, tk0, os⟩
  refine wpAny_bind (D1.done ⟨g0, g, d, tk0, os⟩ _ _ (D1.over st1 hs0 S.zf1) fun q e hq he => ?_)
  replace hq : Heap.ExtBut i1 g0 q := hq
  exact hE q tk0 e (fun c o cz c1 x => hq _ _ c1 (hs0.extBut _ _ cz x)) he
/-! ### the state of such a zip while its tuples stay out -/
/-- z at i, the list at S: fresh, or with its first tuple out -/
structure ZSt (z TI TO i1 i2 i3 S : Addr) (St1 St2 St3 : Nat → Heap → Prop) (i : Nat) (h : Heap) : Prop where
  ti : IsTupOf3 h TI (.ref i1) (.ref i2) (.ref i3)
  s1 : St1 i h
  s2 : St2 i h
  s3 : St3 i h
  st : (i = 0 ∧ IsZipO h z TI TO .none false ∧ ∃ a1 a2 a3, IsTupOf3 h TO a1 a2 a3) ∨ ∃ (T : Addr) (f : Bool) (oT : Obj), IsZipO h z TI TO (rawInt T) f ∧ h.get? T = some oT ∧ T ≠ z ∧ T ≠ i1 ∧ T ≠ i2 ∧ T ≠ i3 ∧ T ≠ S
variable {L : Addr}
theorem ZSt.keep {h h' : Heap} (D1 : Draws prog w A i1 fp1 n1 P1 St1) (D2 : Draws prog w A i2 fp2 n2 P2 St2) (D3 : Draws prog w A i3 fp3 n3 P3 St3) (x : ZSt z TI TO i1 i2 i3 L St1 St2 St3 i h) (hz : z ≠ L) (hTI : TI ≠ L) (hTO : TO ≠ L) (h1 : L ∉ fp1) (h2 : L ∉ fp2) (h3 : L ∉ fp3)
    (k : ∀ b o, b ≠ L → h.get? b = some o → h'.get? b = some o) : ZSt z TI TO i1 i2 i3 L St1 St2 St3 i h' where
  ti := k _ _ hTI x.ti
  s1 := D1.frame _ _ _ x.s1 fun b hb o e => k b o (fun q => h1 (q ▸ hb)) e
  s2 := D2.frame _ _ _ x.s2 fun b hb o e => k b o (fun q => h2 (q ▸ hb)) e
  s3 := D3.frame _ _ _ x.s3 fun b hb o e => k b o (fun q => h3 (q ▸ hb)) e
  st := by
    rcases x.st with ⟨e, a, a1, a2, a3, b⟩ | ⟨T, f, oT, a, b, c1, c2, c3, c4, c5⟩
    · exact .inl ⟨e, k _ _ hz a, a1, a2, a3, k _ _ hTO b⟩
    · exact .inr ⟨T, f, oT, k _ _ hz a, k _ _ c5 b, c1, c2, c3, c4, c5⟩
theorem nxtZ {Q : Option Value → Shared → Prop} (S : ZipSep3 z TI TO i1 i2 i3 fp1 fp2 fp3) (D1 : Draws prog w A.in1 i1 fp1 n1 P1 St1) (D2 : Draws prog w A.in1 i2 fp2 n2 P2 St2) (D3 : Draws prog w A.in1 i3 fp3 n3 P3 St3)
    (x : ZSt z TI TO i1 i2 i3 L St1 St2 St3 i s.heap) (hL : L < s.heap.objs.size) (hlt1 : i < n1) (hlt2 : i < n2) (hlt3 : i < n3)
    (hQ : ∀ x1 x2 x3 h' tk, P1 i x1 → P2 i x2 → P3 i x3 → ZSt z TI TO i1 i2 i3 L St1 St2 St3 (i + 1) h' → IsTupOf3 h' s.heap.objs.size x1 x2 x3 → h'.objs.size = s.heap.objs.size + 1 →
      (∀ c o, c ≠ z → c ≠ TO → c ≠ i1 → c ≠ i2 → c ≠ i3 → s.heap.get? c = some o → h'.get? c = some o) → Q (some (.ref s.heap.objs.size)) { s with heap := h', toks := tk }) :
    wpAny (model prog w) A (pyNext (.ref z)) Q E s := by
  have l1 : i1 < s.heap.objs.size := by obtain ⟨o, ho⟩ := D1.live _ _ x.s1; exact Heap.lt_size ho
  have l2 : i2 < s.heap.objs.size := by obtain ⟨o, ho⟩ := D2.live _ _ x.s2; exact Heap.lt_size ho
  have l3 : i3 < s.heap.objs.size := by obtain ⟨o, ho⟩ := D3.live _ _ x.s3; exact Heap.lt_size ho
  rcases x.st with ⟨e, hz, a1, a2, a3, hTO⟩ | ⟨T, f, oT, hz, hT, c1, c2, c3, c4, c5⟩
  · have lz : z < s.heap.objs.size := Heap.lt_size hz
    refine wpAny_pyNext_zipD3_item S D1 D2 D3 hz x.ti hTO x.s1 x.s2 x.s3 hlt1 hlt2 hlt3 fun x1 x2 x3 h' tk y1 y2 y3 b1 b2 d1 d2 d3 b5 b6 hk => ?_
    exact hQ x1 x2 x3 h' tk y1 y2 y3 ⟨hk _ _ S.TIz S.TITO S.TIi1 S.TIi2 S.TIi3 x.ti, d1, d2, d3, .inr ⟨s.heap.objs.size, false, _, b1, b5, Nat.ne_of_gt lz, Nat.ne_of_gt l1, Nat.ne_of_gt l2, Nat.ne_of_gt l3, Nat.ne_of_gt hL⟩⟩ b5 b6 hk
  · have hTy : s.TypeIs (.ref z) "zip" := ⟨_, hz, rfl⟩
    unfold pyNext
    refine wpAny_bind (wpAny_attempt (wpAny_callSpecial?_slot (name := Str.ofString "__next__") hTy PySem.F.slot_zip_next
      (wpAny_call_entry PySem.F.slot_zip_next hTy PySem.F.entry_zip_next (zipO_next_item S D1 D2 D3 hz hT x.ti x.s1 x.s2 x.s3 hlt1 hlt2 hlt3 fun x1 x2 x3 h' tk y1 y2 y3 b1 d1 d2 d3 b5 b6 hk => wpAny_pure ?_) (PySem.F.args_zip_next_1 _))))
    exact hQ x1 x2 x3 h' tk y1 y2 y3 ⟨hk _ _ S.TIz S.TIi1 S.TIi2 S.TIi3 x.ti, d1, d2, d3, .inr ⟨T, true, oT, b1, hk _ _ c1 c2 c3 c4 hT, c1, c2, c3, c4, c5⟩⟩ b5 b6 fun c o cz _ k1 k2 k3 e => hk c o cz k1 k2 k3 e
theorem finZ {Q : Option Value → Shared → Prop} (S : ZipSep3 z TI TO i1 i2 i3 fp1 fp2 fp3) (D1 : Draws prog w A.in1 i1 fp1 i P1 St1) (D2 : Draws prog w A.in1 i2 fp2 i P2 St2) (D3 : Draws prog w A.in1 i3 fp3 i P3 St3)
    (x : ZSt z TI TO i1 i2 i3 L St1 St2 St3 i s.heap) (hQ : ∀ h' tk, (∀ c o, c ≠ z → c ≠ TO → c ≠ i1 → c ≠ i2 → c ≠ i3 → s.heap.get? c = some o → h'.get? c = some o) → Q none { s with heap := h', toks := tk }) :
    wpAny (model prog w) A (pyNext (.ref z)) Q E s := by
  rcases x.st with ⟨e, hz, a1, a2, a3, hTO⟩ | ⟨T, f, oT, hz, hT, c1, c2, c3, c4, c5⟩
  · exact wpAny_pyNext_zipD3_end S D1 D2 D3 hz x.ti hTO x.s1 x.s2 x.s3 (Nat.le_refl _) (Nat.le_refl _) (Nat.le_refl _) (.inl rfl) hQ
  · have hTy : s.TypeIs (.ref z) "zip" := ⟨_, hz, rfl⟩
    unfold pyNext
    refine wpAny_bind (wpAny_attempt (wpAny_callSpecial?_slot (name := Str.ofString "__next__") hTy PySem.F.slot_zip_next
      (wpAny_call_entry PySem.F.slot_zip_next hTy PySem.F.entry_zip_next (zipO_next_end S D1 hz hT x.ti x.s1 fun h' tk e hk he => ?_) (PySem.F.args_zip_next_1 _))))
    obtain ⟨o, ho, hc⟩ := he
    refine wpAny_bind (wpAny_isInstance (T := "StopIteration") (b := true) ⟨o, ho, hc⟩ isSubtype_stop ?_)
    exact wpAny_pure (hQ _ _ fun c o cz _ k1 _ _ e => hk c o cz k1 e)
/-- the tuples made so far -/
structure MadeZ (P1 P2 P3 : Nat → Value → Prop) (lo : Addr) (h : Heap) (as : List Addr) : Prop where
  rise : as.Pairwise (· < ·)
  above : ∀ a ∈ as, lo ≤ a
  pairs : ∀ (j : Nat) (a : Addr), as[j]? = some a → ∃ x y u, P1 j x ∧ P2 j y ∧ P3 j u ∧ IsTupOf3 h a x y u
theorem MadeZ.there {lo : Addr} {h : Heap} {as : List Addr} (g : MadeZ P1 P2 P3 lo h as) {a : Addr} (ha : a ∈ as) : a < h.objs.size := by
  obtain ⟨j, hj⟩ := List.mem_iff_getElem?.mp ha
  obtain ⟨_, _, _, _, _, _, e⟩ := g.pairs j a hj
  exact Heap.lt_size e
theorem loopZ {n : Nat} {R : Result → Shared → Prop} {lo : Addr} (S : ZipSep3 z TI TO i1 i2 i3 fp1 fp2 fp3) (D1 : Draws prog w A.in1.in1 i1 fp1 n P1 St1) (D2 : Draws prog w A.in1.in1 i2 fp2 n P2 St2) (D3 : Draws prog w A.in1.in1 i3 fp3 n P3 St3)
    (hz : z ≠ L) (hTI : TI ≠ L) (hTO : TO ≠ L) (h1 : L ∉ fp1) (h2 : L ∉ fp2) (h3 : L ∉ fp3) (lz : z < lo) (lTO : TO < lo) (li1 : i1 < lo) (li2 : i2 < lo) (li3 : i3 < lo) (lL : L < lo) (hn : n ≤ sizeLine) (res : Value) {h₁ : Heap}
    (hR : ∀ h' tk acc c as, (∀ b o, b ≠ L → b ≠ z → b ≠ TO → b ≠ i1 → b ≠ i2 → b ≠ i3 → h₁.get? b = some o → h'.get? b = some o) → h'.get? L = some { cls := .type "list", dict := none, data := .seq acc c, slots := #[] } → as.length = n → MadeZ P1 P2 P3 lo h' as →
      acc.toList = as.map Value.ref → R (.ok (.ret res)) { s with heap := h', toks := tk }) :
    ∀ (k i : Nat) (h : Heap) (tk c : Nat) (acc : Array Value) (as : List Addr), n - i = k → i ≤ n → ZSt z TI TO i1 i2 i3 L St1 St2 St3 i h → (∀ b o, b ≠ L → b ≠ z → b ≠ TO → b ≠ i1 → b ≠ i2 → b ≠ i3 → h₁.get? b = some o → h.get? b = some o) →
      h.get? L = some { cls := .type "list", dict := none, data := .seq acc c, slots := #[] } → acc.toList = as.map Value.ref → as.length = i → MadeZ P1 P2 P3 lo h as → lo ≤ h.objs.size →
      codeAny (model prog w) A (.builtin "list.extend.loop" ⟨[.ref L, .ref z, res], []⟩) R { s with heap := h, toks := tk } := by
  intro k
  have nei1 : L ≠ i1 := fun e => h1 (e ▸ S.mem1)
  have nei2 : L ≠ i2 := fun e => h2 (e ▸ S.mem2)
  have nei3 : L ≠ i3 := fun e => h3 (e ▸ S.mem3)
  induction k with
  | zero =>
    intro i h tk c acc as hk hi hst hkeep hS hacc hal hG hIs
    obtain rfl : i = n := by omega
    refine codeAny_builtin PySem.F.entry_extend_loop ?_
    rw [Around.under_plainId PySem.F.plain_extend_loop _]
    show wpAny _ A.in1 (pyNext (.ref z) >>= _) _ _ _
    refine wpAny_bind (finZ (s := { s with heap := h, toks := tk }) (A := A.in1) S D1 D2 D3 hst fun h' tk' he => ?_)
    dsimp only at he
    have up : ∀ b o, lo ≤ b → h.get? b = some o → h'.get? b = some o := fun b o hb e => he b o (Nat.ne_of_gt (Nat.lt_of_lt_of_le lz hb)) (Nat.ne_of_gt (Nat.lt_of_lt_of_le lTO hb)) (Nat.ne_of_gt (Nat.lt_of_lt_of_le li1 hb)) (Nat.ne_of_gt (Nat.lt_of_lt_of_le li2 hb)) (Nat.ne_of_gt (Nat.lt_of_lt_of_le li3 hb)) e
    refine wpAny_pure (hR h' tk' acc c as (fun b o k1 k2 k3 k4 k5 k6 e => he b o k2 k3 k4 k5 k6 (hkeep b o k1 k2 k3 k4 k5 k6 e)) (he L _ hz.symm hTO.symm nei1 nei2 nei3 hS) hal ⟨hG.rise, hG.above, fun j a hj => ?_⟩ hacc)
    obtain ⟨x, y, u, e1, e2, e3, e4⟩ := hG.pairs j a hj
    exact ⟨x, y, u, e1, e2, e3, up a _ (hG.above a (List.mem_of_getElem? hj)) e4⟩
  | succ k ih =>
    intro i h tk c acc as hk hi hst hkeep hS hacc hal hG hIs
    have hlt : i < n := by omega
    have hsz : acc.size = i := by rw [← Array.length_toList, hacc, List.length_map, hal]
    refine codeAny_builtin PySem.F.entry_extend_loop ?_
    rw [Around.under_plainId PySem.F.plain_extend_loop _]
    show wpAny _ A.in1 (pyNext (.ref z) >>= _) _ _ _
    refine wpAny_bind (nxtZ (s := { s with heap := h, toks := tk }) (A := A.in1) S D1 D2 D3 hst (Heap.lt_size hS) hlt hlt hlt fun x1 x2 x3 h' tk' y1 y2 y3 hst' ht hz' hkp => ?_)
    dsimp only at ht hz' hkp ⊢
    have hS' := hkp L _ hz.symm hTO.symm nei1 nei2 nei3 hS
    have up : ∀ b o, b ≠ L → h'.get? b = some o → (h'.update L (Obj.mapSeq (·.push (Value.ref h.objs.size)))).get? b = some o := fun b o hb e => (Heap.get?_update_other _ _ (Ne.symm hb)).trans e
    have hSl : L < h.objs.size := Heap.lt_size hS
    have upl : ∀ b o, lo ≤ b → h.get? b = some o → h'.get? b = some o := fun b o hb e => hkp b o (Nat.ne_of_gt (Nat.lt_of_lt_of_le lz hb)) (Nat.ne_of_gt (Nat.lt_of_lt_of_le lTO hb)) (Nat.ne_of_gt (Nat.lt_of_lt_of_le li1 hb)) (Nat.ne_of_gt (Nat.lt_of_lt_of_le li2 hb)) (Nat.ne_of_gt (Nat.lt_of_lt_of_le li3 hb)) e
    show wpAny _ A.in1 (updateSeq L (·.push (Value.ref h.objs.size)) >>= _) _ _ _
    refine wpAny_bind ?_
    refine wpAny_updateSeq hS' rfl (wpAny_pure ⟨plainId_quiet PySem.F.plain_extend_loop _, ih (i + 1) _ tk' _ (acc.push (Value.ref h.objs.size)) (as ++ [h.objs.size]) (by omega) hlt (hst'.keep D1 D2 D3 hz hTI hTO h1 h2 h3 up)
      (fun b o k1 k2 k3 k4 k5 k6 e => up b o k1 (hkp b o k2 k3 k4 k5 k6 (hkeep b o k1 k2 k3 k4 k5 k6 e))) (Heap.get?_update_self _ hS' rfl) (by rw [Array.toList_push, hacc, List.map_append]; rfl) (by rw [List.length_append, hal]; rfl) ⟨?_, ?_, ?_⟩ ?_⟩) (by rw [hsz]; omega) (by show (acc.push (Value.ref h.objs.size)).size ≤ sizeLine + 1; rw [Array.size_push, hsz]; omega)
    · refine List.pairwise_append.mpr ⟨hG.rise, List.pairwise_singleton _ _, fun a ha b hb => ?_⟩
      rw [List.mem_singleton.mp hb]
      exact hG.there ha
    · intro a ha
      rcases List.mem_append.mp ha with ha | ha
      · exact hG.above a ha
      · rw [List.mem_singleton.mp ha]; exact hIs
    · intro j b hj
      rcases Nat.lt_trichotomy j as.length with w1 | w1 | w1
      · rw [List.getElem?_append_left w1] at hj
        obtain ⟨x, y, u, e1, e2, e3, e4⟩ := hG.pairs j b hj
        have hb := hG.above b (List.mem_of_getElem? hj)
        exact ⟨x, y, u, e1, e2, e3, up b _ (Nat.ne_of_gt (Nat.lt_of_lt_of_le lL hb)) (upl b _ hb e4)⟩
      · subst w1
        have hb : h.objs.size = b := by simpa using hj
        subst hb
        subst hal
        exact ⟨x1, x2, x3, y1, y2, y3, up _ _ (Nat.ne_of_gt hSl) ht⟩
      · have hnone : (as ++ [h.objs.size])[j]? = none := List.getElem?_eq_none (by rw [List.length_append, List.length_singleton]; omega)
        rw [hnone] at hj; cases hj
    · have e : (h'.update L (Obj.mapSeq (·.push (Value.ref h.objs.size)))).get? h.objs.size = _ := up _ _ (Nat.ne_of_gt hSl) ht
      exact Nat.le_of_lt (Nat.lt_of_le_of_lt hIs (Heap.lt_size e))
end
theorem nolen_zip : typeLookup (.type "zip") "__len__" = pure none := by rw [typeLookup_type, builtinLookup_eq_fast]; kernel_rfl
theorem nohint_zip : typeLookup (.type "zip") "__length_hint__" = pure none := by rw [typeLookup_type, builtinLookup_eq_fast]; kernel_rfl
section
variable {prog : Program} {w : World} {A : Around} {E : Value → Shared → Prop} {s : Shared} {z TI TO i1 i2 i3 L : Addr} {fp1 fp2 fp3 : List Addr} {n : Nat} {P1 P2 P3 : Nat → Value → Prop} {St1 St2 St3 : Nat → Heap → Prop}
theorem hint_zip {f0 : Value} {f : Bool} (hz : IsZipO s.heap z TI TO f0 f) {Q : Bool → Shared → Prop} (h : Q true s) : wpAny (model prog w) A (Builtin.List.listLengthHint (.ref z)) Q E s := by
  have hT : s.TypeIs (.ref z) "zip" := ⟨_, hz, rfl⟩
  unfold Builtin.List.listLengthHint
  refine wpAny_bind (wpAny_specialOf hT nolen_zip ?_)
  show wpAny _ A (specialOf (Value.ref z) (Str.ofString "__length_hint__") >>= _) _ _ _
  refine wpAny_bind (wpAny_specialOf hT nohint_zip ?_)
  exact wpAny_pure h
theorem extZ {R : Result → Shared → Prop} (S : ZipSep3 z TI TO i1 i2 i3 fp1 fp2 fp3) (D1 : Draws prog w A.in1.in1 i1 fp1 n P1 St1) (D2 : Draws prog w A.in1.in1 i2 fp2 n P2 St2) (D3 : Draws prog w A.in1.in1 i3 fp3 n P3 St3)
    (hz : z ≠ L) (hTI : TI ≠ L) (hTO : TO ≠ L) (h1 : L ∉ fp1) (h2 : L ∉ fp2) (h3 : L ∉ fp3) (hn : n ≤ sizeLine) (res : Value) (c₀ : Nat) (hS : s.heap.get? L = some { cls := .type "list", data := .seq #[] c₀ })
    (hf : IsZipO s.heap z TI TO .none false) (ho : ∃ a1 a2 a3, IsTupOf3 s.heap TO a1 a2 a3) (ti : IsTupOf3 s.heap TI (.ref i1) (.ref i2) (.ref i3)) (s1 : St1 0 s.heap) (s2 : St2 0 s.heap) (s3 : St3 0 s.heap)
    (hR : ∀ h' tk acc c as, (∀ b o, b ≠ L → b ≠ z → b ≠ TO → b ≠ i1 → b ≠ i2 → b ≠ i3 → s.heap.get? b = some o → h'.get? b = some o) → h'.get? L = some { cls := .type "list", dict := none, data := .seq acc c, slots := #[] } → as.length = n → MadeZ P1 P2 P3 s.heap.objs.size h' as →
      acc.toList = as.map Value.ref → R (.ok (.ret res)) { s with heap := h', toks := tk }) :
    wpAny (model prog w) A.in1 (Builtin.List.listExtendWith (.ref L) (.ref z) res)
      (fun fin s' => match fin with | .done f => R (.ok f) s' | .again c' => c'.quiet = true ∧ codeAny (model prog w) A c' R s') (fun e s' => R (.error e) s') s := by
  have hT : s.TypeIs (.ref z) "zip" := ⟨_, hf, rfl⟩
  have l1 : i1 < s.heap.objs.size := by obtain ⟨o, ho⟩ := D1.live _ _ s1; exact Heap.lt_size ho
  have l2 : i2 < s.heap.objs.size := by obtain ⟨o, ho⟩ := D2.live _ _ s2; exact Heap.lt_size ho
  have l3 : i3 < s.heap.objs.size := by obtain ⟨o, ho⟩ := D3.live _ _ s3; exact Heap.lt_size ho
  obtain ⟨a1, a2, a3, hO⟩ := ho
  have x0 : ZSt z TI TO i1 i2 i3 L St1 St2 St3 0 s.heap := ⟨ti, s1, s2, s3, .inl ⟨rfl, hf, a1, a2, a3, hO⟩⟩
  unfold Builtin.List.listExtendWith
  refine wpAny_bind (wpAny_typeOf hT ?_)
  have e1 : Builtin.List.listSameRef (.ref L) (.ref z) = false := by simp [Builtin.List.listSameRef, hz.symm]
  have e2 : (Value.type "zip" == Value.type "list") = false := by decide
  have e3 : (Value.type "zip" == Value.type "tuple") = false := by decide
  simp only [e1, e2, e3, Bool.or_false, Bool.false_eq_true, if_false]
  refine wpAny_bind (wpAny_pyIter_zip hf ?_)
  refine wpAny_bind (wpAny_holding (hint_zip hf ?_))
  show wpAny _ A.in1 (rule "list.extend.makes-room" >>= fun _ => Builtin.List.listTouch (.ref L) >>= fun _ => again (.builtin "list.extend.loop" ⟨[.ref L, .ref z, res], []⟩)) _ _ _
  refine wpAny_bind (wpAny_rule ?_)
  refine wpAny_bind ?_
  show wpAny _ _ (updateSeq L (·.push .none) >>= fun _ => updateSeq L (·.pop)) _ _ _
  refine wpAny_bind (wpAny_updateSeq hS rfl ?_)
  have hS₂ := Heap.get?_update_self (Obj.mapSeq (·.push Value.none)) hS rfl
  refine wpAny_updateSeq (hz := by seq_fits) hS₂ rfl ?_
  have hS₃ := Heap.get?_update_self (Obj.mapSeq (·.pop)) hS₂ rfl
  have oth : ∀ b o, b ≠ L → s.heap.get? b = some o → ((s.heap.update L (Obj.mapSeq (·.push Value.none))).update L (Obj.mapSeq (·.pop))).get? b = some o := fun b o hb e => (Heap.get?_update_other _ _ (Ne.symm hb)).trans ((Heap.get?_update_other _ _ (Ne.symm hb)).trans e)
  refine wpAny_pure ⟨plainId_quiet PySem.F.plain_extend_loop _, ?_⟩
  exact loopZ (s := s) (h₁ := s.heap) (lo := s.heap.objs.size) S D1 D2 D3 hz hTI hTO h1 h2 h3 (Heap.lt_size hf) (Heap.lt_size hO) l1 l2 l3 (Heap.lt_size hS) hn res hR n 0 _ _ _ _ [] (Nat.sub_zero _) (Nat.zero_le _) (x0.keep D1 D2 D3 hz hTI hTO h1 h2 h3 oth) (fun b o hb _ _ _ _ _ e => oth b o hb e) hS₃ rfl rfl
    ⟨List.Pairwise.nil, (fun _ ha => nomatch ha), (fun j a hj => by simp at hj)⟩ (Nat.le_of_eq (by rw [Heap.size_after_update, Heap.size_after_update]))
theorem init_zip {R : Result → Shared → Prop} (S : ZipSep3 z TI TO i1 i2 i3 fp1 fp2 fp3) (D1 : Draws prog w A.in1.in1 i1 fp1 n P1 St1) (D2 : Draws prog w A.in1.in1 i2 fp2 n P2 St2) (D3 : Draws prog w A.in1.in1 i3 fp3 n P3 St3)
    (hz : z ≠ L) (hTI : TI ≠ L) (hTO : TO ≠ L) (h1 : L ∉ fp1) (h2 : L ∉ fp2) (h3 : L ∉ fp3) (hn : n ≤ sizeLine) (hS : s.heap.get? L = some { cls := .type "list", data := .seq #[] })
    (hf : IsZipO s.heap z TI TO .none false) (ho : ∃ a1 a2 a3, IsTupOf3 s.heap TO a1 a2 a3) (ti : IsTupOf3 s.heap TI (.ref i1) (.ref i2) (.ref i3)) (s1 : St1 0 s.heap) (s2 : St2 0 s.heap) (s3 : St3 0 s.heap)
    (hR : ∀ h' tk acc c as, (∀ b o, b ≠ L → b ≠ z → b ≠ TO → b ≠ i1 → b ≠ i2 → b ≠ i3 → s.heap.get? b = some o → h'.get? b = some o) → h'.get? L = some { cls := .type "list", dict := none, data := .seq acc c, slots := #[] } → as.length = n → MadeZ P1 P2 P3 s.heap.objs.size h' as →
      acc.toList = as.map Value.ref → R (.ok (.ret .none)) { s with heap := h', toks := tk }) :
    wpAny (model prog w) A.in1 (Builtin.«list.__init__» ⟨[.ref L, .ref z], []⟩)
      (fun fin s' => match fin with | .done f => R (.ok f) s' | .again c' => c'.quiet = true ∧ codeAny (model prog w) A c' R s') (fun e s' => R (.error e) s') s := by
  show wpAny _ _ (do let old ← Builtin.List.listItems (.ref L); Builtin.List.listUpdate (.ref L) (fun _ => #[]); letGo old.toList.reverse; Builtin.List.listExtendWith (.ref L) (.ref z) .none) _ _ s
  refine wpAny_bind ?_
  unfold Builtin.List.listItems
  refine wpAny_bind (wpAny_seqItems hS rfl (wpAny_pure ?_))
  show wpAny _ _ (updateSeq L (fun _ => #[]) >>= fun _ => letGo (#[] : Array Value).toList.reverse >>= fun _ => Builtin.List.listExtendWith (.ref L) (.ref z) .none) _ _ s
  refine wpAny_bind (wpAny_updateSeq hS rfl ?_)
  have hS₂ := Heap.get?_update_self (Obj.mapSeq (fun _ => (#[] : Array Value))) hS rfl
  have oth : ∀ b o, b ≠ L → s.heap.get? b = some o → (s.heap.update L (Obj.mapSeq (fun _ => (#[] : Array Value)))).get? b = some o :=
    fun b o hb e => (Heap.get?_update_other _ _ (Ne.symm hb)).trans e
  refine wpAny_bind (wpAny_letGo ?_)
  obtain ⟨a1, a2, a3, hO⟩ := ho
  refine extZ S D1 D2 D3 hz hTI hTO h1 h2 h3 hn .none _ hS₂ (oth _ _ hz hf) ⟨a1, a2, a3, oth _ _ hTO hO⟩ (oth _ _ hTI ti) (D1.frame _ _ _ s1 fun b hb o e => oth b o (fun q => h1 (q ▸ hb)) e) (D2.frame _ _ _ s2 fun b hb o e => oth b o (fun q => h2 (q ▸ hb)) e) (D3.frame _ _ _ s3 fun b hb o e => oth b o (fun q => h3 (q ▸ hb)) e)
    fun h' tk acc c as hk hL hl hG hacc => ?_
  refine hR h' tk acc c as (fun b o k1 k2 k3 k4 k5 k6 e => hk b o k1 k2 k3 k4 k5 k6 (oth b o k1 e)) hL hl ?_ hacc
  have e : (s.heap.update L (Obj.mapSeq (fun _ => (#[] : Array Value)))).objs.size = s.heap.objs.size := Heap.size_after_update ..
  exact ⟨hG.rise, fun a ha => by have := hG.above a ha; exact e ▸ this, hG.pairs⟩
end
section
variable {prog : Program} {w : World} {A : Around} {E : Value → Shared → Prop} {s : Shared}
theorem notIn3 {N j i : Nat} {l : Addr} (h : l < N) (hj : j ≠ i) : N + j ∉ [N + i, l] := fun hm => by
  rcases List.mem_cons.mp hm with e | hm
  · have e' : (N + j : Nat) = N + i := e
    omega
  · exact absurd h (Nat.not_lt.mpr (Nat.le_trans (Nat.le_add_right N j) (Nat.le_of_eq (List.mem_singleton.mp hm))))
theorem sep3 {N : Nat} {l1 l2 l3 : Addr} (h1 : l1 < N) (h2 : l2 < N) (h3 : l3 < N) : ZipSep3 (N + 5) (N + 3) (N + 4) N (N + 1) (N + 2) [N, l1] [N + 1, l2] [N + 2, l3] :=
  { TIz := show (N + 3 : Nat) ≠ N + 5 by omega, TOz := show (N + 4 : Nat) ≠ N + 5 by omega, TITO := show (N + 3 : Nat) ≠ N + 4 by omega,
    TIi1 := show (N + 3 : Nat) ≠ N by omega, mem1 := List.mem_cons_self .., zf1 := notIn3 (i := 0) h1 (by omega), Tf1 := notIn3 (i := 0) h1 (by omega),
    TIi2 := show (N + 3 : Nat) ≠ N + 1 by omega, mem2 := List.mem_cons_self .., zf2 := notIn3 (i := 1) h2 (by omega), Tf2 := notIn3 (i := 1) h2 (by omega),
    TIi3 := show (N + 3 : Nat) ≠ N + 2 by omega, mem3 := List.mem_cons_self .., zf3 := notIn3 (i := 2) h3 (by omega), Tf3 := notIn3 (i := 2) h3 (by omega),
    sep1_2 := notIn3 (j := 0) (i := 1) h2 (by omega), sep1_3 := notIn3 (j := 0) (i := 2) h3 (by omega), sep2_1 := notIn3 (j := 1) (i := 0) h1 (by omega),
    sep2_3 := notIn3 (j := 1) (i := 2) h3 (by omega), sep3_1 := notIn3 (j := 2) (i := 0) h1 (by omega), sep3_2 := notIn3 (j := 2) (i := 1) h2 (by omega) }
/-- zip(xs, ys, us), and list(..) of it -/
theorem call_list_zip3 {Q : Value → Shared → Prop} {l1 l2 l3 : Addr} {x1 x2 x3 : Array Value} {n : Nat} (hh : A.handled = none) (b1 : s.heap.IsList l1 x1) (b2 : s.heap.IsList l2 x2) (b3 : s.heap.IsList l3 x3) (e1 : x1.size = n) (e2 : x2.size = n) (e3 : x3.size = n) (hn : n ≤ sizeLine)
    (hQ : ∀ h' tk acc c as l, (∀ b o, s.heap.get? b = some o → h'.get? b = some o) → h'.get? l = some { cls := .type "list", dict := none, data := .seq acc c, slots := #[] } → s.heap.objs.size ≤ l → l ∉ as → as.length = n → MadeZ (fun i v => x1[i]? = some v) (fun i v => x2[i]? = some v) (fun i v => x3[i]? = some v) s.heap.objs.size h' as →
      acc.toList = as.map Value.ref → Q (.ref l) { s with heap := h', toks := tk }) :
    wpAny (model prog w) A (call (.type "zip") [.ref l1, .ref l2, .ref l3]) (fun v s1 => wpAny (model prog w) A (call (.type "list") [v]) Q E s1) E s := by
  have q1 : l1 < s.heap.objs.size := by obtain ⟨o, ho, _⟩ := b1; exact Heap.lt_size ho
  have q2 : l2 < s.heap.objs.size := by obtain ⟨o, ho, _⟩ := b2; exact Heap.lt_size ho
  have q3 : l3 < s.heap.objs.size := by obtain ⟨o, ho, _⟩ := b3; exact Heap.lt_size ho
  refine zip_begins3 (begins_list l1 x1) (begins_list l2 x2) (begins_list l3 x3) b1 b2 b3 fun h hz hTI hTO g1 g2 g3 hsz hk => ?_
  have S := sep3 (N := s.heap.objs.size) q1 q2 q3
  have hh1 : A.in1.in1.in1.handled = none := hh
  have hsz : (h.objs.size : Nat) = s.heap.objs.size + 6 := hsz
  refine callType_codes (Q₁ := fun obj s₁ => obj = .ref h.objs.size ∧ s₁ = { s with heap := h.push { cls := .type "list", data := .seq #[] } }) PySem.F.called_list (PySem.F.typeCall_list_1 _) PySem.F.entry_list_init
    (code_list_new _ ⟨rfl, rfl⟩) fun obj s₁ w₁ => ?_
  obtain ⟨rfl, rfl⟩ := w₁
  have hS : (h.push { cls := .type "list", data := .seq #[] }).get? h.objs.size = some { cls := .type "list", data := .seq #[] } := Heap.get?_push_size _ rfl
  have up : ∀ b o, h.get? b = some o → (h.push { cls := .type "list", data := .seq #[] }).get? b = some o := fun b o e => Heap.get?_push_of_some _ e
  have nl : ∀ {j : Nat}, j < 6 → (s.heap.objs.size + j : Nat) ≠ h.objs.size := fun hj => by omega
  have nf : ∀ {j : Nat} {l : Addr}, l < s.heap.objs.size → j < 6 → h.objs.size ∉ [s.heap.objs.size + j, l] := fun {j l} hl hj hm => by
    rcases List.mem_cons.mp hm with e | hm
    · exact nl hj (show (s.heap.objs.size + j : Nat) = h.objs.size from e.symm)
    · exact absurd hl (Nat.not_lt.mpr (Nat.le_trans (by omega : s.heap.objs.size ≤ h.objs.size) (Nat.le_of_eq (List.mem_singleton.mp hm))))
  have j1 : (h.push { cls := .type "list", data := .seq #[] }).IsListIter s.heap.objs.size l1 0 := ⟨_, up _ _ g1, rfl, rfl⟩
  have j2 : (h.push { cls := .type "list", data := .seq #[] }).IsListIter (s.heap.objs.size + 1) l2 0 := ⟨_, up _ _ g2, rfl, rfl⟩
  have j3 : (h.push { cls := .type "list", data := .seq #[] }).IsListIter (s.heap.objs.size + 2) l3 0 := ⟨_, up _ _ g3, rfl, rfl⟩
  have d1 : Draws prog w A.in1.in1.in1 s.heap.objs.size [s.heap.objs.size, l1] n (fun i v => x1[i]? = some v) (fun i h => h.IsListIter s.heap.objs.size l1 i ∧ h.IsList l1 x1) := by have := Draws.list (prog := prog) (w := w) hh1 s.heap.objs.size l1 (Nat.ne_of_lt q1) x1; rw [e1] at this; exact this
  have d2 : Draws prog w A.in1.in1.in1 (s.heap.objs.size + 1) [s.heap.objs.size + 1, l2] n (fun i v => x2[i]? = some v) (fun i h => h.IsListIter (s.heap.objs.size + 1) l2 i ∧ h.IsList l2 x2) := by have := Draws.list (prog := prog) (w := w) hh1 (s.heap.objs.size + 1) l2 (Nat.ne_of_lt (Nat.lt_succ_of_lt q2)) x2; rw [e2] at this; exact this
  have d3 : Draws prog w A.in1.in1.in1 (s.heap.objs.size + 2) [s.heap.objs.size + 2, l3] n (fun i v => x3[i]? = some v) (fun i h => h.IsListIter (s.heap.objs.size + 2) l3 i ∧ h.IsList l3 x3) := by have := Draws.list (prog := prog) (w := w) hh1 (s.heap.objs.size + 2) l3 (Nat.ne_of_lt (Nat.lt_succ_of_lt (Nat.lt_succ_of_lt q3))) x3; rw [e3] at this; exact this
  have hps : ((h.push { cls := .type "list", data := .seq #[] }).objs.size : Nat) = h.objs.size + 1 := Heap.size_push ..
  refine ⟨⟨_, hS, rfl⟩, PySem.F.args_list_init_2 _ _, ?_⟩
  refine init_zip (A := A.in1) (n := n) (L := h.objs.size) S d1 d2 d3
    (nl (j := 5) (by omega)) (nl (j := 3) (by omega)) (nl (j := 4) (by omega)) (nf (j := 0) q1 (by omega)) (nf (j := 1) q2 (by omega)) (nf (j := 2) q3 (by omega)) hn hS (up _ _ hz) ⟨_, _, _, up _ _ hTO⟩ (up _ _ hTI)
    ⟨j1, (b1.at fun o e => up _ _ (hk _ _ e))⟩ ⟨j2, (b2.at fun o e => up _ _ (hk _ _ e))⟩ ⟨j3, (b3.at fun o e => up _ _ (hk _ _ e))⟩ fun h' tk acc c as hk' hL hl hG hacc => ?_
  refine ⟨rfl, hQ h' tk acc c as h.objs.size (fun b o e => ?_) hL (by omega) (fun hm => ?_) hl ⟨hG.rise, fun a ha => Nat.le_trans (by rw [hps]; omega) (hG.above a ha), hG.pairs⟩ hacc⟩
  · have lb : b < s.heap.objs.size := Heap.lt_size e
    have ne : ∀ {j : Nat}, b ≠ s.heap.objs.size + j := fun {j} => Nat.ne_of_lt (Nat.lt_of_lt_of_le lb (Nat.le_add_right _ _))
    exact hk' b o (Nat.ne_of_lt (Nat.lt_of_lt_of_le lb (by omega : s.heap.objs.size ≤ h.objs.size))) (ne (j := 5)) (ne (j := 4)) (ne (j := 0)) (ne (j := 1)) (ne (j := 2)) (up _ _ (hk _ _ e))
  · have := hG.above _ hm
    rw [hps] at this
    exact Nat.lt_irrefl _ this
end
end ZL

/-! ### list(zip(xs, ys, us)), three lists of one length -/
namespace Mini
open PySem PySem.Spec L2 Evl PyProof.Rows
def zip3L : List V → List V → List V → List (List V)
  | x :: xs, y :: ys, u :: us => [x, y, u] :: zip3L xs ys us
  | _, _, _ => []
theorem zip3L_len : ∀ {xs ys us : List V}, ys.length = xs.length → us.length = xs.length → (zip3L xs ys us).length = xs.length
  | [], _, _, _, _ => rfl
  | x :: xs, [], _, h, _ => by simp at h
  | x :: xs, y :: ys, [], _, h => by simp at h
  | x :: xs, y :: ys, u :: us, h, g => by show (zip3L xs ys us).length + 1 = _; rw [zip3L_len (by simpa using h) (by simpa using g)]; rfl
theorem zip3L_get : ∀ {xs ys us : List V} {j : Nat} {t : List V}, (zip3L xs ys us)[j]? = some t → ∃ x y u, xs[j]? = some x ∧ ys[j]? = some y ∧ us[j]? = some u ∧ t = [x, y, u]
  | [], _, _, _, _, h => by simp [zip3L] at h
  | x :: xs, [], _, _, _, h => by simp [zip3L] at h
  | x :: xs, y :: ys, [], _, _, h => by simp [zip3L] at h
  | x :: xs, y :: ys, u :: us, 0, t, h => by
    simp only [zip3L, List.getElem?_cons_zero] at h
    cases h
    exact ⟨x, y, u, rfl, rfl, rfl, rfl⟩
  | x :: xs, y :: ys, u :: us, j + 1, t, h => by
    simp only [zip3L, List.getElem?_cons_succ] at h
    obtain ⟨a, b, c, h1, h2, h3, h4⟩ := zip3L_get h
    exact ⟨a, b, c, by simpa using h1, by simpa using h2, by simpa using h3, h4⟩
def tLstZ (K : PySem.W.Frag) (ta : TA) : TE := fun σ H Q => ta σ H fun vs H1 => ∃ (a b c : Addr) (xs ys us : List V), vs = [.ref a, .ref b, .ref c] ∧ SqL K H1 a xs ∧ SqL K H1 b ys ∧ SqL K H1 c us ∧ ys.length = xs.length ∧ us.length = xs.length ∧
  ∀ (as : List Addr) (l : Addr), as.Nodup → as.length = xs.length → (∀ b ∈ as, H1 b = none) → H1 l = none → l ∉ as → Q (.ref l) (upd (addT H1 (as.zip (zip3L xs ys us))) l (.lst (as.map V.ref)))
theorem vals_refs : ∀ as : List Addr, Vals (as.map V.ref) (as.map Value.ref)
  | [] => .nil
  | a :: as => .cons rfl (vals_refs as)
theorem vals_at : ∀ {xs : List V} {us : List Value} {j : Nat} {x : V}, Vals xs us → xs[j]? = some x → ∃ u, us[j]? = some u ∧ RelV x u
  | _, _, j, x, .nil, h => by simp at h
  | _, _, 0, x, .cons r _, h => by simp only [List.getElem?_cons_zero] at h; cases h; exact ⟨_, rfl, r⟩
  | _, _, j + 1, x, .cons _ t, h => by
    simp only [List.getElem?_cons_succ] at h
    obtain ⟨u, h1, h2⟩ := vals_at t h
    exact ⟨u, by simpa using h1, h2⟩
theorem pe_listZip {X : Cx} {e e2 e3 : Expr} {ta : TA} {p pos p2 pos2 : Pos} (hc : X.calm = true) (hgl : Gl X "list") (hml : X.mg "list" = none) (hgz : Gl X "zip") (hmz : X.mg "zip" = none) (ha : PA X [e, e2, e3] ta)
    (hs : starEach [e, e2, e3] X.env = (false, eval e X.env) :: starEach [e2, e3] X.env := by rfl) (hpl : (backTo pos2 (starEach [e2, e3] X.env)).any (·.1) = false := by rfl)
    (na : starEach [.Call (.Name "zip" p2) [e, e2, e3] [] pos2] X.env = (false, eval (.Call (.Name "zip" p2) [e, e2, e3] [] pos2) X.env) :: starEach [] X.env := by rfl) :
    PE X (.Call (.Name "list" p) [.Call (.Name "zip" p2) [e, e2, e3] [] pos2] [] pos) (tLstZ X.K ta) := by
  refine ⟨fun pins s σ H Q I h => ?_⟩
  refine Call_ (ld_blt I hgl hml PyProof.Rows.boot_list (PyProof.Rows.callWith_type1 (args_cons (thn (Call_ (ld_blt I hgz hmz PyProof.Rows.boot_zip (PyProof.Rows.callWith_type1 (thn (ha.run pos2 pins s σ H _ I h) fun us s1 ⟨vs, H1, I1, r1, q1⟩ => ?_) hs hpl))) fun v s1 h => args_nil h) na) na))
  obtain ⟨a, b, c, xs, ys, zs, rfl, hx, hy, hu, ly, lu, q⟩ := q1
  cases r1 with
  | cons r rr => cases rr with
    | cons r' rr => cases rr with
      | cons r'' rr =>
        cases rr
        cases r
        cases r'
        cases r''
        obtain ⟨its, rv, p1, lz⟩ := I1.list hx
        obtain ⟨its2, rv2, p2, _⟩ := I1.list hy
        obtain ⟨its3, rv3, p3, _⟩ := I1.list hu
        have l1 : xs.length = its.length := rv.length
        have l2 : ys.length = its2.length := rv2.length
        have l3 : zs.length = its3.length := rv3.length
        have hzz : (sizeLine : Nat) = 16777216 := sizeLine_eq
        refine ZL.call_list_zip3 (n := xs.length) (I1.ok.hd hc) p1.isList p2.isList p3.isList (by rw [List.size_toArray]; exact l1.symm) (by rw [List.size_toArray, ← l2]; exact ly) (by rw [List.size_toArray, ← l3]; exact lu) lz fun h' tk acc c' as l hk hl hlo hla hal hG hacc => ?_
        have nd : as.Nodup := List.Pairwise.imp (fun h => Nat.ne_of_lt h) hG.rise
        have I2 : Inv X pins σ H1 { s1 with heap := h', toks := tk } := I1.kept (t' := tk) hk
        have hfa : ∀ b ∈ as, H1 b = none := fun b hb => I1.hok.fresh (hG.above b hb)
        have hn0 : H1 l = none := I1.hok.fresh hlo
        have efst : (as.zip (zip3L xs ys zs)).map (·.1) = as := List.map_fst_zip (by rw [zip3L_len ly lu, hal]; exact Nat.le_refl _)
        have I3 := take_all I1 (as.zip (zip3L xs ys zs)) H1 I2 (by rw [efst]; exact nd) fun t ht => by
          obtain ⟨j, hj⟩ := List.mem_iff_getElem?.mp ht
          obtain ⟨j1, j2⟩ := List.getElem?_zip_eq_some.mp hj
          obtain ⟨x, y, u, k1, k2, k3, k4⟩ := zip3L_get j2
          have hb := List.mem_of_getElem? j1
          obtain ⟨vx, vy, vu, g1, g2, g3, g4⟩ := hG.pairs j t.1 j1
          obtain ⟨wx, w1, w2⟩ := vals_at rv k1
          obtain ⟨wy, w3, w4⟩ := vals_at rv2 k2
          obtain ⟨wu, w5, w6⟩ := vals_at rv3 k3
          obtain rfl : vx = wx := by rw [List.getElem?_toArray] at g1; rw [w1] at g1; exact (Option.some.inj g1).symm
          obtain rfl : vy = wy := by rw [List.getElem?_toArray] at g2; rw [w3] at g2; exact (Option.some.inj g2).symm
          obtain rfl : vu = wu := by rw [List.getElem?_toArray] at g3; rw [w5] at g3; exact (Option.some.inj g3).symm
          refine ⟨hG.above _ hb, hfa _ hb, fun H3 => ?_⟩
          rw [k4]
          exact ⟨(by rw [hzz]; show 3 ≤ 16777216; omega), [vx, vy, vu], .cons w2 (.cons w4 (.cons w6 .nil)), ⟨_, g4, rfl, 0, rfl⟩⟩
        have hn1 : addT H1 (as.zip (zip3L xs ys zs)) l = none := by rw [addT_old (by rw [efst]; exact hla)]; exact hn0
        have I4 := I3.take (h' := h') (t' := tk) (o := .lst (as.map V.ref)) (fun b ob _ e => e) (I1.fpOk hlo hn1) ⟨by rw [List.length_map, hal]; exact lz, acc.toList, c', by rw [hacc]; exact vals_refs as, by rw [Array.toArray_toList]; exact hl⟩
        exact ⟨.ref l, _, I4, rfl, q as l nd hal hfa hn0 hla⟩
/-- what such a list holds -/
def zip3D : List PyData → List PyData → List PyData → List PyData
  | x :: xs, y :: ys, u :: us => .tuple [x, y, u] :: zip3D xs ys us
  | _, _, _ => []
theorem zip3_dq {B : Hp} : ∀ {as : List Addr} {xs ys us : List V} {dx dy du : List PyData}, DqAll B xs dx → DqAll B ys dy → DqAll B us du → ys.length = xs.length → us.length = xs.length → as.length = xs.length →
    (∀ t ∈ as.zip (zip3L xs ys us), B t.1 = some (.tup t.2)) → DqAll B (as.map V.ref) (zip3D dx dy du)
  | [], [], _, _, _, _, _, .nil, _, _, _, _, _, _ => .nil
  | a :: as, x :: xs, y :: ys, u :: us, _, _, _, .cons h1 t1, .cons h2 t2, .cons h3 t3, e1, e2, e3, h =>
    .cons (.tup (h (a, [x, y, u]) (List.mem_cons_self ..)) (.cons h1 (.cons h2 (.cons h3 .nil)))) (zip3_dq t1 t2 t3 (by simpa using e1) (by simpa using e2) (by simpa using e3) fun t ht => h t (List.mem_cons_of_mem _ ht))
  | [], x :: xs, _, _, _, _, _, _, _, _, _, _, e, _ => by simp at e
  | a :: as, [], _, _, _, _, _, _, _, _, _, _, e, _ => by simp at e
  | a :: as, x :: xs, [], _, _, _, _, _, _, _, e, _, _, _ => by simp at e
  | a :: as, x :: xs, y :: ys, [], _, _, _, _, _, _, _, e, _, _ => by simp at e
theorem svl_zip3 {K : PySem.W.Frag} {G : Gm} {ta : TA} {dx dy du : List PyData} (h : Sa ta G [.im (isD (.list dx)), .im (isD (.list dy)), .im (isD (.list du))]) (ly : dy.length = dx.length) (lu : du.length = dx.length) : Svl (tLstZ K ta) G (zip3D dx dy du) := fun M0 σ B M H Q q =>
  h M0 σ B M H _ fun vs B1 e1 d1 p1 => by
    cases p1 with
    | cons a1 p1 => cases p1 with
      | cons a2 p1 => cases p1 with
        | cons a3 p1 =>
          cases p1
          obtain ⟨a, xs, rfl, ha, hx⟩ := dq_lst (show Dq B1 _ (.list dx) from a1)
          obtain ⟨b, ys, rfl, hb, hy⟩ := dq_lst (show Dq B1 _ (.list dy) from a2)
          obtain ⟨c, us, rfl, hc, hu⟩ := dq_lst (show Dq B1 _ (.list du) from a3)
          have lx := DqAll_len hx
          have ly' := DqAll_len hy
          have lu' := DqAll_len hu
          have e3 : ys.length = xs.length := by omega
          have e4 : us.length = xs.length := by omega
          refine ⟨a, b, c, xs, ys, us, rfl, sq_of (jn_B d1 ha), sq_of (jn_B d1 hb), sq_of (jn_B d1 hc), e3, e4, fun as l nd hal hfr hl0 hla => ?_⟩
          have efst : (as.zip (zip3L xs ys us)).map (·.1) = as := List.map_fst_zip (by rw [zip3L_len e3 e4, hal]; exact Nat.le_refl _)
          obtain ⟨k1, k2, k3, k4⟩ := addT_jn (M := M) (as.zip (zip3L xs ys us)) B1 d1 (fun t ht => hfr _ (by rw [← efst]; exact List.mem_map_of_mem ht)) (by rw [efst]; exact nd)
          rw [k1]
          exact q l _ _ (e1.trans k2) k3 (by rw [← k1, addT_old (by rw [efst]; exact hla)]; exact hl0) (zip3_dq (DqAll_ex k2 hx) (DqAll_ex k2 hy) (DqAll_ex k2 hu) e3 e4 hal k4)
end Mini

namespace Mini
open PySem PySem.Spec L2 Evl PyProof.Rows
/-! ### x in xs, data; == of a list that one owns -/
def rInD (K : PySem.W.Frag) : R2 := fun x y H Q => ∃ d xs, Dp K H x d ∧ Dp K H y (.list xs) ∧ PyData.canLayAll0 xs = true ∧ d.canLay0 = true ∧ d.depth ≤ 10 ∧ Q (.bl (xs.any fun z => PyData.eqv z d)) H
theorem op_inD {X : Cx} (hu : X.A.units + 64 < cLine) : OpR X (compareOp .In) (rInD X.K) := by
  intro pins s σ H x y v u Q I rx ry h
  obtain ⟨d, xs, hd, he, c1, c2, c3, q⟩ := h
  obtain ⟨as, r1⟩ := Dp.reads I d x v hd rx
  obtain ⟨bs, r2⟩ := Dp.reads I (.list xs) y u he ry
  exact SeqAt.in_list_reads r2 r1 c1 c2 (by omega) ⟨.bl _, H, I, rfl, q⟩
section
variable {K : PySem.W.Frag} {G : Gm} {ta tb : TE} {d e : PyData} {ds : List PyData}
theorem dp_lst {B M : Hp} {a : Addr} {vs : List V} (dj : Dj B M) (h : jn B M a = some (.lst vs)) (hv : DqAll B vs ds) : Dp K (jn B M) (.ref a) (.list ds) := .lst (sq_of h) (Dq_dp.go ds vs (DqAll_ex (jn_ex dj) hv))
theorem sv_inD (ha : Sv ta G (isD d)) (hb : Rl tb G ds) (h1 : PyData.canLayAll0 ds = true) (h2 : d.canLay0 = true) (h3 : d.depth ≤ 10) : Sv (tOp (rInD K) ta tb) G (isD (.bool (ds.any fun z => PyData.eqv z d))) := fun M0 σ B M H Q q =>
  ha M0 σ B M H _ fun x B1 e1 d1 p1 => hb M0 σ B1 M (H.ext e1 d1) _ fun a vs B2 e2 d2 hh hv =>
    ⟨d, ds, Dq_dp d x (Dq_ex (e2.trans (jn_ex d2)) d x p1), dp_lst d2 hh hv, h1, h2, h3, q _ B2 (e1.trans e2) d2 (.bl _)⟩
theorem sv_eqOw (ha : Rl ta G ds) (hb : Sv tb G (isD e)) (h1 : SeqAt.shaped (.list ds) = true) (h2 : SeqAt.shaped e = true) {n : Nat} (hn : ta = tVar n) {R : Ow} (ho : G[n]? = some (.ow R)) : Sv (tOp (rEqD K) ta tb) G (isD (.bool (PyData.eqv (.list ds) e))) := fun M0 σ B M H Q q => by
  subst hn
  obtain ⟨l, o, a, c, _, _⟩ := H.ow n _ ho
  refine ⟨.ref l, a, ?_⟩
  obtain ⟨vs, hl⟩ : ∃ vs, M l = some (.lst vs) ∧ DqAll B vs ds := by
    have := ha M0 σ B M H (fun v H' => ∃ a vs B', v = .ref a ∧ H' a = some (.lst vs) ∧ H' = jn B' M ∧ Ex B B' ∧ Dj B' M ∧ DqAll B' vs ds) fun a vs B' e1 d1 h1 h2 => ⟨a, vs, B', rfl, h1, rfl, e1, d1, h2⟩
    obtain ⟨v, e1, a', vs, B', e2, e3, e4, e5, e6, e7⟩ := this
    rw [a] at e1
    cases e1
    cases e2
    refine ⟨vs, ?_, ?_⟩
    · rw [jn_M c] at e3
      rw [c]; exact e3
    · have eB : B' = B := by
        have z : jn B M = jn B' M := e4
        funext x
        cases hx : M x with
        | none =>
          have := congrFun z x
          rw [jn_N hx, jn_N hx] at this
          exact this.symm
        | some u =>
          have b1 : B x = none := dj_free H.dj hx
          have b2 : B' x = none := dj_free e6 hx
          rw [b1, b2]
      rw [← eB]; exact e7
  exact hb M0 σ B M H _ fun y B2 e2 d2 p2 => ⟨.list ds, e, dp_lst d2 (jn_M hl.1) (DqAll_ex e2 hl.2), Dq_dp e y (Dq_ex (jn_ex d2) e y p2), h1, h2, q _ B2 e2 d2 (.bl _)⟩
end
theorem atI_dq {B : Hp} {vs : List V} {ds : List PyData} {d : PyData} {i : Int} (h : DqAll B vs ds) (e : atI ds i = some d) : ∃ v, atI vs i = some v ∧ Dq B v d := by
  unfold atI at e ⊢
  rw [DqAll_len h]
  cases hj : ixN ds.length i with
  | none => rw [hj] at e; cases e
  | some j =>
    rw [hj] at e
    exact DqAll_get h e
/-! ### more of ghosts -/
section
variable {K : PySem.W.Frag} {E : XK} {X X1 : Gx} {G G' : Gm} {ts tu : TS} {te ta tb tc tl : TE} {tr : TA} {o : Og} {p : Addr} {n i j l : Nat} {P P' : Ty} {Ps : List Ty} {ds es : List PyData} {d : PyData} {ks : List (Ty ⊕ List PyData)}
/-- rows, books = [[], []], .. -/
theorem sg_parLL2 (h1 : Svl ta G ds) (h2 : Svl tb G es) (h3 : Sv tc G P) (hi : i < G.length) (hj : j < G.length) (k : ∀ p1 p2, Sg E tu ((G.set i (.im (isLs [isV (.ref p1), isV (.ref p2)]))).set j (.im P)) ((p1, isL ds) :: (p2, isL es) :: X) o) :
    Sg E (tSeq (tPar i j (tCons (tLst (tCons ta (tCons tb tNil))) (tCons tc tNil))) tu) G X o := fun M0 D σ B M H g q =>
  h1 M0 σ B M H _ fun p1 us B1 e1 d1 hf1 hv1 => by
    rw [upd_own]
    have H1 := (H.ext e1 d1).more (p := p1) (o := .lst us) hf1
    have g1 := gok_more (R := isL ds) (ob := .lst us) (H.ext e1 d1) (g.ext e1) hf1 ⟨us, rfl, hv1⟩
    refine h2 M0 σ B1 _ H1 _ fun p2 vs B2 e2 d2 hf2 hv2 => ?_
    rw [upd_own]
    have H2 := (H1.ext e2 d2).more (p := p2) (o := .lst vs) hf2
    have g2 := gok_more (R := isL es) (ob := .lst vs) (H1.ext e2 d2) (g1.ext e2) hf2 ⟨vs, rfl, hv2⟩
    refine ⟨by show 2 ≤ sizeLine; decide, fun a ha => ?_⟩
    rw [upd_new ha]
    have e3 : Ex B2 (upd B2 a (.lst [.ref p1, .ref p2])) := ex_new ha
    have d3 := dj_new (o := .lst [.ref p1, .ref p2]) H2.dj ha
    refine h3 M0 σ _ _ (H2.ext e3 d3) _ fun y B4 e4 d4 p4 => ?_
    have H3 := ((H2.ext e3 d3).ext e4 d4).setIm (n := i) (v := .ref a) (P := isLs [isV (.ref p1), isV (.ref p2)]) hi ⟨a, _, rfl, e4 _ _ upd_same, .cons rfl (.cons rfl .nil)⟩
    have H4 := H3.setIm (n := j) (v := y) (P := P) (by rw [List.length_set]; exact hj) p4
    have g3 := ((((g2.ext e3).ext e4).set i (isLs [isV (.ref p1), isV (.ref p2)]) (.ref a))).set j P y
    refine ⟨.ref a, y, rfl, ?_⟩
    refine sg_perm (Y := (p2, isL es) :: (p1, isL ds) :: X) ?_ (.swap ..) M0 D _ _ _ H4 ?_ (q.ext (((e1.trans e2).trans e3).trans e4))
    · exact sg_perm (k p1 p2) (.swap ..)
    · exact { nd := by have := g3.nd; simp only [List.map_cons] at this ⊢; exact (List.Perm.swap ..).nodup_iff.mp this, m0 := fun x hx => g3.m0 x ((List.Perm.swap ..).mem_iff.mp hx), ob := fun x hx => g3.ob x ((List.Perm.swap ..).mem_iff.mp hx), ns := fun x hx => g3.ns x ((List.Perm.swap ..).mem_iff.mp hx) }
/-- an item of a list of things of any type -/
theorem sv_ixLs {i : Int} {m : Nat} (ha : Sv ta G (isLs Ps)) (hb : Sv tb G (isD (.int i))) (hi : i = (m : Int)) (hm : Ps[m]? = some P) : Sv (tOp (rIx K) ta tb) G P := fun M0 σ B M H Q q =>
  ha M0 σ B M H _ fun x B1 e1 d1 p1 => hb M0 σ B1 M (H.ext e1 d1) _ fun y B2 e2 d2 p2 => by
    obtain ⟨a, vs, rfl, hh, q1⟩ := (isLs Ps).mono e2 p1
    rw [dp_int p2]
    have hlt : m < vs.length := by rw [q1.len]; exact (List.getElem?_eq_some_iff.mp hm).1
    obtain ⟨P', h1, h2⟩ := q1.getV (List.getElem?_eq_getElem hlt)
    rw [hm] at h1
    cases h1
    exact .inl ⟨a, vs, i, vs[m], rfl, rfl, sq_of (jn_B d2 hh), by rw [hi]; exact atI_nat (List.getElem?_eq_getElem hlt), q _ B2 (e1.trans e2) d2 h2⟩
/-- an item of a ghost list -/
theorem svg_ixG {i : Int} (hl : Sv tl G (isV (.ref p))) (hx : (p, isL ds) ∈ X) (hb : Sv tb G (isD (.int i))) (hi : atI ds i = some d) : Svg (tOp (rIx K) tl tb) G X (isD d) := fun M0 σ B M H g Q q =>
  hl M0 σ B M H _ fun x B1 e1 d1 p1 => hb M0 σ B1 M (H.ext e1 d1) _ fun y B2 e2 d2 p2 => by
    obtain rfl : x = .ref p := p1
    rw [dp_int p2]
    obtain ⟨ob, h1, vs, rfl, h2⟩ := ((g.ext e1).ext e2).ob _ hx
    obtain ⟨v, hv, pv⟩ := atI_dq h2 hi
    exact .inl ⟨p, vs, i, v, rfl, rfl, sq_of (jn_M h1), hv, q _ B2 (e1.trans e2) d2 pv⟩
theorem svg_ixL {i : Int} (ha : Sv ta G (isD (.list ds))) (hb : Svg tb G X (isD (.int i))) (hi : atI ds i = some d) : Svg (tOp (rIx K) ta tb) G X (isD d) := fun M0 σ B M H g Q q =>
  ha M0 σ B M H _ fun x B1 e1 d1 p1 => hb M0 σ B1 M (H.ext e1 d1) (g.ext e1) _ fun y B2 e2 d2 p2 => by
    obtain ⟨a, vs, rfl, hh, q1⟩ := dq_lst (Dq_ex e2 _ _ p1)
    rw [dp_int p2]
    obtain ⟨v, hv, pv⟩ := atI_dq q1 hi
    exact .inl ⟨a, vs, i, v, rfl, rfl, sq_of (jn_B d2 hh), hv, q _ B2 (e1.trans e2) d2 pv⟩
/-- arguments that read ghosts -/
def Sng (ta : TA) (G : Gm) (X : Gx) (ks : List (Ty ⊕ List PyData)) : Prop := ∀ (M0 : Hp) (σ : L2.St) (B M : Hp), Holds M0 G σ B M → GOk X M0 G σ B M → ∀ Q : List V → Hp → Prop, (∀ vs B' M', Ex B B' → Dj B' M' → Pend ks vs B' M M' → Q vs (jn B' M')) → ta σ (jn B M) Q
theorem sng_of (h : Sn tr G ks) : Sng tr G X ks := fun M0 σ B M H _ Q q => h M0 σ B M H Q q
/-- [e1, e2], ..: a new list of two, which read ghosts -/
theorem sng_lst2 {d1 d2 : PyData} (h1 : Svg ta G X (isD d1)) (h2 : Svg tb G X (isD d2)) (hr : Sn tr G ks) : Sng (tCons (tLst (tCons ta (tCons tb tNil))) tr) G X (.inr [d1, d2] :: ks) := fun M0 σ B M H g Q q =>
  h1 M0 σ B M H g _ fun v B1 e1 dj1 p1 => h2 M0 σ B1 M (H.ext e1 dj1) (g.ext e1) _ fun u B2 e2 dj2 p2 => by
    refine ⟨by show 2 ≤ sizeLine; decide, fun a ha => ?_⟩
    rw [upd_own]
    have H2 := (H.ext e1 dj1).ext e2 dj2
    refine hr M0 σ B2 _ (H2.more ha) _ fun vs B3 M3 e3 dj3 p3 => ?_
    exact q _ B3 M3 ((e1.trans e2).trans e3) dj3 (.nl (jn_free ha).2 (.cons (Dq_ex (e2.trans e3) _ _ p1) (.cons (Dq_ex e3 _ _ p2) .nil)) p3)
theorem gok_pend {M0 : Hp} : ∀ {is : List Nat} {ks : List (Ty ⊕ List PyData)} {vs : List V} {G : Gm} {σ : L2.St} {B M M' : Hp}, Holds M0 G σ B M → Dj B M' → GOk X M0 G σ B M → Pend ks vs B M M' → is.length = ks.length → (∀ i ∈ is, i < G.length) → GOk X M0 (setAll G is ks) (setSt σ is vs) B M'
  | [], [], _, G, σ, B, M, M', H, d, g, h, _, _ => by cases h; exact g
  | [], _ :: _, _, _, _, _, _, _, _, _, _, _, e, _ => by simp at e
  | _ :: _, [], _, _, _, _, _, _, _, _, _, _, e, _ => by simp at e
  | i :: is, k :: ks, _, G, σ, B, M, M', H, d, g, h, e, hl => by
    have hi := hl i (List.mem_cons_self ..)
    have hl' : ∀ S : Sl, ∀ j ∈ is, j < (G.set i S).length := fun S j hj => by rw [List.length_set]; exact hl j (List.mem_cons_of_mem _ hj)
    have e' : is.length = ks.length := by simpa using e
    cases h with
    | @im P _ v vs _ _ _ a h => exact gok_pend (is := is) (H.setIm hi a) d (g.set i P v) h e' (hl' _)
    | @nl ds _ p us vs _ _ _ hp a h =>
      have hB := dj_free d (h.ex _ _ upd_same)
      have hf : jn B M p = none := by rw [jn_N hp]; exact hB
      have h2 := H.setOw (R := isL ds) hi hf ⟨us, rfl, a⟩
      have ne : ∀ x ∈ X, x.1 ≠ p := fun x hx z => by
        obtain ⟨ob, h1, _⟩ := g.ob x hx
        rw [z, hp] at h1; cases h1
      refine gok_pend (is := is) h2 d { nd := g.nd, m0 := g.m0, ob := fun x hx => ?_, ns := fun x hx i' R z => ?_ } h e' (hl' _)
      · obtain ⟨ob, h1, h3⟩ := g.ob x hx
        exact ⟨ob, by rw [upd_ne (ne x hx)]; exact h1, h3⟩
      · by_cases w : i' = i
        · subst w
          rw [List.getElem?_set_self (by rw [H.len]; exact hi)]
          intro z2
          cases z2
          exact ne x hx rfl
        · rw [List.getElem?_set_ne (Ne.symm w)] at z ⊢
          exact g.ns x hx i' R z
theorem sg_par3G {kk1 kk2 kk3 : Ty ⊕ List PyData} {tas : TA} (h : Sng tas G X [kk1, kk2, kk3]) (hi : i < G.length := by exact Nat.le_of_ble_eq_true rfl) (hj : j < G.length := by exact Nat.le_of_ble_eq_true rfl) (hl : l < G.length := by exact Nat.le_of_ble_eq_true rfl) : Sg E (tPar3 i j l tas) G X (.nx (setAll G [i, j, l] [kk1, kk2, kk3]) X) := fun M0 D σ B M H g q =>
  h M0 σ B M H g _ fun vs B1 M1 e1 d1 p1 => by
    have dM : Dj B1 M := fun a u z => by
      have w := d1 a u z
      cases hm : M a with
      | none => rfl
      | some o => rw [p1.ex a o hm] at w; cases w
    have hb : ∀ k ∈ [i, j, l], k < G.length := fun k hk => by
      rcases List.mem_cons.mp hk with rfl | hk
      · exact hi
      · rcases List.mem_cons.mp hk with rfl | hk
        · exact hj
        · rcases List.mem_cons.mp hk with rfl | hk
          · exact hl
          · cases hk
    have K1 := holds_set (is := [i, j, l]) (H.ext e1 dM) d1 p1 rfl hb
    have K2 := gok_pend (is := [i, j, l]) (H.ext e1 dM) d1 (g.ext e1) p1 rfl hb
    have hl := p1.len
    match vs, hl with
    | [u, v, w], _ => exact ⟨u, v, w, rfl, q _ _ _ e1 K1 K2⟩
/-- xs.pop(), xs a ghost -/
theorem sg_pop (hl : Sv tl G (isV (.ref p))) (hz : ds ≠ []) : Sg E (tDrop (tBM0 K "list" rPop tl)) G ((p, isL ds) :: X) (.nx G ((p, isL ds.dropLast) :: X)) := fun M0 D σ B M H g q => hl M0 σ B M H _ fun u B1 e1 d1 p1 => by
  obtain rfl : u = .ref p := p1
  have g1 := g.ext e1
  obtain ⟨o, h1, vs, rfl, h2⟩ := g1.ob _ (List.mem_cons_self ..)
  have hlen := DqAll_len h2
  have hpos : 0 < vs.length := by rw [hlen]; exact List.length_pos_iff.mpr hz
  refine ⟨Or.inl ⟨rfl, vs, sq_of (jn_M h1)⟩, p, vs, vs[vs.length - 1], rfl, rfl, jn_M h1, List.getElem?_eq_getElem (by omega), ?_⟩
  rw [upd_own]
  have H1 := H.ext e1 d1
  obtain ⟨r1, r2⟩ := GOk.after (X1 := [(p, isL ds)]) (X2 := X) (Y := [(p, isL ds.dropLast)]) (ad := [p]) (B' := B1) (M' := upd M p (.lst vs.dropLast)) H1 g1 rfl rfl (Ex.refl _) (fun a u z => by
      by_cases w : a = p
      · have := d1 a u z
        rw [w] at this
        rw [show M p = some (.lst vs) from h1] at this
        cases this
      · rw [upd_ne w]; exact d1 a u z) (fun a w => upd_ne (fun z => w (by rw [z]; exact List.mem_singleton.mpr rfl))) (fun y' hy' => by
      rw [List.mem_singleton] at hy'
      subst hy'
      exact ⟨_, upd_same, vs.dropLast, rfl, DqAll_dropLast h2⟩)
  exact q σ B1 _ e1 r1 r2
/-- both lists of [[..], [..]] are let stand -/
theorem sg_frz2 {p1 p2 : Addr} {es' : List PyData} (hn : G[n]? = some (.im (isLs [isV (.ref p1), isV (.ref p2)]))) (k : Sg E ts (G.set n (.im (isD (.list [.list ds, .list es'])))) X o) : Sg E ts G ((p1, isL ds) :: (p2, isL es') :: X) o := by
  have hlt := (List.getElem?_eq_some_iff.mp hn).1
  refine sg_frz (n := n) (P' := isLs [isD (.list ds), isV (.ref p2)]) hn (fun v B' h1 h2 => ?_) (sg_frz (n := n) (P' := isD (.list [.list ds, .list es'])) (List.getElem?_set_self hlt) (fun v B' h1 h2 => ?_) (by rw [List.set_set]; exact k))
  · obtain ⟨a, vs, rfl, h3, h4⟩ := h1
    cases h4 with
    | cons a1 h4 => cases h4 with
      | cons a2 h4 =>
        cases h4
        obtain rfl := (show _ = V.ref p1 from a1)
        obtain ⟨ws, h5, h6⟩ := h2
        exact ⟨a, _, rfl, h3, .cons (show Dq B' _ (.list ds) from .lst h5 h6) (.cons a2 .nil)⟩
  · obtain ⟨a, vs, rfl, h3, h4⟩ := h1
    cases h4 with
    | cons a1 h4 => cases h4 with
      | cons a2 h4 =>
        cases h4
        obtain rfl := (show _ = V.ref p2 from a2)
        obtain ⟨ws, h5, h6⟩ := h2
        exact .lst h3 (.cons a1 (.cons (.lst h5 h6) .nil))
end
end Mini

namespace Mini
open PySem PySem.Spec L2 Evl PyProof.Rows
section
variable {K : PySem.W.Frag} {E : XK} {X X1 : Gx} {G G' : Gm} {ts tu : TS} {te ta tb tc tl : TE} {tr : TA} {o : Og} {p : Addr} {n i j l : Nat} {P P' : Ty} {Ps : List Ty} {ds es : List PyData} {d : PyData} {ks : List (Ty ⊕ List PyData)}
/-- rows, books = [[], []], .. through a tuple -/
theorem sg_tupLL2 (h1 : Svl ta G ds) (h2 : Svl tb G es) (h3 : Sv tc G P) (hi : i < G.length) (hj : j < G.length) (k : ∀ p1 p2, Sg E tu ((G.set i (.im (isLs [isV (.ref p1), isV (.ref p2)]))).set j (.im P)) ((p1, isL ds) :: (p2, isL es) :: X) o) :
    Sg E (tSeq (tAsg (tTup (tCons (tLst (tCons ta (tCons tb tNil))) (tCons tc tNil))) (gTup K 2 (gCons (gName i) (gCons (gName j) gNil)))) tu) G X o := fun M0 D σ B M H g q =>
  h1 M0 σ B M H _ fun p1 us B1 e1 d1 hf1 hv1 => by
    rw [upd_own]
    have H1 := (H.ext e1 d1).more (p := p1) (o := .lst us) hf1
    have g1 := gok_more (R := isL ds) (ob := .lst us) (H.ext e1 d1) (g.ext e1) hf1 ⟨us, rfl, hv1⟩
    refine h2 M0 σ B1 _ H1 _ fun p2 vs B2 e2 d2 hf2 hv2 => ?_
    rw [upd_own]
    have H2 := (H1.ext e2 d2).more (p := p2) (o := .lst vs) hf2
    have g2 := gok_more (R := isL es) (ob := .lst vs) (H1.ext e2 d2) (g1.ext e2) hf2 ⟨vs, rfl, hv2⟩
    refine ⟨by show 2 ≤ sizeLine; decide, fun a ha => ?_⟩
    rw [upd_new ha]
    have e3 : Ex B2 (upd B2 a (.lst [.ref p1, .ref p2])) := ex_new ha
    have d3 := dj_new (o := .lst [.ref p1, .ref p2]) H2.dj ha
    refine h3 M0 σ _ _ (H2.ext e3 d3) _ fun y B4 e4 d4 p4 => ?_
    refine ⟨by show 2 ≤ sizeLine; decide, fun t ht => ?_⟩
    rw [upd_new ht]
    have e5 : Ex B4 (upd B4 t (.tup [.ref a, y])) := ex_new ht
    have d5 := dj_new (o := .tup [.ref a, y]) d4 ht
    have H3 := (((H2.ext e3 d3).ext e4 d4).ext e5 d5).setIm (n := i) (v := .ref a) (P := isLs [isV (.ref p1), isV (.ref p2)]) hi ⟨a, _, rfl, e5 _ _ (e4 _ _ upd_same), .cons rfl (.cons rfl .nil)⟩
    have H4 := H3.setIm (n := j) (v := y) (P := P) (by rw [List.length_set]; exact hj) (P.mono e5 p4)
    have g3 := ((((g2.ext e3).ext e4).ext e5).set i (isLs [isV (.ref p1), isV (.ref p2)]) (.ref a)).set j P y
    refine ⟨t, [.ref a, y], rfl, st_of (jn_B d5 upd_same), rfl, gNames_run (is := [i, j]) (vs := [.ref a, y]) rfl ?_⟩
    refine sg_perm (Y := (p2, isL es) :: (p1, isL ds) :: X) ?_ (.swap ..) M0 D _ _ _ H4 ?_ (q.ext ((((e1.trans e2).trans e3).trans e4).trans e5))
    · exact sg_perm (k p1 p2) (.swap ..)
    · exact { nd := by have := g3.nd; simp only [List.map_cons] at this ⊢; exact (List.Perm.swap ..).nodup_iff.mp this, m0 := fun x hx => g3.m0 x ((List.Perm.swap ..).mem_iff.mp hx), ob := fun x hx => g3.ob x ((List.Perm.swap ..).mem_iff.mp hx), ns := fun x hx => g3.ns x ((List.Perm.swap ..).mem_iff.mp hx) }
theorem sg_tupNG (is : List Nat) (h : Sng tr G X ks) (hn : is.length = ks.length := by rfl) (hl : ∀ i ∈ is, i < G.length := by exact of_decide_eq_true rfl) (hk : ks.length ≤ 100 := by exact Nat.le_of_ble_eq_true rfl) :
    Sg E (tAsg (tTup tr) (gTup K ks.length (gNames is))) G X (.nx (setAll G is ks) X) := fun M0 D σ B M H g q =>
  h M0 σ B M H g _ fun vs B1 M1 e1 d1 p1 => by
    have hlen := p1.len
    refine ⟨by have : (sizeLine : Nat) = 16777216 := sizeLine_eq; omega, fun t ht => ?_⟩
    have dM : Dj B1 M := fun a u z => by
      have w := d1 a u z
      cases hm : M a with
      | none => rfl
      | some o => rw [p1.ex a o hm] at w; cases w
    have K1 := holds_set (H.ext e1 dM) d1 p1 hn hl
    have K2 := gok_pend (H.ext e1 dM) d1 (g.ext e1) p1 hn hl
    rw [upd_new ht]
    refine ⟨t, vs, rfl, st_of (jn_B (dj_new d1 ht) upd_same), hlen, gNames_run (by omega) ?_⟩
    exact q _ _ _ (e1.trans (ex_new ht)) (K1.ext (ex_new ht) (dj_new d1 ht)) (K2.ext (ex_new ht))
theorem sb_mtO {E : L2.St → XK} {C D : Addr} {m : Str} {sp : Sp} {tas : TA} (h : Sb ta G E C) : Sb (tMt D m sp E ta tas) G E C := fun M0 σ B M H Q q => h M0 σ B M H _ q
end
end Mini

namespace Mini
open PySem PySem.Spec L2 Evl PyProof.Rows
section
variable {K : PySem.W.Frag} {E : XK} {X X1 : Gx} {G G' : Gm} {ts tu : TS} {te ta tb tc tl : TE} {tr : TA} {o : Og} {p : Addr} {n i j l : Nat} {P P' : Ty} {Ps : List Ty} {ds es : List PyData} {d : PyData} {ns : List Int} {k : Int}
/-- over a tuple that stays -/
theorem sg_forT (h : Sv tl G (isD (.tuple ds))) (Gi : Nat → Gm) (Xi : Nat → Gx) (N : Nat) (hN : N ≤ ds.length) (h0 : G = Gi 0) (x0 : X = Xi 0) (hj : ∀ i, i ≤ N → j < (Gi i).length)
    (hs : ∀ i d, ds[i]? = some d → i < N → Sg E tu ((Gi i).set j (.im (isD d))) (Xi i) (.nx (Gi (i + 1)) (Xi (i + 1)))) (hd : (N = ds.length ∧ o = .nx (Gi N) (Xi N)) ∨ (N < ds.length ∧ o.leaves ∧ Sg E tu ((Gi N).set j (.im (isD (ds.getD N .none)))) (Xi N) o)) :
    Sg E (tFor (iTup K tl) (gName j) tu) G X o := fun M0 D σ B M H g q => by
  subst h0
  subst x0
  exact h M0 σ B M H _ fun v B1 e1 d1 p1 => by
    obtain ⟨a, vs, rfl, ha, hv⟩ := dq_tup p1
    have hlen := DqAll_len hv
    refine ⟨a, rfl, ⟨vs, st_of (jn_B d1 ha)⟩, ?_⟩
    refine for_tup (xs := vs) (Pvg M0 B1 Gi Xi N) ⟨Nat.zero_le _, B1, M, rfl, Ex.refl B1, H.ext e1 d1, g.ext e1⟩ (fun i σ' H' _ p => ?_) (fun i x σ' H' hx p => ?_) (fun σ' H' p => ?_)
    · obtain ⟨_, B', M', rfl, e, H', _⟩ := p
      exact st_of (jn_B H'.dj (e _ _ ha))
    · obtain ⟨hiN, B', M', rfl, e, H', g'⟩ := p
      obtain ⟨d, hd1, px⟩ := DqAll_getV hv hx
      refine turn_okG (o := o) hiN (H'.setIm (hj i hiN) (P := isD d) (Dq_ex e d x px)) (g'.set j (isD d) x) e (fun l => hs i d hd1 l) (fun l => ?_) (q.ext e1)
      rcases hd with ⟨b, _⟩ | ⟨_, l', b⟩
      · have := (List.getElem?_eq_some_iff.mp hx).1; omega
      · have z : ds.getD N .none = d := by rw [← l, List.getD_eq_getElem?_getD, hd1]; rfl
        rw [z, ← l] at b
        exact ⟨l', b⟩
    · obtain ⟨hiN, B', M', rfl, e, H', g'⟩ := p
      rcases hd with ⟨b, c⟩ | ⟨b, _⟩
      · rw [c] at q
        rw [hlen, ← b] at H' g'
        exact q σ' B' M' (e1.trans e) H' g'
      · omega
/-- y = [[], []], both of which others may change -/
theorem sg_newLL (h1 : Svl ta G ds) (h2 : Svl tb G es) (hn : n < G.length) (k : ∀ p1 p2, Sg E tu (G.set n (.im (isLs [isV (.ref p1), isV (.ref p2)]))) ((p1, isL ds) :: (p2, isL es) :: X) o) : Sg E (tSeq (tAsg (tLst (tCons ta (tCons tb tNil))) (gName n)) tu) G X o := fun M0 D σ B M H g q =>
  h1 M0 σ B M H _ fun p1 us B1 e1 d1 hf1 hv1 => by
    rw [upd_own]
    have H1 := (H.ext e1 d1).more (p := p1) (o := .lst us) hf1
    have g1 := gok_more (R := isL ds) (ob := .lst us) (H.ext e1 d1) (g.ext e1) hf1 ⟨us, rfl, hv1⟩
    refine h2 M0 σ B1 _ H1 _ fun p2 vs B2 e2 d2 hf2 hv2 => ?_
    rw [upd_own]
    have H2 := (H1.ext e2 d2).more (p := p2) (o := .lst vs) hf2
    have g2 := gok_more (R := isL es) (ob := .lst vs) (H1.ext e2 d2) (g1.ext e2) hf2 ⟨vs, rfl, hv2⟩
    refine ⟨by show 2 ≤ sizeLine; decide, fun a ha => ?_⟩
    rw [upd_new ha]
    have e3 : Ex B2 (upd B2 a (.lst [.ref p1, .ref p2])) := ex_new ha
    have d3 := dj_new (o := .lst [.ref p1, .ref p2]) H2.dj ha
    have H3 := (H2.ext e3 d3).setIm (n := n) (v := .ref a) (P := isLs [isV (.ref p1), isV (.ref p2)]) hn ⟨a, _, rfl, upd_same, .cons rfl (.cons rfl .nil)⟩
    have g3 := (g2.ext e3).set n (isLs [isV (.ref p1), isV (.ref p2)]) (.ref a)
    refine sg_perm (Y := (p2, isL es) :: (p1, isL ds) :: X) ?_ (.swap ..) M0 D _ _ _ H3 ?_ (q.ext ((e1.trans e2).trans e3))
    · exact sg_perm (k p1 p2) (.swap ..)
    · exact { nd := by have := g3.nd; simp only [List.map_cons] at this ⊢; exact (List.Perm.swap ..).nodup_iff.mp this, m0 := fun x hx => g3.m0 x ((List.Perm.swap ..).mem_iff.mp hx), ob := fun x hx => g3.ob x ((List.Perm.swap ..).mem_iff.mp hx), ns := fun x hx => g3.ns x ((List.Perm.swap ..).mem_iff.mp hx) }
/-- an int in a list of ints -/
theorem sv_inLI (ha : Sv ta G (isD (.int k))) (hb : Sv tb G (isD (.list (ns.map .int)))) : Sv (tOp (rIn K false) ta tb) G (isD (.bool (decide (k ∈ ns)))) := fun M0 σ B M H Q q =>
  ha M0 σ B M H _ fun x B1 e1 d1 p1 => hb M0 σ B1 M (H.ext e1 d1) _ fun y B2 e2 d2 p2 => by
    rw [dp_int p1]
    obtain ⟨a, vs, rfl, h1, h2⟩ := dq_lst p2
    rw [DqAll_ints h2] at h1
    refine ⟨a, ns.map V.int, rfl, .inl (sq_of (jn_B d2 h1)), rfl, ?_, ?_⟩
    · rw [List.all_eq_true]
      intro v hv
      obtain ⟨m, _, rfl⟩ := List.mem_map.mp hv
      rfl
    · rw [inV_ints]
      exact q _ B2 (e1.trans e2) d2 (.bl _)
end
end Mini

/-! ### a dict of one's own, keys ints or texts, values data -/
namespace Mini
open PySem PySem.Spec L2 Evl PyProof.Rows
def dKo (n : Nat) (ks : List Key) (f : Key → PyData) : Ow :=
  ⟨fun _ o B => ∃ kvs : List (Key × V), o = .dK kvs ∧ kvs.length ≤ n ∧ (∀ p ∈ kvs, Dq B p.2 (f p.1)) ∧ ∀ k, (valV kvs k).isSome = true ↔ k ∈ ks,
   fun e ⟨kvs, h1, h2, h3, h4⟩ => ⟨kvs, h1, h2, fun p hp => Dq_ex e _ _ (h3 p hp), h4⟩⟩
theorem valV_mem {kvs : List (Key × V)} {k : Key} {v : V} (h : valV kvs k = some v) : ∃ p ∈ kvs, p.1 = k ∧ p.2 = v := by
  unfold valV at h
  obtain ⟨p, hp, e⟩ := Option.map_eq_some_iff.mp h
  exact ⟨p, List.mem_of_find?_eq_some hp, of_decide_eq_true (List.find?_some (p := fun kv : Key × V => decide (kv.1 = k)) hp), e⟩
theorem putK_mem {kvs : List (Key × V)} {k : Key} {v : V} {p : Key × V} (h : p ∈ putK kvs k v) : p ∈ kvs ∨ (p.1 = k ∧ p.2 = v) := by
  unfold putK at h
  split at h
  · obtain ⟨q, hq, e⟩ := List.mem_map.mp h
    split at e
    · rename_i z
      subst e
      exact .inr ⟨z, rfl⟩
    · subst e; exact .inl hq
  · rcases List.mem_append.mp h with z | z
    · exact .inl z
    · rw [List.mem_singleton] at z
      subst z
      exact .inr ⟨rfl, rfl⟩
theorem dKo_put {n : Nat} {ks : List Key} {f : Key → PyData} {a : Addr} {B : Hp} {kvs : List (Key × V)} {k : Key} {v : V} (h2 : kvs.length ≤ n) (h3 : ∀ p ∈ kvs, Dq B p.2 (f p.1)) (h4 : ∀ k, (valV kvs k).isSome = true ↔ k ∈ ks) (hv : Dq B v (f k)) :
    (dKo (n + 1) (k :: ks) f).r a (.dK (putK kvs k v)) B := by
  refine ⟨_, rfl, by have := length_putK kvs k v; omega, fun p hp => ?_, fun j => ?_⟩
  · rcases putK_mem hp with z | ⟨z1, z2⟩
    · exact h3 p z
    · rw [z1, z2]; exact hv
  · rw [valV_put, List.mem_cons, ← h4 j]
    by_cases c : j = k
    · rw [if_pos c]; simp [c]
    · rw [if_neg c]; simp [c]
def memK (ks : List Key) (k : Key) : Bool := ks.any fun j => decide (j = k)
theorem memK_iff {ks : List Key} {k : Key} : memK ks k = true ↔ k ∈ ks := by
  unfold memK
  rw [List.any_eq_true]
  constructor
  · rintro ⟨j, hj, e⟩; rw [← of_decide_eq_true e]; exact hj
  · intro h; exact ⟨k, h, decide_eq_true rfl⟩
theorem memK_of {ks : List Key} {k : Key} {b : Bool} (h : b = true ↔ k ∈ ks) : b = memK ks k := by
  rw [Bool.eq_iff_iff, h, memK_iff]
section
variable {K : PySem.W.Frag} {E : L2.St → XK} {G : Gm} {td ty tv : TE} {n m : Nat} {ks : List Key} {f : Key → PyData} {k : Key} {R : Ow}
theorem key_dq {B : Hp} {v : V} {k : Key} (h : Dq B v (keyD k)) : v = kV k := by
  cases k with
  | inl i => cases h; rfl
  | inr s => cases h; rfl
theorem sv_dnotin (hk : Sv ty G (isD (keyD k))) (hd : Rx td G (dKo m ks f)) : Sv (tDNotIn ty td) G (isD (.bool (!memK ks k))) := fun M0 σ B M H Q q =>
  hk M0 σ B M H _ fun y B1 e1 d1 p1 => hd M0 σ B1 M (H.ext e1 d1) _ fun a o ho hr => by
    obtain ⟨kvs, rfl, h2, h3, h4⟩ := hr
    rw [key_dq p1]
    refine ⟨a, valV kvs k, rfl, DGet.k (jn_M ho), ?_⟩
    have e : (valV kvs k).isSome = memK ks k := memK_of (h4 k)
    rw [e]
    exact q _ B1 e1 d1 (.bl _)
theorem sv_dgetO (hd : Rx td G (dKo m ks f)) (hk : Sv ty G (isD (keyD k))) (hm : k ∈ ks) : Sv (tDGet td ty) G (isD (f k)) := fun M0 σ B M H Q q =>
  hd M0 σ B M H _ fun a o ho hr => hk M0 σ B M H _ fun y B1 e1 d1 p1 => by
    obtain ⟨kvs, rfl, h2, h3, h4⟩ := hr
    rw [key_dq p1]
    obtain ⟨v, hv⟩ := Option.isSome_iff_exists.mp ((h4 k).mpr hm)
    obtain ⟨p, hp, e2, e3⟩ := valV_mem hv
    have g := DGet.k (k := k) (jn_M (B := B1) ho)
    rw [hv] at g
    refine ⟨a, v, rfl, g, ?_⟩
    refine q _ B1 e1 d1 ?_
    have := Dq_ex e1 _ _ (h3 p hp)
    rw [e2, e3] at this
    exact this
/-- d[y] = v, d one's own -/
theorem ss_dput (h : G[n]? = some (.ow (dKo m ks f))) (hv : Sv tv G (isD (f k))) (hk : Sv ty G (isD (keyD k))) (hm : m < sizeLine) : Ss E (sDPut (tVar n) ty tv) G (.nx (G.set n (.ow (dKo (m + 1) (k :: ks) f)))) := fun M0 D σ B M H q =>
  hv M0 σ B M H _ fun v B1 e1 d1 p1 => by
    have H1 := H.ext e1 d1
    obtain ⟨l, o, a, c, _, _⟩ := H1.ow n _ h
    refine ⟨.ref l, a, ?_⟩
    refine hk M0 σ B1 M H1 _ fun y B2 e2 d2 p2 => ?_
    have H2 := H1.ext e2 d2
    obtain ⟨l', o', a', c', ⟨kvs, rfl, h2, h3, h4⟩, _⟩ := H2.ow n _ h
    obtain rfl : l = l' := by rw [a] at a'; cases a'; rfl
    rw [key_dq p2]
    refine ⟨l, _, rfl, DPut.k (jn_M c') (by omega), ?_⟩
    rw [upd_own]
    exact q σ B2 _ (e1.trans e2) (H2.change h a' c' (dKo_put h2 h3 h4 (Dq_ex e2 _ _ p1)))
/-- y = {} -/
theorem ss_dnew (f : Key → PyData) (hn : n < G.length := by exact Nat.le_of_ble_eq_true rfl) : Ss E (tAsg tDNewK (gName n)) G (.nx (G.set n (.ow (dKo 0 [] f)))) := fun M0 D σ B M H q p hf => by
  rw [upd_own]
  exact q _ B _ (Ex.refl B) (H.setOw hn hf ⟨[], rfl, Nat.le_refl _, fun p hp => absurd hp List.not_mem_nil, fun k => ⟨fun z => absurd z (by simp [valV]), fun z => absurd z List.not_mem_nil⟩⟩)
end
end Mini

namespace Mini
open PySem PySem.Spec L2 Evl PyProof.Rows
section
variable {K : PySem.W.Frag} {E : XK} {X X1 : Gx} {G G' : Gm} {ts tu : TS} {te ta tb tc tl : TE} {o : Og} {n j l : Nat} {ds es : List PyData} {d : PyData}
/-- for i, x in enumerate(a list that stays), ghosts about -/
theorem sg_forE (h : Sv tl G (isD (.list ds))) (Gi : Nat → Gm) (Xi : Nat → Gx) (N : Nat) (hN : N ≤ ds.length) (h0 : G = Gi 0) (x0 : X = Xi 0) (hj : ∀ i, i ≤ N → j < (Gi i).length) (hl : ∀ i, i ≤ N → l < (Gi i).length)
    (hs : ∀ i d, ds[i]? = some d → i < N → Sg E tu (((Gi i).set j (.im (isD (.int (i : Int))))).set l (.im (isD d))) (Xi i) (.nx (Gi (i + 1)) (Xi (i + 1))))
    (hd : (N = ds.length ∧ o = .nx (Gi N) (Xi N)) ∨ (N < ds.length ∧ o.leaves ∧ Sg E tu (((Gi N).set j (.im (isD (.int (N : Int))))).set l (.im (isD (ds.getD N .none)))) (Xi N) o)) :
    Sg E (tFor (iEnum K (tCons tl tNil)) (gTup K 2 (gCons (gName j) (gCons (gName l) gNil))) tu) G X o := fun M0 D σ B M H g q => by
  subst h0
  subst x0
  exact h M0 σ B M H _ fun v B1 e1 d1 p1 => by
    obtain ⟨a, vs, rfl, ha, hv⟩ := dq_lst p1
    have hlen := DqAll_len hv
    refine ⟨a, vs, rfl, sq_of (jn_B d1 ha), ?_⟩
    refine ⟨fun i m σ H => m = vs.length - i ∧ i ≤ vs.length ∧ Pvg M0 B1 Gi Xi N i σ H, ⟨vs.length, by simp, Nat.zero_le _, Nat.zero_le _, B1, M, rfl, Ex.refl B1, H.ext e1 d1, g.ext e1⟩, ?_⟩
    rintro i m σ' H1 ⟨rfl, hi, p⟩
    obtain ⟨hiN, B', M', rfl, e, H', g'⟩ := p
    have hS : SqL K (jn B' M') a vs := sq_of (jn_B H'.dj (e _ _ ha))
    by_cases hlt : i < vs.length
    · refine .inr ⟨⟨vs, vs[i], hS, List.getElem?_eq_getElem hlt⟩, Pvg M0 B1 Gi Xi N (i + 1), fun σ' H' p' => ⟨vs.length - (i + 1), by omega, rfl, hlt, p'⟩, fun x H2 y => ?_⟩
      obtain ⟨t, x, rfl, ht, rfl, hx⟩ := y
      obtain ⟨d, hd1, px⟩ := DqAll_getV hv (hx vs hS)
      rw [upd_new ht]
      have dj2 := dj_new (o := .tup [.int (i : Nat), x]) H'.dj ht
      have ex2 := ex_new (o := .tup [.int (i : Nat), x]) ht
      refine ⟨t, _, rfl, st_of (jn_B dj2 upd_same), rfl, _, _, rfl, _, _, rfl, rfl, ?_⟩
      have HH := ((H'.ext ex2 dj2).setIm (hj i hiN) (P := isD (.int (i : Int))) (v := .int (i : Int)) (Dq.int _)).setIm (n := l) (P := isD d) (v := x) (by rw [List.length_set]; exact hl i hiN) (Dq_ex (e.trans ex2) d x px)
      have gg := ((g'.ext ex2).set j (isD (.int (i : Int))) (.int (i : Int))).set l (isD d) x
      refine turn_okG (o := o) hiN HH gg (e.trans ex2) (fun w => hs i d hd1 w) (fun w => ?_) (q.ext e1)
      rcases hd with ⟨b, _⟩ | ⟨_, l', b⟩
      · omega
      · have z : ds.getD N .none = d := by rw [← w, List.getD_eq_getElem?_getD, hd1]; rfl
        rw [z, ← w] at b
        exact ⟨l', b⟩
    · refine .inl ⟨⟨vs, hS, by omega⟩, ?_⟩
      rcases hd with ⟨b, c⟩ | ⟨b, _⟩
      · rw [c] at q
        have ei : i = N := by omega
        rw [ei] at H' g'
        exact q σ' B' M' (e1.trans e) H' g'
      · omega
end
end Mini

/-! ### sorted(d): the keys of a dict -/
namespace Mini
open PySem PySem.Spec L2 Evl PyProof.Rows PySem.W
section
variable {prog : Program} {w : World} {A : Around} {E : Value → Shared → Prop} {s : Shared} {K : Type} [DecidableEq K] {knd : KeyKind prog w K} {d : Addr} {kvs : List (K × Value)} {ep : Nat}
theorem collectDk {R : List Value → Shared → Prop} (hh : A.handled = none) (lo : (d == sysModules) = false) (hm : s.heap.DictAt knd d kvs ep) (hn : kvs.length ≤ sizeLine)
    (h : ∀ (h' : Heap) (tk : Nat) (vs : List Value), (∀ b o, s.heap.get? b = some o → h'.get? b = some o) → s.heap.objs.size < h'.objs.size → vs.length = kvs.length → (∀ (i : Nat) (v : Value), vs[i]? = some v → ∃ k x, kvs[i]? = some (k, x) ∧ knd.is k v = true) → R vs { s with heap := h', toks := tk }) :
    wpAny (model prog w) A (collect (.ref d)) R E s := by
  have hd : d < s.heap.objs.size := hm.lt_size
  unfold collect
  refine wpAny_bind (wpAny_runValue (codeAny_builtin entry_proto_collect' ?_))
  rw [Around.under_plainId PySem.F.plain_proto_collect _]
  show wpAny _ A.in1 (newList [] >>= fun l => again (.builtin "list.__iadd__" ⟨[l, .ref d], []⟩)) _ _ s
  refine wpAny_bind (wpAny_newObj_type ?_)
  refine wpAny_pure ⟨plainId_quiet PySem.F.plain_list_iadd _, codeAny_builtin entry_list_iadd' ?_⟩
  rw [Around.under_plainId PySem.F.plain_list_iadd _]
  have hS₁ : (s.heap.push { cls := .type "list", data := .seq ([] : List Value).toArray }).get? s.heap.objs.size = some { cls := .type "list", data := .seq #[] } := Heap.get?_push_size _ rfl
  show wpAny _ A.in1 (Builtin.List.listExtendWith (.ref s.heap.objs.size) (.ref d) (.ref s.heap.objs.size)) _ _ _
  have key := kdl_extend (A := A) (s := { s with heap := s.heap.push { cls := .type "list", data := .seq ([] : List Value).toArray } }) (kdl_dict (prog := prog) (w := w) (knd := knd) (kvs := kvs) (ep := ep) lo)
    (R := fun (q : Result) (s' : Shared) => ∃ (h' : Heap) (tk : Nat) (acc' : Array Value) (c' : Nat), q = .ok (.ret (.ref s.heap.objs.size)) ∧ s' = { s with heap := h', toks := tk } ∧
      (∀ b o, s.heap.get? b = some o → h'.get? b = some o) ∧ h'.get? s.heap.objs.size = some { cls := .type "list", dict := none, data := .seq acc' c', slots := #[] } ∧ ItemsOf (fun i v => ∃ k x, kvs[i]? = some (k, x) ∧ knd.is k v = true) acc' kvs.length)
    hh (hm.push _) s.heap.objs.size (Nat.ne_of_gt hd) (Nat.ne_of_gt hd) (.ref s.heap.objs.size) 0 hS₁
    (fun h' tk acc' c' hk hS' hacc => ⟨h', tk, acc', c', rfl, rfl, fun b o e => hk b o (Nat.ne_of_lt (Heap.lt_size e)) (Heap.get?_push_of_some _ e), hS', hacc⟩) hn
  have fin : ∀ (h' : Heap) (tk : Nat) (acc' : Array Value), (∀ b o, s.heap.get? b = some o → h'.get? b = some o) → s.heap.objs.size < h'.objs.size → ItemsOf (fun i v => ∃ k x, kvs[i]? = some (k, x) ∧ knd.is k v = true) acc' kvs.length → R acc'.toList { s with heap := h', toks := tk } := fun h' tk acc' hk hlt hacc =>
    h h' tk acc'.toList hk hlt (by rw [Array.length_toList]; exact hacc.1) fun i v e => hacc.2 i v (by rw [← Array.getElem?_toList]; exact e)
  refine wpAny_mono key (fun f s' x => ?_) fun e s' x => ?_
  · cases f with
    | done f =>
      obtain ⟨h', tk, acc', c', e, rfl, hk, hS', hacc⟩ := x
      cases e
      show wpAny _ A (load s.heap.objs.size >>= _) _ _ _
      refine wpAny_bind (wpAny_load hS' ?_)
      refine wpAny_pure ?_
      exact fin h' tk acc' hk (Heap.lt_size hS') hacc
    | again c₁ =>
      refine ⟨x.1, codeAny_mono x.2 fun q s₂ y => ?_⟩
      obtain ⟨h', tk, acc', c', rfl, rfl, hk, hS', hacc⟩ := y
      show wpAny _ A (load s.heap.objs.size >>= _) _ _ _
      refine wpAny_bind (wpAny_load hS' ?_)
      refine wpAny_pure ?_
      exact fin h' tk acc' hk (Heap.lt_size hS') hacc
  · obtain ⟨_, _, _, _, e', _⟩ := x
    cases e'
theorem sortedDk {Q : Value → Shared → Prop} (hh : A.handled = none) (lo : (d == sysModules) = false) (hm : s.heap.DictAt knd d kvs ep) (hn : kvs.length ≤ sizeLine)
    (h : ∀ (h' : Heap) (tk : Nat) (vs : List Value), (∀ b o, s.heap.get? b = some o → h'.get? b = some o) → s.heap.objs.size < h'.objs.size → vs.length = kvs.length → (∀ (i : Nat) (v : Value), vs[i]? = some v → ∃ k x, kvs[i]? = some (k, x) ∧ knd.is k v = true) →
      wpAny (model prog w) A.in1 (call (.builtin "list.sort") [.ref h'.objs.size]) (fun _ s' => Q (.ref h'.objs.size) s') E { s with heap := h'.push { cls := .type "list", data := .seq vs.toArray }, toks := tk }) :
    wpAny (model prog w) A (call (.builtin "sorted") [.ref d]) Q E s := by
  refine PySem.Calls.call_function_entry kind_sorted plain_sorted entry_sorted (args_sorted1 _) ?_
  unfold Builtin.«sorted»
  refine wpAny_bind (m := checkCount "sorted" 1 1 _) (wpAny_pure ?_)
  refine wpAny_bind (collectDk (A := A.in1) hh lo hm hn fun h' tk vs hk hlt hl hG => ?_)
  refine wpAny_bind (wpAny_newList ?_ (by rw [hl]; exact hn))
  have hg := h h' tk vs hk hlt hl hG
  refine wpAny_bind (wpAny_holding (wpAny_mono hg (fun _ s' x => ?_) fun _ _ e => e))
  exact wpAny_pure ⟨_, rfl, x⟩
end
def srtI (ns : List Int) : List Int := ns.mergeSort fun p q => decide (p ≤ q)
def rSortDk : List V → Hp → VK → Prop := fun vs H Q => ∃ (a : Addr) (kvs : List (Key × V)) (ns : List Int), vs = [.ref a] ∧ H a = some (.dK kvs) ∧ kvs.map (·.1) = ns.map Sum.inl ∧ ∀ l : Addr, H l = none → Q (.ref l) (upd H l (.lst ((srtI ns).map V.int)))
theorem cr_sortedDk {X : Cx} (hc : X.calm = true) (hu : X.A.units + 64 < cLine) : CallR X (.builtin "sorted") rSortDk := by
  intro pins s σ H xs us Q I r h
  obtain ⟨a, kvs, ns, rfl, ha, hks, q⟩ := h
  obtain rfl := Vals.ref1 r
  have hz : (sizeLine : Nat) = 16777216 := sizeLine_eq
  obtain ⟨z, hd, vs0, rel, dd⟩ := dk_of I.hok ha
  obtain ⟨ep, hat⟩ := dd.dictAt
  have l0 : kvs.length = vs0.length := Paired.length rel
  have l1 : ns.length = kvs.length := by have := congrArg List.length hks; rw [List.length_map, List.length_map] at this; exact this.symm
  have hh : X.A.handled = none := I.ok.hd hc
  refine sortedDk hh hd hat (by omega) fun h' tk vs hk hlt hl hG => ?_
  have each : ∀ (i : Nat) (v : Value), vs[i]? = some v → ∃ k t, ns[i]? = some k ∧ v = .int k t := by
    intro i v hv
    obtain ⟨k, x, h1, h2⟩ := hG i v hv
    obtain ⟨y, h3, h4⟩ := L2.DX.pget rel h1
    have h5 : (kvs.map (·.1))[i]? = some y.1 := by rw [List.getElem?_map, h3]; rfl
    rw [hks, List.getElem?_map] at h5
    cases hn : ns[i]? with
    | none => rw [hn] at h5; cases h5
    | some m =>
      rw [hn] at h5
      have e1 : y.1 = Sum.inl m := (Option.some.inj h5).symm
      have e2 : k = Sum.inl m := by rw [← e1]; exact h4.1.symm
      rw [e2] at h2
      rcases keyIs_shape (show keyIs (Sum.inl m) v = true from h2) with ⟨i, t, e1, e2⟩ | ⟨i, t, e1, e2⟩
      · have e1 : m = i := Sum.inl.inj e1
        subst e1
        exact ⟨m, t, rfl, e2⟩
      · cases e1
  have hob : (h'.push { cls := .type "list", data := .seq vs.toArray }).get? h'.objs.size = some (seqObj "list" vs.toArray 0) := Heap.get?_push_size _ rfl
  have kb : ∀ b o, s.heap.get? b = some o → (h'.push { cls := .type "list", data := .seq vs.toArray }).get? b = some o := fun b o e => Heap.get?_push_of_some _ (hk b o e)
  have ne0 : ∀ b o, h'.get? b = some o → b ≠ h'.objs.size := fun b o e => Nat.ne_of_lt (Heap.lt_size e)
  generalize hh2 : h'.push { cls := .type "list", data := .seq vs.toArray } = h2 at hob kb ⊢
  let R : Value → Int → Prop := fun v k => ∃ t, v = .int k t
  have lvn : vs.length = ns.length := by omega
  have eR : PySem.W.EachIs R vs ns := each_of lvn fun i v k h1 h2 => by
    obtain ⟨m, t, e1, e2⟩ := each i v h1
    rw [h2] at e1
    cases e1
    exact ⟨t, e2⟩
  have er : PySem.W.EachIs (fun v k => ∃ bs, Reads h2 v (PyData.int k) bs ∧ h'.objs.size ∉ bs) vs ns := eR.mono fun v k ⟨t, e⟩ => by
    subst e
    exact ⟨[], .int _ _, List.not_mem_nil⟩
  refine PySem.W.list_sort_data (s := { s with heap := h2, toks := tk }) (bs := ns) (enc := fun k => PyData.int k) (R := R) (n := 0) hob eR er (PySem.W.AllAlike.of fun _ _ => rfl) (PySem.W.Sortable.others fun k => ⟨(fun z => by cases z), fun xs z => by cases z⟩) (by omega) (fun k _ => ?_) fun out ho he => ?_
  · show X.A.units + 1 + 1 + (PyData.int k).depth < cLine
    have : (PyData.int k).depth ≤ 10 := by simp [PyData.depth]
    omega
  have eL : PySem.W.dataLe false (fun k : Int => PyData.int k) = fun p q => decide (p ≤ q) := PySem.W.dataLe_int (fun p : Int => p)
  rw [eL] at he
  have he : PySem.W.EachIs R out (srtI ns) := he
  have pG : Paired RelV ((srtI ns).map V.int) out := by
    have g : ∀ {ms : List Int} {os : List Value}, PySem.W.EachIs R os ms → Paired RelV (ms.map V.int) os := fun {ms os} e => by
      induction e with
      | nil => exact .nil
      | cons r _ ih => exact .cons r ih
    exact g he
  have kF : ∀ b o, b ≠ h'.objs.size → h2.get? b = some o → (sortedHeap h2 h'.objs.size vs (List.toArray out)).get? b = some o := fun b o hb e => (sortedHeap_old hb (Heap.lt_size e)).trans e
  have kS : ∀ b o, s.heap.get? b = some o → (sortedHeap h2 h'.objs.size vs (List.toArray out)).get? b = some o := fun b o e => kF b o (ne0 _ _ (hk b o e)) (kb b o e)
  obtain ⟨eF, heF⟩ := sortedHeap_at (vs := vs) (out := List.toArray out) hob
  show EP X pins σ Q (.ref h'.objs.size) { s with heap := sortedHeap h2 h'.objs.size vs (List.toArray out), toks := tk }
  have I1 : Inv X pins σ H { s with heap := sortedHeap h2 h'.objs.size vs (List.toArray out), toks := tk } := I.kept (t' := tk) kS
  have hn0 : H h'.objs.size = none := I.hok.fresh (Nat.le_of_lt hlt)
  have lm : ((srtI ns).map V.int).length ≤ sizeLine := by unfold srtI; rw [List.length_map, List.length_mergeSort]; omega
  have I3 := I1.take (h' := sortedHeap h2 h'.objs.size vs (List.toArray out)) (t' := tk) (o := .lst ((srtI ns).map V.int)) (fun b ob _ e => e) (I.fpOk (Nat.le_of_lt hlt) hn0) ⟨lm, out, eF, pG, heF⟩
  exact ⟨.ref h'.objs.size, _, I3, rfl, q h'.objs.size hn0⟩
end Mini

/-! ### dicts of one's own, int keys and int values; sorted(d); {k(x): v(x) for x in xs}; d.get(k) of data; t < u of tuples -/
namespace Mini
open PySem PySem.Spec L2 Evl PyProof.Rows
def dIo (kvs : List (Int × Int)) : Ow := ⟨fun _ o B => o = .dK (dkV kvs), fun e h => h⟩
def getZ (kvs : List (Int × Int)) (k z : Int) : Int := match kvs.find? fun p => decide (p.1 = k) with
  | some p => p.2
  | none => z
section
variable {K : PySem.W.Frag} {E : L2.St → XK} {G : Gm} {td ty tv tx tl tk ta tb : TE} {n j : Nat} {kvs : List (Int × Int)} {k z v : Int} {ds : List PyData} {ks : List Key} {f : Key → PyData} {k' : Key}
theorem ss_dnewI (hn : n < G.length := by exact Nat.le_of_ble_eq_true rfl) : Ss E (tAsg tDNewK (gName n)) G (.nx (G.set n (.ow (dIo [])))) := fun M0 D σ B M H q p hf => by
  rw [upd_own]
  exact q _ B _ (Ex.refl B) (H.setOw hn hf rfl)
theorem ss_dputI (h : G[n]? = some (.ow (dIo kvs))) (hv : Sv tv G (isD (.int v))) (hk : Sv ty G (isD (.int k))) (hm : kvs.length < sizeLine) : Ss E (sDPut (tVar n) ty tv) G (.nx (G.set n (.ow (dIo (putI kvs k v))))) := fun M0 D σ B M H q =>
  hv M0 σ B M H _ fun v B1 e1 d1 p1 => by
    have H1 := H.ext e1 d1
    obtain ⟨l, o, a, c, _, _⟩ := H1.ow n _ h
    refine ⟨.ref l, a, ?_⟩
    refine hk M0 σ B1 M H1 _ fun y B2 e2 d2 p2 => ?_
    have H2 := H1.ext e2 d2
    obtain ⟨l', o', a', c', r, _⟩ := H2.ow n _ h
    obtain rfl : l = l' := by rw [a] at a'; cases a'; rfl
    obtain rfl : o' = .dK (dkV kvs) := r
    rw [dp_int p2]
    refine ⟨l, _, rfl, DPut.k (k := Sum.inl k) (jn_M c') (by unfold dkV; rw [List.length_map]; exact hm), ?_⟩
    rw [upd_own, dp_int p1, put_dkV]
    exact q σ B2 _ (e1.trans e2) (H2.change h a' c' rfl)
theorem isD_dk {M : Hp} {l : Addr} {B : Hp} (h : M l = some (.dK (dkV kvs))) : IsD (jn B M) l := .inl ⟨_, .inl (jn_M h)⟩
theorem sv_dget2I (h : Rx td G (dIo kvs)) (hk : Sv ty G (isD (.int k))) (hz : Sv tx G (isD (.int z))) : Sv (tDGet2 td ty tx) G (isD (.int (getZ kvs k z))) := fun M0 σ B M H Q q =>
  h M0 σ B M H _ fun a o ho hr => by
    obtain rfl : o = .dK (dkV kvs) := hr
    refine ⟨a, rfl, isD_dk ho, ?_⟩
    refine hk M0 σ B M H _ fun y B1 e1 d1 p1 => hz M0 σ B1 M (H.ext e1 d1) _ fun x B2 e2 d2 p2 => ?_
    rw [dp_int p1, dp_int p2]
    refine ⟨_, DGet.k (k := Sum.inl k) (jn_M ho), q _ B2 (e1.trans e2) d2 ?_⟩
    rw [val_dkV]
    unfold getZ
    cases kvs.find? fun p => decide (p.1 = k) with
    | none => exact .int _
    | some p => exact .int _
theorem sv_dgetI (h : Rx td G (dIo kvs)) (hk : Sv ty G (isD (.int k))) (hm : k ∈ kvs.map (·.1)) : Sv (tDGet td ty) G (isD (.int (getZ kvs k 0))) := fun M0 σ B M H Q q =>
  h M0 σ B M H _ fun a o ho hr => by
    obtain rfl : o = .dK (dkV kvs) := hr
    refine hk M0 σ B M H _ fun y B1 e1 d1 p1 => ?_
    rw [dp_int p1]
    obtain ⟨p, hp, e⟩ := List.mem_map.mp hm
    have hs : (kvs.find? fun p => decide (p.1 = k)).isSome = true := by rw [List.find?_isSome]; exact ⟨p, hp, decide_eq_true e⟩
    obtain ⟨r, hr⟩ := Option.isSome_iff_exists.mp hs
    have g := DGet.k (k := Sum.inl k) (jn_M (B := B1) ho)
    rw [val_dkV, hr] at g
    refine ⟨a, _, rfl, g, q _ B1 e1 d1 ?_⟩
    unfold getZ
    rw [hr]
    exact .int _
theorem svl_sortDk (h : Rx td G (dIo kvs)) : Svl (tCB rSortDk (tCons td tNil)) G ((srtI (kvs.map (·.1))).map .int) := fun M0 σ B M H Q q =>
  h M0 σ B M H _ fun a o ho hr => by
    obtain rfl : o = .dK (dkV kvs) := hr
    refine ⟨a, dkV kvs, kvs.map (·.1), rfl, jn_M ho, by unfold dkV; rw [List.map_map, List.map_map]; rfl, fun l hl => ?_⟩
    refine q l _ B (Ex.refl B) H.dj hl ?_
    generalize srtI (kvs.map (·.1)) = ns
    induction ns with
    | nil => exact .nil
    | cons n ns ih => exact .cons (.int _) ih
theorem sv_dget1F (hd : Sv td G (isDf ks f)) (hk : Sv ty G (isD (keyD k'))) : Sv (tDGet1 td ty) G (isD (if memK ks k' = true then f k' else .none)) := fun M0 σ B M H Q q => hd M0 σ B M H _ fun v B1 e1 d1 p1 => by
  obtain ⟨a, us, rfl, h1, h2, h3⟩ := p1
  refine ⟨a, rfl, .inl ⟨_, .inl (jn_B d1 h1)⟩, ?_⟩
  refine hk M0 σ B1 M (H.ext e1 d1) _ fun y B2 e2 d2 p2 => ?_
  rw [dp_key p2]
  refine ⟨_, .inl ⟨us, k', .inl (jn_B d2 (e2 _ _ h1)), rfl, rfl⟩, q _ B2 (e1.trans e2) d2 ?_⟩
  unfold valV
  cases hf : us.find? fun kv => decide (kv.1 = k') with
  | none =>
    rw [if_neg (fun z => by
      obtain ⟨p, hp, e⟩ := List.mem_map.mp (h2 ▸ memK_iff.mp z)
      exact List.find?_eq_none.mp hf p hp (decide_eq_true e))]
    exact .non
  | some p =>
    have e0 := List.find?_some hf
    have ek : p.1 = k' := of_decide_eq_true e0
    have hp := List.mem_of_find?_eq_some hf
    rw [if_pos (memK_iff.mpr (by rw [← h2]; exact List.mem_map.mpr ⟨p, hp, ek⟩))]
    exact ek ▸ Dq_ex e2 _ _ (h3 p hp)
theorem sv_ltT {ns ms : List Int} (ha : Sv ta G (isD (.tuple (ns.map .int)))) (hb : Sv tb G (isD (.tuple (ms.map .int)))) : Sv (tOp (rLtT K) ta tb) G (isD (.bool (HT.lexLt ns ms))) := fun M0 σ B M H Q q =>
  ha M0 σ B M H _ fun x B1 e1 d1 p1 => hb M0 σ B1 M (H.ext e1 d1) _ fun y B2 e2 d2 p2 => by
    obtain ⟨a, us, rfl, h1, q1⟩ := dq_tup ((isD (.tuple (ns.map .int))).mono e2 p1)
    obtain ⟨b, vs, rfl, h2, q2⟩ := dq_tup p2
    rw [DqAll_ints q1] at h1
    rw [DqAll_ints q2] at h2
    exact ⟨a, b, ns, ms, rfl, rfl, st_of (jn_B d2 h1), st_of (jn_B d2 h2), q _ B2 (e1.trans e2) d2 (.bl _)⟩
/-- y = {k(x): v(x) for x in xs}, all keys different ints -/
theorem ss_setDcK (h : Rl tl G ds) (kf : PyData → Int) (hnd : (ds.map kf).Nodup) (hn : n < G.length) (hj : j < G.length) (hz : ds.length < 1000000) (hk : ∀ d ∈ ds, Sv tk (Gv G j d) (isD (.int (kf d)))) (hv : ∀ d ∈ ds, Sv tv (Gv G j d) (isD (f (.inl (kf d))))) :
    Ss E (tAsg (tDc (iList K tl) (gName j) tYes tk tv [j]) (gName n)) G (.nx (G.set n (.im (isDf ((ds.map kf).map Sum.inl) f)))) := fun M0 D σ B M H q => h M0 σ B M H _ fun a vs B1 e1 d1 hh q1 => by
  have hlen := DqAll_len q1
  refine ⟨a, rfl, ⟨_, sq_of hh⟩, fun Dl hD => ?_⟩
  have hM := (jn_free hD).2
  refine ⟨fun i m H' => i ≤ ds.length ∧ m = ds.length - i ∧ Pvd B1 M Dl (((ds.take i).map kf).map Sum.inl) f H', ⟨ds.length, Nat.zero_le _, rfl, B1, [], by rw [upd_own], Ex.refl B1, dj_own d1 (jn_free hD).1, rfl, fun p hp => by cases hp⟩, fun i m H' hW => ?_⟩
  obtain ⟨hle, rfl, B', us, rfl, e, dj, h1, h2⟩ := hW
  have hB' : B' Dl = none := dj_free dj upd_same
  have djM : Dj B' M := fun a u q => by
    have := dj a u q
    by_cases z : a = Dl
    · rw [z]; exact hM
    · rw [upd_ne z] at this; exact this
  have hS : SqL K (jn B' (upd M Dl (.dK us))) a vs := by
    refine sq_of ?_
    have hne : a ≠ Dl := fun z => by rw [z, hD] at hh; cases hh
    unfold jn at hh ⊢
    rw [upd_ne hne]
    cases z : M a with
    | some u => rw [z] at hh; exact hh
    | none => rw [z] at hh; exact e _ _ hh
  by_cases z : i < ds.length
  · have zv : i < vs.length := by omega
    have hg : vs[i]? = some vs[i] := List.getElem?_eq_getElem zv
    refine .inr ⟨⟨_, vs[i], hS, hg⟩, fun H' => Pvd B1 M Dl (((ds.take (i + 1)).map kf).map Sum.inl) f H', fun H' p => ⟨ds.length - (i + 1), by omega, by omega, rfl, p⟩, fun x H' hy => ?_⟩
    obtain ⟨rfl, hx⟩ := hy
    obtain rfl : x = vs[i] := by have := hx _ hS; rw [hg] at this; exact (Option.some.inj this).symm
    refine ⟨wipe_one σ j _, ?_⟩
    obtain ⟨d, hd1, px⟩ := DqAll_getV q1 hg
    have hdm := List.mem_of_getElem? hd1
    have hdi : ds[i] = d := (List.getElem?_eq_some_iff.mp hd1).2
    have H2 : Holds M0 (Gv G j d) ((L2.wipe σ [j]).set j (some vs[i])) B' (upd M Dl (.dK us)) := by
      have h1 := ((((H.ext e1 d1).ext e djM).wipes [j]).more (p := Dl) (o := .dK us) (show jn B' M Dl = none by rw [jn_N hM]; exact hB'))
      exact h1.setIm (by show j < (G.set j .no).length; rw [List.length_set]; exact hj) (Dq_ex e d _ px)
    refine tyes_ite ?_
    refine hk d hdm M0 _ _ _ H2 _ fun y B3 e3 d3 p3 => ?_
    refine hv d hdm M0 _ _ _ (H2.ext e3 d3) _ fun w B4 e4 d4 p4 => ?_
    refine ⟨us, Sum.inl (kf d), dp_int p3, jn_M upd_same, ?_, ?_⟩
    · have : (us.map (·.1)).length = (((ds.take i).map kf).map (Sum.inl : Int → Key)).length := by rw [h1]
      rw [List.length_map, List.length_map, List.length_map, List.length_take] at this
      rw [sizeLine_eq]
      omega
    · have et : ((ds.take (i + 1)).map kf).map (Sum.inl : Int → Key) = ((ds.take i).map kf).map Sum.inl ++ [Sum.inl (kf d)] := by rw [List.take_succ, hd1, List.map_append, List.map_append]; rfl
      rw [et]
      refine dc_put (e.trans (e3.trans e4)) d4 h1 ?_ (fun p hp => Dq_ex (e3.trans e4) _ _ (h2 p hp)) p4
      intro hm
      obtain ⟨y, hy, e⟩ := List.mem_map.mp hm
      have e : y = kf d := Sum.inl.inj e
      obtain ⟨k, hk, ek⟩ := List.mem_iff_getElem.mp hy
      rw [List.length_map, List.length_take] at hk
      rw [List.getElem_map, List.getElem_take] at ek
      have := nd_get hnd (i := k) (j := i) (by rw [List.length_map]; omega) (by rw [List.length_map]; exact z) (by rw [List.getElem_map, List.getElem_map, ek, e, hdi])
      omega
  · have ei : i = ds.length := by omega
    subst ei
    refine .inl ⟨⟨_, hS, by rw [hlen]; exact Nat.le_refl _⟩, ?_⟩
    rw [List.take_length] at h1
    exact dc_end (H.ext e1 d1) hM hn ⟨B', us, rfl, e, dj, h1, h2⟩ fun B'' e'' σ' M' H' => q σ' B'' M' (e1.trans e'') H'
end
end Mini

/-! ### try .. except X: without a name -/
namespace Mini
open PySem PySem.Spec L2 Evl PyProof.Rows
section
variable {K : PySem.W.Frag} {E : L2.St → XK} {E0 : L2.St → XK} {G G1 : Gm} {tb : WX → TS} {ts : Addr → Value → Option Addr → TS} {Wout : WX} {c : Value} {C : Addr} {o : Out}
theorem ss_onlyOk (h : ∀ W, Ss (fun σ cls d H => W cls d σ H) (tb W) G o) (hb : ∀ C G', o ≠ .bad C G') : Ss E (fun D σ H => tb (wOnly K c ts Wout D) D σ H) G o := fun M0 D σ B M H q => h _ M0 D σ B M H (by
  cases o with
  | nx G => exact q
  | rt P => exact q
  | rl ds => exact q
  | bk G => exact q
  | ct G => exact q
  | bad C G' => exact absurd rfl (hb C G'))
end
end Mini

/-! ### y = {k: v for k in d}, d a dict of one's own, locked the while -/
namespace Mini
open PySem PySem.Spec L2 Evl PyProof.Rows
def dFz (od : Obj) (kvs : List (Key × V)) (f : Key → PyData) : Ow :=
  ⟨fun _ o B => o = .frz od (.dK kvs) ∧ ∀ p ∈ kvs, Dq B p.2 (f p.1), fun e ⟨h1, h2⟩ => ⟨h1, fun p hp => Dq_ex e _ _ (h2 p hp)⟩⟩
/-- a dict with just these keys -/
def isDk (ks : List Key) (f : Key → PyData) : Ty := ⟨fun v B => ∃ a us, v = .ref a ∧ B a = some (.dK us) ∧ (∀ p ∈ us, Dq B p.2 (f p.1)) ∧ ∀ k, (valV us k).isSome = true ↔ k ∈ ks,
  fun e ⟨a, us, h1, h2, h3, h4⟩ => ⟨a, us, h1, e _ _ h2, fun p hp => Dq_ex e _ _ (h3 p hp), h4⟩⟩
theorem valV_key {kvs : List (Key × V)} {k : Key} : (valV kvs k).isSome = true ↔ k ∈ kvs.map (·.1) := by
  constructor
  · intro h
    obtain ⟨v, hv⟩ := Option.isSome_iff_exists.mp h
    obtain ⟨p, hp, e, _⟩ := valV_mem hv
    exact List.mem_map.mpr ⟨p, hp, e⟩
  · intro h
    obtain ⟨p, hp, e⟩ := List.mem_map.mp h
    unfold valV
    rw [Option.isSome_map, List.find?_isSome]
    exact ⟨p, hp, decide_eq_true e⟩
section
variable {K : PySem.W.Frag} {E : L2.St → XK} {G : Gm} {td ty tv : TE} {n l j m : Nat} {ks : List Key} {f f2 : Key → PyData} {k : Key}
theorem sv_dgetK (hd : Sv td G (isDk ks f)) (hk : Sv ty G (isD (keyD k))) (hm : k ∈ ks) : Sv (tDGet td ty) G (isD (f k)) := fun M0 σ B M H Q q =>
  hd M0 σ B M H _ fun v B1 e1 d1 p1 => by
    obtain ⟨a, us, rfl, h1, h3, h4⟩ := p1
    refine hk M0 σ B1 M (H.ext e1 d1) _ fun y B2 e2 d2 p2 => ?_
    rw [dp_key p2]
    obtain ⟨v, hv⟩ := Option.isSome_iff_exists.mp ((h4 k).mpr hm)
    obtain ⟨p, hp, e3, e4⟩ := valV_mem hv
    refine ⟨a, v, rfl, .inl ⟨us, k, .inl (jn_B d2 (e2 _ _ h1)), rfl, hv.symm⟩, q _ B2 (e1.trans e2) d2 ?_⟩
    have := Dq_ex e2 _ _ (h3 p hp)
    rw [e3, e4] at this
    exact this
theorem sv_dgetFz {od : Obj} {kvs : List (Key × V)} (h : G[n]? = some (.ow (dFz od kvs f))) (hk : Sv ty G (isD (keyD k))) (hm : (valV kvs k).isSome = true) : Sv (tDGet (tVar n) ty) G (isD (f k)) := fun M0 σ B M H Q q => by
  obtain ⟨a, o, h1, h2, ⟨rfl, h3⟩, _⟩ := H.ow n _ h
  refine ⟨.ref a, h1, ?_⟩
  refine hk M0 σ B M H _ fun y B2 e2 d2 p2 => ?_
  rw [dp_key p2]
  obtain ⟨v, hv⟩ := Option.isSome_iff_exists.mp hm
  obtain ⟨p, hp, e3, e4⟩ := valV_mem hv
  refine ⟨a, v, rfl, .inl ⟨kvs, k, .inr ⟨od, jn_M h2⟩, rfl, hv.symm⟩, q _ B2 e2 d2 ?_⟩
  have := Dq_ex e2 _ _ (h3 p hp)
  rw [e3, e4] at this
  exact this
theorem set_back {α : Type} : ∀ {G : List α} {n l : Nat} {x y z : α}, n ≠ l → G[n]? = some x → ((G.set n y).set l z).set n x = G.set l z
  | G, n, l, x, y, z, h, e => by
    obtain ⟨h1, h2⟩ := List.getElem?_eq_some_iff.mp e
    rw [List.set_comm _ _ h, List.set_set, List.set_comm _ _ (Ne.symm h), ← h2, List.set_getElem_self]
theorem ss_lockDc (h : G[n]? = some (.ow (dKo m ks f))) (hl : l < G.length) (hnl : n ≠ l) (hj : j < G.length) (hnj : n ≠ j) (hz : m < 1000000) (hi : ∀ k ∈ ks, ∃ i, k = Sum.inl i)
    (hv : ∀ (od : Obj) (kvs : List (Key × V)), (∀ k, (valV kvs k).isSome = true ↔ k ∈ ks) → ∀ i : Int, Sum.inl i ∈ ks → Sv tv (Gv (G.set n (.ow (dFz od kvs f))) j (.int i)) (isD (f2 (Sum.inl i)))) :
    Ss E (tLock (tAsg (tDc (iKeys (tVar n)) (gName j) tYes (tVar j) tv [j]) (gName l))) G (.nx (G.set l (.im (isDk ks f2)))) := fun M0 D σ B M H q => by
  obtain ⟨d0, o, a, c, ⟨kvs, rfl, h2, h3, h4⟩, fr⟩ := H.ow n _ h
  refine ⟨d0, .dK kvs, jn_M c, trivial, fun od => ?_⟩
  rw [upd_own]
  have H0 : Holds M0 (G.set n (.ow (dFz od kvs f))) σ B (upd M d0 (.frz od (.dK kvs))) := H.change h a c ⟨rfl, h3⟩
  have hv := hv od kvs h4
  have hG0 : (G.set n (.ow (dFz od kvs f)))[n]? = some (.ow (dFz od kvs f)) := List.getElem?_set_self (List.getElem?_eq_some_iff.mp h).1
  have c0 : upd M d0 (.frz od (.dK kvs)) d0 = some (.frz od (.dK kvs)) := upd_same
  generalize upd M d0 (.frz od (.dK kvs)) = M1 at H0 c0 ⊢
  refine ⟨.ref d0, a, d0, od, rfl, .inl ⟨kvs, jn_M c0, fun Dl hD => ?_⟩⟩
  have hM := (jn_free hD).2
  have hne : d0 ≠ Dl := fun z => by rw [← z, c0] at hM; cases hM
  let W : Nat → Hp → Prop := fun i H' => ∃ B' us, H' = jn B' (upd M1 Dl (.dK us)) ∧ Ex B B' ∧ Dj B' (upd M1 Dl (.dK us)) ∧ (dKo i (((kvs.take i).map (·.1)).reverse) f2).r Dl (.dK us) B'
  refine ⟨fun i mm H' => i ≤ kvs.length ∧ mm = kvs.length - i ∧ W i H', ⟨kvs.length, Nat.zero_le _, rfl, B, [], by rw [upd_own], Ex.refl B, dj_own H0.dj (jn_free hD).1, [], rfl, Nat.le_refl _, fun p hp => absurd hp List.not_mem_nil, fun k => ⟨fun z => absurd z (by simp [valV]), fun z => absurd z List.not_mem_nil⟩⟩, fun i mm H' hW => ?_⟩
  obtain ⟨hle, rfl, B', us, rfl, e, dj, us', hus, u1, u2, u3⟩ := hW
  cases hus
  have hB' : B' Dl = none := dj_free dj upd_same
  have djM : Dj B' M1 := fun a u q => by
    have := dj a u q
    by_cases z : a = Dl
    · rw [z]; exact hM
    · rw [upd_ne z] at this; exact this
  have hfz : jn B' (upd M1 Dl (.dK us)) d0 = some (.frz od (.dK kvs)) := jn_M (by rw [upd_ne hne]; exact c0)
  by_cases z : i < kvs.length
  · refine .inr ⟨⟨hfz, z⟩, W (i + 1), fun H' p => ⟨kvs.length - (i + 1), by omega, by omega, rfl, p⟩, fun x H' hy => ?_⟩
    obtain ⟨rfl, kk, vv, hkv, rfl⟩ := hy
    have hkm : kk ∈ ks := (h4 kk).mp (valV_key.mpr (List.mem_map.mpr ⟨(kk, vv), List.mem_of_getElem? hkv, rfl⟩))
    obtain ⟨ii, rfl⟩ := hi kk hkm
    refine ⟨wipe_one σ j _, ?_⟩
    have H2 : Holds M0 (Gv (G.set n (.ow (dFz od kvs f))) j (.int ii)) ((L2.wipe σ [j]).set j (some (V.int ii))) B' (upd M1 Dl (.dK us)) := by
      have h1 := (((H0.ext e djM).wipes [j]).more (p := Dl) (o := .dK us) (show jn B' M1 Dl = none by rw [jn_N hM]; exact hB'))
      exact h1.setIm (by show j < ((G.set n _).set j .no).length; rw [List.length_set, List.length_set]; exact hj) (.int _)
    refine tyes_ite ?_
    have hjj : ((L2.wipe σ [j]).set j (some (V.int ii)))[j]? = some (some (V.int ii)) := List.getElem?_set_self (by show j < (σ.set j none).length; rw [List.length_set, H.len]; exact hj)
    refine ⟨_, hjj, ?_⟩
    refine hv ii hkm M0 _ _ _ H2 _ fun y B4 e4 d4 p4 => ?_
    refine ⟨us, Sum.inl ii, rfl, jn_M upd_same, by rw [sizeLine_eq]; omega, ?_⟩
    have et : ((kvs.take (i + 1)).map (·.1)).reverse = Sum.inl ii :: ((kvs.take i).map (·.1)).reverse := by
      rw [List.take_succ, hkv, List.map_append, List.reverse_append]; rfl
    refine ⟨B4, putK us (Sum.inl ii) y, by rw [upd_own, upd_upd], e.trans e4, fun a u q => ?_, ?_⟩
    · have := d4 a u q
      by_cases w : a = Dl
      · rw [w, upd_same] at this; cases this
      · rw [upd_ne w] at this ⊢; exact this
    · rw [et]
      exact dKo_put (a := Dl) (f := f2) u1 (fun p hp => Dq_ex e4 _ _ (u2 p hp)) u3 p4
  · have ei : i = kvs.length := by omega
    subst ei
    refine .inl ⟨⟨hfz, Nat.le_refl _⟩, ?_⟩
    rw [List.take_length] at u3
    rw [jn_push hM]
    have hDn : jn B' M1 Dl = none := by rw [jn_N hM]; exact hB'
    have eN : Ex B' (upd B' Dl (.dK us)) := ex_new hDn
    have djN : Dj (upd B' Dl (.dK us)) M1 := dj_push dj hM
    have key : ∀ k, (valV us k).isSome = true ↔ k ∈ ks := fun k => by rw [u3 k, List.mem_reverse, ← valV_key, h4 k]
    have H3 : Holds M0 ((G.set n (.ow (dFz od kvs f))).set l (.im (isDk ks f2))) (σ.set l (some (.ref Dl))) (upd B' Dl (.dK us)) M1 :=
      ((H0.ext e djM).ext eN djN).setIm (by rw [List.length_set]; exact hl) ⟨Dl, us, rfl, upd_same, fun p hp => Dq_ex eN _ _ (u2 p hp), key⟩
    refine ⟨jn_M c0, ?_⟩
    have hg : ((G.set n (.ow (dFz od kvs f))).set l (.im (isDk ks f2)))[n]? = some (.ow (dFz od kvs f)) := by rw [List.getElem?_set_ne (Ne.symm hnl)]; exact hG0
    have hσ : (σ.set l (some (.ref Dl)))[n]? = some (some (.ref d0)) := by rw [List.getElem?_set_ne (Ne.symm hnl)]; exact a
    have H4 := H3.change (R' := dKo m ks f) (o' := .dK kvs) hg hσ c0 ⟨kvs, rfl, h2, fun p hp => Dq_ex (e.trans eN) _ _ (h3 p hp), h4⟩
    rw [set_back hnl h] at H4
    rw [upd_own]
    exact q _ _ _ (e.trans eN) H4
end
end Mini

/-! ### (i, t) < (j, u): an int and a tuple of ints -/
namespace Mini
open PySem PySem.Spec L2 Evl PyProof.Rows
def pairLt (a : Int) (ns : List Int) (b : Int) (ms : List Int) : Bool := if a = b then HT.lexLt ns ms else decide (a < b)
def itD (a : Int) (ns : List Int) : PyData := .tuple [.int a, .tuple (ns.map .int)]
def rLtP (K : PySem.W.Frag) : R2 := fun x y H Q => ∃ a b ns ms, Dp K H x (itD a ns) ∧ Dp K H y (itD b ms) ∧ Q (.bl (pairLt a ns b ms)) H
theorem listLt_lex : ∀ ns ms : List Int, PySem.W.listLt ns ms = HT.lexLt ns ms
  | [], [] => rfl
  | [], _ :: _ => rfl
  | _ :: _, [] => rfl
  | x :: xs, y :: ys => by
    rw [HT.lexLt_cons, ← listLt_lex xs ys]
    rfl
theorem op_ltP {X : Cx} (hu : X.A.units + 64 < cLine) : OpR X (compareOp .Lt) (rLtP X.K) := by
  intro pins s σ H x y v u Q I rx ry h
  obtain ⟨a, b, ns, ms, hd, he, q⟩ := h
  obtain ⟨as, r1⟩ := Dp.reads I _ x v hd rx
  obtain ⟨bs, r2⟩ := Dp.reads I _ y u he ry
  refine PySem.W.lt_datum (α := Int × PySem.W.Tup Int) (x := (a, ⟨ns⟩)) (y := (b, ⟨ms⟩)) ⟨as, r1⟩ ⟨bs, r2⟩ (Nat.lt_of_le_of_lt (Nat.add_le_add_left (by decide) _) hu) ?_
  refine ⟨.bl (pairLt a ns b ms), H, I, ?_, q⟩
  show Value.bool _ = Value.bool _
  congr 1
  show (if a = b then PySem.W.listLt ns ms else decide (a < b)) = _
  rw [listLt_lex]; rfl
section
variable {K : PySem.W.Frag} {G : Gm} {ta tb : TE} {a b : Int} {ns ms : List Int}
theorem sv_ltP (ha : Sv ta G (isD (itD a ns))) (hb : Sv tb G (isD (itD b ms))) : Sv (tOp (rLtP K) ta tb) G (isD (.bool (pairLt a ns b ms))) := fun M0 σ B M H Q q =>
  ha M0 σ B M H _ fun x B1 e1 d1 p1 => hb M0 σ B1 M (H.ext e1 d1) _ fun y B2 e2 d2 p2 =>
    ⟨a, b, ns, ms, Dq_dp _ _ (Dq_ex (jn_ex d2) _ _ (Dq_ex e2 _ _ p1)), Dq_dp _ _ (Dq_ex (jn_ex d2) _ _ p2), q _ B2 (e1.trans e2) d2 (.bl _)⟩
end
end Mini

namespace Mini
open PySem PySem.Spec L2 Evl PyProof.Rows

/-! ### x -> 5 x + 1 comes to each number below a power of two -/
theorem pow5_m4 (e : Nat) : 5 ^ e % 4 = 1 := by
  induction e with
  | zero => rfl
  | succ e ih => rw [Nat.pow_succ]; omega
theorem pow5_m8 (e : Nat) : 5 ^ (2 * e) % 8 = 1 := by
  induction e with
  | zero => rfl
  | succ e ih =>
    have q : 5 ^ (2 * (e + 1)) = 5 ^ (2 * e) * 25 := by rw [show 2 * (e + 1) = 2 * e + 2 from rfl, Nat.pow_add]
    rw [q]; omega
theorem two_dvd5 : ∀ k d : Nat, 2 ^ (k + 2) ∣ 5 ^ d - 1 → 2 ^ k ∣ d
  | 0, d, _ => Nat.one_dvd d
  | k + 1, d, h => by
    have h8 : 8 ∣ 5 ^ d - 1 := Nat.dvd_trans ⟨2 ^ k, by rw [show k + 1 + 2 = 3 + k from by omega, Nat.pow_add]⟩ h
    have hp : 1 ≤ 5 ^ d := Nat.one_le_pow _ _ (by decide)
    rcases Nat.mod_two_eq_zero_or_one d with z | z
    · obtain ⟨e, rfl⟩ : ∃ e, d = 2 * e := ⟨d / 2, by omega⟩
      have h4 := pow5_m4 e
      obtain ⟨c, hc⟩ : ∃ c, 5 ^ e + 1 = 2 * c := ⟨(5 ^ e + 1) / 2, by omega⟩
      have hodd : c % 2 = 1 := by omega
      have he : 1 ≤ 5 ^ e := Nat.one_le_pow _ _ (by decide)
      have hf : 5 ^ (2 * e) - 1 = (5 ^ e - 1) * c * 2 := by
        have s1 : 5 ^ (2 * e) = 5 ^ e * 5 ^ e := by rw [Nat.two_mul, Nat.pow_add]
        have s2 : (5 ^ e - 1) * (5 ^ e + 1) = 5 ^ e * 5 ^ e - 1 := by
          obtain ⟨u, hu⟩ : ∃ u, 5 ^ e = u + 1 := ⟨5 ^ e - 1, by omega⟩
          rw [hu, Nat.add_sub_cancel, Nat.mul_add, Nat.add_mul, Nat.mul_add]; omega
        rw [s1, ← s2, hc, Nat.mul_assoc, Nat.mul_comm 2 c]
      rw [hf, show k + 1 + 2 = (k + 2) + 1 from rfl, Nat.pow_succ] at h
      have h2 : 2 ^ (k + 2) ∣ (5 ^ e - 1) * c := Nat.dvd_of_mul_dvd_mul_right (by decide) h
      have cop : Nat.Coprime (2 ^ (k + 2)) c := Nat.Coprime.pow_left _ (by
        rw [Nat.coprime_iff_gcd_eq_one, Nat.gcd_rec, hodd]; rfl)
      have h3 := cop.dvd_of_dvd_mul_right h2
      obtain ⟨v, hv⟩ := two_dvd5 k e h3
      exact ⟨v, by rw [hv, Nat.pow_succ]; rw [Nat.mul_comm (2 ^ k) 2, Nat.mul_assoc]⟩
    · exfalso
      obtain ⟨e, rfl⟩ : ∃ e, d = 2 * e + 1 := ⟨d / 2, by omega⟩
      have := pow5_m8 e
      have s1 : 5 ^ (2 * e + 1) = 5 ^ (2 * e) * 5 := Nat.pow_succ ..
      omega
def PT2 (m : Nat) : Prop := ∃ k, 3 ≤ k ∧ k ≤ 20 ∧ m + 1 = 2 ^ k
theorem lcg_form {m k : Nat} (hm : m + 1 = 2 ^ k) (i : Nat) (hi : i ≤ m) : ∀ c, lcgI m i c ≤ m ∧ (4 * lcgI m i c + 1) % 2 ^ (k + 2) = 5 ^ c * (4 * i + 1) % 2 ^ (k + 2)
  | 0 => ⟨hi, by show (4 * i + 1) % _ = 5 ^ 0 * (4 * i + 1) % _; rw [Nat.pow_zero, Nat.one_mul]⟩
  | c + 1 => by
    obtain ⟨_, ih⟩ := lcg_form hm i hi c
    have e4 : 2 ^ (k + 2) = 4 * (m + 1) := by rw [Nat.pow_add, ← hm]; omega
    refine ⟨Nat.le_of_lt_succ (Nat.mod_lt _ (Nat.succ_pos _)), ?_⟩
    show (4 * ((lcgI m i c * 5 + 1) % (m + 1)) + 1) % 2 ^ (k + 2) = _
    have s1 : (4 * ((lcgI m i c * 5 + 1) % (m + 1)) + 1) % 2 ^ (k + 2) = (4 * (lcgI m i c * 5 + 1) + 1) % 2 ^ (k + 2) := by
      rw [← Nat.mul_mod_mul_left, ← e4, Nat.mod_add_mod]
    have s2 : 4 * (lcgI m i c * 5 + 1) + 1 = 5 * (4 * lcgI m i c + 1) := by omega
    have s3 : 5 ^ (c + 1) * (4 * i + 1) = 5 * (5 ^ c * (4 * i + 1)) := by rw [Nat.pow_succ, Nat.mul_comm (5 ^ c) 5, Nat.mul_assoc]
    rw [s1, s2, s3, Nat.mul_mod, ih, ← Nat.mul_mod]
theorem lcg_ne {m i a b : Nat} (hm : PT2 m) (hi : i ≤ m) (hab : a < b) (hb : b ≤ m + a) : lcgI m i a ≠ lcgI m i b := fun e => by
  obtain ⟨k, _, _, hk⟩ := hm
  have e1 := (lcg_form hk i hi a).2
  have e2 := (lcg_form hk i hi b).2
  rw [e, e2] at e1
  obtain ⟨d, rfl⟩ : ∃ d, b = a + d := ⟨b - a, by omega⟩
  have hd : 1 ≤ 5 ^ d := Nat.one_le_pow _ _ (by decide)
  have q : 5 ^ (a + d) * (4 * i + 1) - 5 ^ a * (4 * i + 1) = (5 ^ a * (4 * i + 1)) * (5 ^ d - 1) := by
    rw [Nat.pow_add, Nat.mul_sub, Nat.mul_one]
    congr 1
    rw [Nat.mul_assoc, Nat.mul_assoc, Nat.mul_comm (5 ^ d)]
  have dv : 2 ^ (k + 2) ∣ (5 ^ a * (4 * i + 1)) * (5 ^ d - 1) := by
    rw [← q]
    exact Nat.dvd_of_mod_eq_zero (Nat.sub_mod_eq_zero_of_mod_eq e1)
  have odd : (5 ^ a * (4 * i + 1)) % 2 = 1 := by
    have z1 : 5 ^ a % 2 = 1 := by have := pow5_m4 a; omega
    rw [Nat.mul_mod, z1]; omega
  have cop : Nat.Coprime (2 ^ (k + 2)) (5 ^ a * (4 * i + 1)) := Nat.Coprime.pow_left _ (by rw [Nat.coprime_iff_gcd_eq_one, Nat.gcd_rec, odd]; rfl)
  have h3 := two_dvd5 k d (cop.dvd_of_dvd_mul_left dv)
  have h4 := Nat.le_of_dvd (by omega) h3
  omega
/-! ### the way of a search through a table of any size -/
theorem way_in {m : Nat} {h : Int} {c : Nat} : way m h c ≤ m := by
  have hi : SetTable.bits h % (m + 1) ≤ m := Nat.le_of_lt_succ (Nat.mod_lt _ (Nat.succ_pos _))
  have r := runEnd_bd hi
  have q := nth_in (m := m) c (runAt m (SetTable.bits h % (m + 1)) (SetTable.bits h)) (by unfold runAt; dsimp only; omega)
  show (nth m (runAt m (SetTable.bits h % (m + 1)) (SetTable.bits h)) c).j ≤ m
  omega
/-- some run begins outside, soon -/
theorem run_out {m : Nat} (hm : PT2 m) (h : Int) (occ : List Nat) (hl : occ.length ≤ m) : ∃ n, n ≤ 12 + occ.length ∧ runI m (SetTable.bits h) n ∉ occ := by
  rcases Classical.em (∃ n, n ≤ 12 + occ.length ∧ runI m (SetTable.bits h) n ∉ occ) with z | z
  · exact z
  · exfalso
    have all : ∀ c, c ≤ occ.length → lcgI m (runI m (SetTable.bits h) 12) c ∈ occ := fun c hc => by
      rcases Classical.em (lcgI m (runI m (SetTable.bits h) 12) c ∈ occ) with y | y
      · exact y
      · exact absurd ⟨12 + c, by omega, by rw [runI_tail (bits_lt h)]; exact y⟩ z
    have nd : ((List.range (occ.length + 1)).map fun c => lcgI m (runI m (SetTable.bits h) 12) c).Nodup := by
      rw [List.Nodup, List.pairwise_map]
      refine List.Pairwise.imp_of_mem (fun {a b} ha hb hab => ?_) List.pairwise_lt_range
      have := List.mem_range.mp hb
      exact lcg_ne hm (runI_le m _ 12) hab (by omega)
    have q := nat_nodup_len _ occ nd fun x hx => by
      obtain ⟨c, hc, rfl⟩ := List.mem_map.mp hx
      exact all c (by have := List.mem_range.mp hc; omega)
    rw [List.length_map, List.length_range] at q
    omega
theorem way_out {m : Nat} (hm : PT2 m) (h : Int) (occ : List Nat) (hl : occ.length ≤ m) : ∃ K, K ≤ 10 * (12 + occ.length) ∧ way m h K ∉ occ ∧ ∀ c, c < K → way m h c ∈ occ := by
  obtain ⟨n, hn, e⟩ := run_out hm h occ hl
  obtain ⟨c, hc, e2⟩ := run_nth m (SetTable.bits h) n
  obtain ⟨K, k1, k2, k3⟩ := st_least (p := fun c => way m h c ∉ occ) c (by show (nth m (runAt m (SetTable.bits h % (m + 1)) (SetTable.bits h)) c).j ∉ occ; rw [e2]; exact e)
  exact ⟨K, by omega, k2, fun c' hc' => Classical.byContradiction fun y => k3 c' hc' y⟩
/-- a table of any size -/
structure Tab (t : SetTable) (hs : List Int) : Prop where
  ris : Ris t.place.toList
  dm : t.dummies = #[]
  sz : t.place.size = hs.length
  mok : PT2 t.mask
  bd : ∀ x ∈ t.place.toList, x ≤ t.mask
  reach : ∀ (i : Nat) (h : Int) (j : Nat), hs[i]? = some h → t.place.toList[i]? = some j → ∃ c, way t.mask h c = j ∧ ∀ c', c' < c → way t.mask h c' ∈ t.place.toList
theorem Tab.len {t : SetTable} {hs : List Int} (T : Tab t hs) : t.place.toList.length = hs.length := by rw [Array.length_toList, T.sz]
theorem PT2.odd {m : Nat} (h : PT2 m) : m % 2 = 1 := by
  obtain ⟨k, h1, _, h3⟩ := h
  obtain ⟨l, rfl⟩ : ∃ l, k = l + 1 := ⟨k - 1, by omega⟩
  rw [Nat.pow_succ] at h3
  omega
theorem Tab.first {t : SetTable} {hs : List Int} (T : Tab t hs) (hl : hs.length ≤ t.mask) (h : Int) : ∃ K, K ≤ 10 * (12 + hs.length) ∧ way t.mask h K ∉ t.place.toList ∧ ∀ c, c < K → way t.mask h c ∈ t.place.toList := by
  have q := way_out T.mok h t.place.toList (by rw [T.len]; exact hl)
  rw [T.len] at q
  exact q
theorem Tab.before {t : SetTable} {hs : List Int} (T : Tab t hs) {h : Int} {K i j : Nat} (hK : way t.mask h K ∉ t.place.toList) (hi : hs[i]? = some h) (hj : t.place.toList[i]? = some j) : ∃ c, c < K ∧ way t.mask h c = j := by
  obtain ⟨c, e, hb⟩ := T.reach i h j hi hj
  have hj' := List.mem_of_getElem? hj
  rcases Nat.lt_trichotomy c K with z | z | z
  · exact ⟨c, z, e⟩
  · subst z; exact absurd (e ▸ hj') hK
  · exact absurd (hb K z) hK
theorem Tab.put {t : SetTable} {hs : List Int} (T : Tab t hs) {h : Int} {K p : Nat} (hp : SetTable.below t.place (way t.mask h K) = p) (hK : way t.mask h K ∉ t.place.toList) (hb : ∀ c, c < K → way t.mask h c ∈ t.place.toList) :
    p ≤ hs.length ∧ Tab (t.put (way t.mask h K)).1 (hs.take p ++ h :: hs.drop p) := by
  subst hp
  have hjm : way t.mask h K ≤ t.mask := way_in
  obtain ⟨c1, _, _⟩ := below_cut T.ris (way t.mask h K)
  have sz := T.sz
  have pl := put_place t (way t.mask h K)
  generalize hp : SetTable.below t.place (way t.mask h K) = p at c1 pl ⊢
  have h1 : p ≤ hs.length := by omega
  have h2 : p ≤ t.place.toList.length := by rw [T.len]; exact h1
  have up : ∀ {x : Nat}, x ∈ t.place.toList → x ∈ (t.put (way t.mask h K)).1.place.toList := fun hx => by rw [pl]; exact mem_ins.2 (.inr hx)
  have sz2 : (t.put (way t.mask h K)).1.place.size = (hs.take p ++ h :: hs.drop p).length := by rw [← Array.length_toList, pl, len_ins _ h2, len_ins _ h1, T.len]
  refine ⟨h1, ⟨ris_insert T.ris fun e => hK (List.mem_of_getElem? (by rw [Array.getElem?_toList]; exact e)), put_dm T.dm _, sz2, T.mok, fun x hx => ?_, fun i g j a b => ?_⟩⟩
  · rw [pl] at hx
    rcases mem_ins.1 hx with z | z
    · rw [z]; exact hjm
    · exact T.bd x z
  · rw [tins_get hs h1] at a
    rw [pl, tins_get _ h2] at b
    show ∃ c, way t.mask g c = j ∧ ∀ c', c' < c → way t.mask g c' ∈ (t.put (way t.mask h K)).1.place.toList
    split at a
    · rename_i z
      rw [if_pos z] at b
      obtain ⟨c, e, y⟩ := T.reach i g j a b
      exact ⟨c, e, fun c' hc => up (y c' hc)⟩
    · rename_i z
      rw [if_neg z] at b
      split at a
      · rename_i z2
        rw [if_pos z2] at b
        cases a; cases b
        exact ⟨K, rfl, fun c' hc => up (hb c' hc)⟩
      · rename_i z2
        rw [if_neg z2] at b
        obtain ⟨c, e, y⟩ := T.reach (i - 1) g j a b
        exact ⟨c, e, fun c' hc => up (y c' hc)⟩
/-! ### laying a table anew -/
theorem free_at {m : Nat} (hm : PT2 m) (owner : Array (Option Nat)) (ps : List Nat) (hps : ∀ j, j ≤ m → oAt owner j ≠ none → j ∈ ps) (hl : ps.length ≤ m) (h : Int) :
    ∃ K, SetTable.layClean.free m owner (SetTable.turns m) (SetTable.bits h % (m + 1)) (SetTable.bits h) = some (way m h K) ∧ oAt owner (way m h K) = none ∧ ∀ c, c < K → oAt owner (way m h c) ≠ none := by
  obtain ⟨n, hn, e⟩ := run_out hm h ps hl
  have hw : way m h (off m (SetTable.bits h % (m + 1)) (SetTable.bits h) n) = runI m (SetTable.bits h) n := by
    show (nth m (runAt m (SetTable.bits h % (m + 1)) (SetTable.bits h)) (off m (SetTable.bits h % (m + 1)) (SetTable.bits h) n)).j = _
    rw [nth_off, itL_run]
    rfl
  obtain ⟨K, k1, k2, k3⟩ := st_least (p := fun c => oAt owner (way m h c) = none) (off m (SetTable.bits h % (m + 1)) (SetTable.bits h) n) (Classical.byContradiction fun y => e (hps _ (runI_le m _ n) (by rw [← hw]; exact y)))
  refine ⟨K, free_spec m owner (SetTable.turns m) n _ _ K (by unfold SetTable.turns; omega) k1 (fun c hc => ?_) ?_, k2, k3⟩
  · cases z : oAt owner (nth m (runAt m (SetTable.bits h % (m + 1)) (SetTable.bits h)) c).j with
    | none => exact absurd z (k3 c hc)
    | some _ => rfl
  · show (oAt owner (way m h K)).isNone = true
    rw [k2]; rfl
theorem own_next {m : Nat} (hm : PT2 m) {done : List Int} {owner : Array (Option Nat)} (W : Own m done owner) (hl : done.length ≤ m) (h : Int) :
    ∃ j, SetTable.layClean.free m owner (SetTable.turns m) (SetTable.bits h % (m + 1)) (SetTable.bits h) = some j ∧ Own m (done ++ [h]) (owner.setIfInBounds j (some done.length)) := by
  obtain ⟨ps, hps, hin⟩ := W.ps
  obtain ⟨K, e1, e2, e3⟩ := free_at hm owner ps hin (by omega) h
  have hs : way m h K < owner.size := by rw [W.sz]; exact Nat.lt_succ_of_le way_in
  have me := oAt_set_self (some done.length) hs
  have keep : ∀ {i : Nat}, oAt owner i ≠ none → oAt (owner.setIfInBounds (way m h K) (some done.length)) i ≠ none := fun {i} hi => by
    by_cases c : i = way m h K
    · rw [c, me]; exact fun e => nomatch e
    · rw [oAt_set_ne _ c]; exact hi
  refine ⟨_, e1, { sz := by rw [Array.size_setIfInBounds]; exact W.sz, at_ := fun j k hj e => ?_, all := fun k hk => ?_, ps := ⟨way m h K :: ps, by simp [hps], fun j hj e => ?_⟩ }⟩
  · by_cases c : j = way m h K
    · rw [c, me] at e
      cases e
      exact ⟨h, K, by simp, c.symm, fun c' hc => keep (e3 c' hc)⟩
    · rw [oAt_set_ne _ c] at e
      obtain ⟨g, K', a1, a2, a3⟩ := W.at_ j k hj e
      exact ⟨g, K', by rw [List.getElem?_append_left (List.getElem?_eq_some_iff.mp a1).1]; exact a1, a2, fun c' hc => keep (a3 c' hc)⟩
  · by_cases c : k < done.length
    · obtain ⟨j, hj, e⟩ := W.all k c
      refine ⟨j, hj, ?_⟩
      rw [oAt_set_ne _ fun z => by rw [z, e2] at e; cases e]
      exact e
    · have : k = done.length := by simp at hk; omega
      exact ⟨_, way_in, by rw [this]; exact me⟩
  · by_cases c : j = way m h K
    · exact c ▸ List.mem_cons_self
    · rw [oAt_set_ne _ c] at e
      exact List.mem_cons_of_mem _ (hin j hj e)
theorem lay_fold {m : Nat} (hm : PT2 m) : ∀ (rest done : List Int) (owner : Array (Option Nat)), Own m done owner → done.length + rest.length ≤ m →
    ∃ ow', rest.foldl (stepF m) (some (owner, done.length)) = some (ow', (done ++ rest).length) ∧ Own m (done ++ rest) ow'
  | [], done, owner, W, _ => ⟨owner, by simp, by simpa using W⟩
  | h :: rest, done, owner, W, hl => by
    obtain ⟨j, e, W'⟩ := own_next hm W (by simp at hl; omega) h
    obtain ⟨ow', f, W2⟩ := lay_fold hm rest (done ++ [h]) _ W' (by simp at hl ⊢; omega)
    refine ⟨ow', ?_, by simpa using W2⟩
    rw [List.foldl_cons, stepF_some e]
    simpa using f
theorem lay_ok {m : Nat} (hm : PT2 m) {hs : Array Int} (hn : hs.size ≤ m) : ∃ owner, SetTable.layClean m hs = some owner ∧ Own m hs.toList owner := by
  obtain ⟨owner, f, W⟩ := lay_fold hm hs.toList [] _ (Own.init m) (by simpa using hn)
  refine ⟨owner, ?_, by simpa using W⟩
  rw [layClean_eq, show (some (Array.replicate (m + 1) none, 0) : Option (Array (Option Nat) × Nat)) = some (Array.replicate (m + 1) none, ([] : List Int).length) from rfl, f]
  rfl
theorem relay_ok (t : SetTable) {hs : Array Int} {wanted M : Nat} (hw : SetTable.sizeAbove wanted - 1 = M) (hM : PT2 M) (hn : hs.size ≤ M) :
    ∃ t' order, t.relaid hs wanted = some (t', order) ∧ order.toList.Perm (List.range hs.size) ∧ Tab t' (order.toList.map fun i => hs.getD i 0) ∧ t'.mask = M ∧ t'.led = t.led := by
  obtain ⟨owner, e, W⟩ := lay_ok hM hn
  obtain ⟨r1, r2⟩ : Ris ((liveOf M owner).map (·.1)) ∧ ∀ x ∈ (liveOf M owner).map (·.1), x ∈ List.range (M + 1) := ris_live (fun j => owner.getD j none) (List.range (M + 1)) (by unfold Ris; exact List.pairwise_lt_range)
  have le1 : (liveOf M owner).length ≤ hs.size := by
    obtain ⟨ps, p1, p2⟩ := W.ps
    have nd : ((liveOf M owner).map (·.1)).Nodup := List.Pairwise.imp (fun h => Nat.ne_of_lt h) r1
    have a := nat_nodup_len ((liveOf M owner).map (·.1)) ps nd fun x hx => by
      obtain ⟨⟨y, k⟩, hq, rfl⟩ := List.mem_map.mp hx
      obtain ⟨b1, b2⟩ := (mem_live W.sz).1 hq
      exact p2 y b1 (by rw [b2]; exact fun z => nomatch z)
    simpa [p1] using a
  have mem2 : ∀ k, k < hs.size → k ∈ (liveOf M owner).map (·.2) := fun k hk => by
    obtain ⟨j, b1, b2⟩ := W.all k (by simpa using hk)
    exact List.mem_map.mpr ⟨(j, k), (mem_live W.sz).2 ⟨b1, b2⟩, rfl⟩
  have le2 : hs.size ≤ (liveOf M owner).length := by
    have b := nat_nodup_len (List.range hs.size) ((liveOf M owner).map (·.2)) List.nodup_range fun k hk => mem2 k (List.mem_range.mp hk)
    simpa using b
  refine ⟨tabOf t M owner, ((liveOf M owner).map (·.2)).toArray, by rw [relaid_eq, hw, e]; rfl, perm_range hs.size _ (by simp; omega) fun k hk => by simpa using mem2 k hk, ⟨r1, rfl, ?_, hM, fun x hx => ?_, fun i h j h1 h2 => ?_⟩, rfl, rfl⟩
  · show ((liveOf M owner).map (·.1)).toArray.size = _
    simp
  · exact Nat.le_of_lt_succ (List.mem_range.mp (r2 x hx))
  · have h1' : (((liveOf M owner).map (·.2)).map fun i => hs.getD i 0)[i]? = some h := h1
    have h2' : ((liveOf M owner).map (·.1))[i]? = some j := h2
    rw [List.getElem?_map, List.getElem?_map] at h1'
    rw [List.getElem?_map] at h2'
    obtain ⟨⟨y, k⟩, hq, rfl⟩ := Option.map_eq_some_iff.mp h2'
    rw [hq] at h1'
    obtain rfl : hs.getD k 0 = h := Option.some.inj h1'
    obtain ⟨b1, b2⟩ := (mem_live W.sz).1 (List.mem_of_getElem? hq)
    obtain ⟨g, K, a1, a2, a3⟩ := W.at_ y k b1 b2
    have e0 : hs.getD k 0 = g := by rw [Array.getD_eq_getD_getElem?, ← Array.getElem?_toList, a1]; rfl
    rw [e0]
    refine ⟨K, a2, fun c' hc => ?_⟩
    show way M g c' ∈ (liveOf M owner).map (·.1)
    cases z : oAt owner (way M g c') with
    | none => exact absurd z (a3 c' hc)
    | some k2 => exact List.mem_map.mpr ⟨(way M g c', k2), (mem_live W.sz).2 ⟨way_in, z⟩, rfl⟩
/-! ### the size that a table grows to -/
theorem above_go : ∀ (f j n : Nat), n < 2 ^ (f + j) → 3 ≤ j → ∃ k, j ≤ k ∧ SetTable.sizeAbove.go n f (2 ^ j) = 2 ^ k ∧ n < 2 ^ k ∧ (k = j ∨ 2 ^ k ≤ 2 * n)
  | 0, j, n, h, _ => ⟨j, Nat.le_refl _, rfl, by simpa using h, .inl rfl⟩
  | f + 1, j, n, h, hj => by
    show ∃ k, j ≤ k ∧ (if 2 ^ j ≤ n then SetTable.sizeAbove.go n f (2 ^ j * 2) else 2 ^ j) = 2 ^ k ∧ _
    by_cases c : 2 ^ j ≤ n
    · rw [if_pos c, ← Nat.pow_succ]
      obtain ⟨k, h1, h2, h3, h4⟩ := above_go f (j + 1) n (by rw [show f + (j + 1) = f + 1 + j from by omega]; exact h) (by omega)
      refine ⟨k, by omega, h2, h3, .inr ?_⟩
      rcases h4 with z | z
      · rw [z, Nat.pow_succ]; omega
      · exact z
    · rw [if_neg c]
      exact ⟨j, Nat.le_refl _, rfl, by omega, .inl rfl⟩
theorem above_ok {n : Nat} (h : n ≤ 500000) : ∃ k, 3 ≤ k ∧ k ≤ 20 ∧ SetTable.sizeAbove n = 2 ^ k ∧ n < 2 ^ k := by
  obtain ⟨k, h1, h2, h3, h4⟩ := above_go 64 3 n (by have : (2 : Nat) ^ 67 = 147573952589676412928 := rfl; omega) (Nat.le_refl _)
  refine ⟨k, h1, ?_, h2, h3⟩
  rcases h4 with z | z
  · omega
  · refine Classical.byContradiction fun y => ?_
    have : 2 ^ 21 ≤ 2 ^ k := Nat.pow_le_pow_right (by decide) (by omega)
    have e : (2 : Nat) ^ 21 = 2097152 := rfl
    omega
end Mini

namespace Mini
open PySem PySem.Spec L2 Evl PyProof.Rows

/-! ### sets of tuples of ints and texts -/
abbrev TM (P : Program) (w : World) : HeapKind P w (List Key) := tupleKind (mixKind P w)
abbrev IsX (P : Program) (w : World) (h : Heap) (k : List Key) (b : Addr) : Prop := (TM P w).is h k b
def rowX (P : Program) (w : World) (L : List (Addr × List Key)) : List (Int × Value) := L.map fun p => ((TM P w).hash p.2, Value.ref p.1)
theorem rowX_len {P : Program} {w : World} {L : List (Addr × List Key)} {es : Array (Int × Value)} (h : es.toList = rowX P w L) : es.size = L.length := by
  rw [← Array.length_toList, h, rowX, List.length_map]
theorem rowX_at {P : Program} {w : World} {L : List (Addr × List Key)} {es : Array (Int × Value)} (h : es.toList = rowX P w L) {i : Nat} {p : Addr × List Key} (hp : L[i]? = some p) : es[i]? = some ((TM P w).hash p.2, Value.ref p.1) := by
  rw [← Array.getElem?_toList, h, rowX, List.getElem?_map, hp]; rfl
theorem fits_of {t : SetTable} {n : Nat} (h1 : t.dummies = #[]) (h2 : t.place.size = n) (h3 : n ≤ t.mask) : t.fits n = true := by
  unfold SetTable.fits SetTable.fill
  rw [h1, h2]
  simp; omega
/-- what stands at a, but for the tuples -/
structure SX1 (P : Program) (w : World) (h : Heap) (a : Addr) (L : List (Addr × List Key)) (es : Array (Int × Value)) (ep : Nat) (t : SetTable) : Prop where
  ob : ∃ o, h.get? a = some o ∧ o.ExactSet ∧ o.data = .set es ep t
  rows : es.toList = rowX P w L
  tab : Tab t (L.map fun p => (TM P w).hash p.2)
  nd : (L.map (·.2)).Nodup
  room : L.length * 5 < t.mask * 3
  few : L.length ≤ 100000
theorem SX1.fits {P : Program} {w : World} {h : Heap} {a : Addr} {L : List (Addr × List Key)} {es : Array (Int × Value)} {ep : Nat} {t : SetTable} (R : SX1 P w h a L es ep t) : t.fits es.size = true := by
  have e := rowX_len R.rows
  have s := R.tab.sz
  rw [List.length_map] at s
  have := R.room
  exact fits_of R.tab.dm (by omega) (by omega)
def SX0 (P : Program) (w : World) (h : Heap) (a : Addr) (L : List (Addr × List Key)) : Prop := ∃ es ep t, SX1 P w h a L es ep t
def SXO (P : Program) (w : World) (a : Addr) (L : List (Addr × List Key)) : HO := .ext fun h => SX0 P w h a L
theorem sxo_new {P : Program} {w : World} {H : Hp} {h : Heap} {a : Addr} {L : List (Addr × List Key)} (R : SX0 P w h a L) : ObjOk P w H h a (SXO P w a L) := by
  obtain ⟨es, ep, t, R1⟩ := id R
  obtain ⟨o, ho, r⟩ := R1.ob
  refine ⟨R, ⟨o, ho⟩, fun h1 h2 p k => ?_⟩
  obtain ⟨es', ep', t', R2⟩ := id (show SX0 P w h1 a L from p)
  obtain ⟨o', ho', r'⟩ := R2.ob
  exact ⟨es', ep', t', ⟨o', k o' ho', r'⟩, R2.rows, R2.tab, R2.nd, R2.room, R2.few⟩
section
variable {P : Program} {w : World} {A : Around} {E : Value → Shared → Prop} {s : Shared}
theorem isX_keeps {h h' : Heap} {k : List Key} {a b : Addr} {o : Obj} {es : Array (Int × Value)} {ep : Nat} {t : SetTable} (hb : IsX P w h k b) (ho : h.get? a = some o) (hd : o.data = .set es ep t) (hs : Heap.SameBut a h h') : IsX P w h' k b := by
  obtain ⟨u, items, n, hu, hc, hdu, hi⟩ := hb
  refine ⟨u, items, n, (hs.2 b fun z => ?_).trans hu, hc, hdu, hi⟩
  subst z
  rw [hu] at ho; cases ho
  rw [hd] at hdu; cases hdu
theorem mix_shape {k : List Key} {vs : List Value} (h : ItemsAre (mixKind P w) k vs) : ∀ v ∈ vs, (∀ n, ofAClassStatement n v = pure false) ∧ ∀ n, ∃ b, hashByValue n v = pure b := by
  induction h with
  | nil => intro v hv; cases hv
  | @cons k0 v0 ks vs h1 _ ih =>
    intro v hv
    rcases List.mem_cons.mp hv with e | hv
    · subst e
      have q := (mixKind P w).byValue _ _ h1
      cases v with
      | ref a => cases q
      | _ => exact ⟨fun n => by cases n <;> rfl, fun n => by cases n <;> exact ⟨_, rfl⟩⟩
    · exact ih v hv
theorem no_class {k : List Key} {b : Addr} {Q : Bool → Shared → Prop} (hk : IsX P w s.heap k b) (h : Q false s) : wpAny (model P w) A (ofAClassStatement 8 (.ref b)) Q E s := by
  have hT := IsTupleKey.typeIs hk
  obtain ⟨o, items, n, ho, _, hd, hi⟩ := hk
  have sh := mix_shape hi
  unfold ofAClassStatement
  refine wpAny_bind (wpAny_typeOf hT ?_)
  dsimp only
  rw [show (("tuple" : String) == "tuple") = true from by decide]
  simp only [if_true, Bool.not_true, Bool.false_eq_true, if_false]
  try refine wpAny_bind (wpAny_pure ?_)
  try simp only [Bool.not_true, Bool.false_eq_true, if_false]
  show wpAny _ _ (seqItems? (.ref b) >>= _) _ _ s
  refine wpAny_bind (wpAny_seqItems ho hd ?_)
  dsimp only
  refine wpAny_bind ?_
  show wpAny _ _ (forIn items _ _) _ _ s
  rw [← Array.forIn_toList]
  refine wpAny_forIn_list _ (fun rest r s' => r.1 = none ∧ s' = s ∧ ∀ v ∈ rest, ∀ n, ofAClassStatement n v = pure false) _ ?_ ?_ _ _ ⟨rfl, rfl, fun v hv => (sh v hv).1⟩
  · rintro v rest r s' ⟨hr, rfl, all⟩
    rw [all v List.mem_cons_self]
    refine wpAny_bind (wpAny_pure ?_)
    simp only [Bool.false_eq_true, if_false]
    exact wpAny_pure ⟨rfl, rfl, fun u hu => all u (List.mem_cons_of_mem _ hu)⟩
  · rintro ⟨r1, r2⟩ s' ⟨hr, rfl, _⟩
    cases (show r1 = none from hr)
    exact wpAny_pure h
theorem some_hash {k : List Key} {b : Addr} {Q : Bool → Shared → Prop} (hk : IsX P w s.heap k b) (h : ∀ z, Q z s) : wpAny (model P w) A (hashByValue 8 (.ref b)) Q E s := by
  have hT := IsTupleKey.typeIs hk
  obtain ⟨o, items, n, ho, _, hd, hi⟩ := hk
  have sh := mix_shape hi
  unfold hashByValue
  refine wpAny_bind (wpAny_specialOf hT F.slot_tuple_hash.lookup ?_)
  show wpAny _ _ (seqItems? (.ref b) >>= _) _ _ s
  refine wpAny_bind (wpAny_seqItems ho hd ?_)
  refine wpAny_bind ?_
  show wpAny _ _ (forIn items _ _) _ _ s
  rw [← Array.forIn_toList]
  refine wpAny_forIn_list _ (fun rest r s' => r.1 = none ∧ s' = s ∧ ∀ v ∈ rest, ∀ n, ∃ b, hashByValue n v = pure b) _ ?_ ?_ _ _ ⟨rfl, rfl, fun v hv => (sh v hv).2⟩
  · rintro v rest r s' ⟨hr, rfl, all⟩
    obtain ⟨z, e⟩ := all v List.mem_cons_self 7
    rw [e]
    refine wpAny_bind (wpAny_pure ?_)
    cases z with
    | true =>
      simp only [Bool.not_true, Bool.false_eq_true, if_false]
      exact wpAny_pure ⟨rfl, rfl, fun u hu => all u (List.mem_cons_of_mem _ hu)⟩
    | false =>
      simp only [Bool.not_false, if_true]
      exact wpAny_pure (show wpAny _ _ (pure false) _ _ _ from wpAny_pure (h false))
  · rintro ⟨r1, r2⟩ s' ⟨hr, rfl, _⟩
    cases (show r1 = none from hr)
    exact wpAny_pure (h true)
theorem unseen {k : List Key} {b : Addr} {Q : Bool → Shared → Prop} (hk : IsX P w s.heap k b) {ys : List Value} (hy : ∀ y ∈ ys, ∃ j c, y = Value.ref c ∧ IsX P w s.heap j c) (h : Q false s) :
    wpAny (model P w) A (searchCouldBeSeen (.ref b) ys) Q E s := by
  unfold searchCouldBeSeen
  refine wpAny_bind (wpAny_forIn_list _ (fun rest r s' => r.1 = none ∧ s' = s ∧ ∀ y ∈ rest, ∃ j c, y = Value.ref c ∧ IsX P w s.heap j c) _ ?_ ?_ _ _ ⟨rfl, rfl, hy⟩)
  · rintro v rest r s' ⟨hr, rfl, all⟩
    obtain ⟨j, c, rfl, hc⟩ := all v List.mem_cons_self
    have on : ∀ y ∈ rest, ∃ j c, y = Value.ref c ∧ IsX P w s'.heap j c := fun u hu => all u (List.mem_cons_of_mem _ hu)
    dsimp only
    by_cases z : (b == c || (carriedByValue (.ref b) && carriedByValue (.ref c))) = true
    · exact wp_if_pos z (wpAny_pure ⟨rfl, rfl, on⟩)
    · refine wp_if_neg z (wpAny_bind ((TM P w).quiet hk ?_))
      simp only [Bool.not_true, Bool.false_eq_true, if_false]
      refine wpAny_bind ((TM P w).quiet hc ?_)
      simp only [Bool.not_true, Bool.false_eq_true, if_false]
      refine wpAny_bind (no_class hk ?_)
      simp only [Bool.false_eq_true, if_false]
      refine wpAny_bind (no_class hc ?_)
      simp only [Bool.false_eq_true, if_false]
      exact wpAny_pure ⟨rfl, rfl, on⟩
  · rintro ⟨r1, r2⟩ s' ⟨hr, rfl, _⟩
    cases (show r1 = none from hr)
    exact wpAny_pure h
variable {a : Addr} {L : List (Addr × List Key)} {es : Array (Int × Value)} {ep : Nat} {t : SetTable}
abbrev wayP (m : Nat) (h : Int) (c : Nat) : SetTable.Probe := nth m (runAt m (SetTable.bits h % (m + 1)) (SetTable.bits h)) c
theorem undummy (m : Nat) : ∀ (n : Nat) (p : SetTable.Probe), p.dummy = none → (nth m p n).dummy = none
  | 0, _, h => h
  | n + 1, p, h => undummy m n (adv m p) (by unfold adv; split <;> exact h)
/-- the search from the c-th place of the way on -/
theorem seek (R : SX1 P w s.heap a L es ep t) (htu : ∀ p ∈ L, IsX P w s.heap p.2 p.1) {x : Addr} {k : List Key} (hx : IsX P w s.heap k x) (hu : (TM P w).room A) {adding : Bool} {K : Nat} (hKf : K < 10 * SetTable.turns t.mask)
    (hK : way t.mask ((TM P w).hash k) K ∉ t.place.toList) (hKb : ∀ c, c < K → way t.mask ((TM P w).hash k) c ∈ t.place.toList) {Q : SetFound → Shared → Prop}
    (hin : k ∈ L.map (·.2) → ∀ z : Option Nat, (adding = false → z.isSome = true) → Q (.there z) s) (hout : k ∉ L.map (·.2) → Q (.free (way t.mask ((TM P w).hash k) K) false) s) :
    ∀ (f c : Nat) (stand : Option SetTable.Probe), stand.getD (t.probeStart ((TM P w).hash k)) = wayP t.mask ((TM P w).hash k) c → c ≤ K → K - c < f →
      (∀ (i : Nat) p, L[i]? = some p → p.2 = k → ∃ d, c ≤ d ∧ d < K ∧ t.place.toList[i]? = some (way t.mask ((TM P w).hash k) d)) →
      wpAny (model P w) A (setSearchFrom a (.ref x) ((TM P w).hash k) adding f stand) Q E s
  | 0, c, stand, _, _, hf, _ => absurd hf (Nat.not_lt_zero _)
  | f + 1, c, stand, hst, hc, hf, hre => by
    obtain ⟨o, ho, hex, hd⟩ := R.ob
    have gw : ¬ t.gaveWay = true := by unfold SetTable.gaveWay; rw [R.tab.mok.odd]; decide
    rw [setSearchFrom_succ]
    refine wpAny_bind (wpAny_setState_of ho hd R.fits ?_)
    dsimp only
    refine wp_if_neg gw ?_
    try refine wpAny_bind (wpAny_pure ?_)
    have sh : ∀ q, nth t.mask (wayP t.mask ((TM P w).hash k) c) q = wayP t.mask ((TM P w).hash k) (c + q) := fun q => (nth_add t.mask c _ q).symm
    have e1 : ∀ q, (nth t.mask (wayP t.mask ((TM P w).hash k) c) q).j = way t.mask ((TM P w).hash k) (c + q) := fun q => congrArg SetTable.Probe.j (sh q)
    have ha : ∀ (i : Nat) p, L[i]? = some p → (es[i]?.map (·.1)).getD 0 = (TM P w).hash p.2 := fun i p hp => by rw [rowX_at R.rows hp]; rfl
    rcases go_spec t R.tab.ris R.tab.dm (fun i => (es[i]?.map (·.1)).getD 0) ((TM P w).hash k) (10 * SetTable.turns t.mask) (K - c) _ (undummy t.mask c _ rfl) (by omega)
      (fun q hq => by rw [e1]; exact hKb (c + q) (by omega)) (by rw [e1, show c + (K - c) = K from by omega]; exact hK) with ⟨q, i, hq, hi, hh, hno, hpr⟩ | ⟨hno, hpr⟩
    · have hp2 : t.probe (fun i => (es[i]?.map (·.1)).getD 0) ((TM P w).hash k) (stand.getD (t.probeStart ((TM P w).hash k))) = some (.candidate (way t.mask ((TM P w).hash k) (c + q)) i (wayP t.mask ((TM P w).hash k) (c + (q + 1)))) := by
        rw [hst, ← e1, ← sh]; exact hpr
      rw [hp2]
      dsimp only
      rw [e1] at hi
      have hil : i < L.length := by
        have h1 := (List.getElem?_eq_some_iff.mp hi).1
        rw [R.tab.len, List.length_map] at h1
        exact h1
      obtain ⟨p, hp⟩ : ∃ p, L[i]? = some p := ⟨_, List.getElem?_eq_getElem hil⟩
      have hmem := List.mem_of_getElem? hp
      have fin : wpAny (model P w) A (searchRest a (.ref x) ((TM P w).hash k) adding f es t (way t.mask ((TM P w).hash k) (c + q)) i (wayP t.mask ((TM P w).hash k) (c + (q + 1)))) Q E s := by
        unfold searchRest
        rw [rowX_at R.rows hp]
        dsimp only
        refine wpAny_bind (wpAny_holding ((TM P w).eqBool hu (htu p hmem) hx ?_))
        refine wpAny_bind (wpAny_setState_of ho hd R.fits ?_)
        dsimp only
        have hsl : t.slot (way t.mask ((TM P w).hash k) (c + q)) = .live i := slot_live R.tab.ris hi
        by_cases ad : (adding && decide (p.2 = k)) = true
        · refine wp_if_pos ad (wpAny_pure (hin ?_ none fun z => by rw [z] at ad; cases ad))
          rw [Bool.and_eq_true, decide_eq_true_eq] at ad
          exact ad.2 ▸ List.mem_map.mpr ⟨p, hmem, rfl⟩
        · refine wp_if_neg ad ?_
          try refine wpAny_bind (wpAny_pure ?_)
          rw [sameMem]
          dsimp only
          simp only [if_true, hsl, rowX_at R.rows hp]
          refine wpAny_bind (wpAny_isSame_ref_self (wpAny_bind (wpAny_pure ?_)))
          simp only [if_true]
          by_cases hkk : p.2 = k
          · refine wp_if_pos (by simp [hkk]) ?_
            exact wpAny_pure (hin (hkk ▸ List.mem_map.mpr ⟨p, hmem, rfl⟩) (some i) fun _ => rfl)
          · refine wp_if_neg (by simp [hkk]) ?_
            refine seek R htu hx hu hKf hK hKb hin hout f (c + (q + 1)) _ rfl (by omega) (by omega) fun i0 p0 h0 hk0 => ?_
            obtain ⟨d, a1, a2, a3⟩ := hre i0 p0 h0 hk0
            refine ⟨d, ?_, a2, a3⟩
            rcases Nat.lt_trichotomy d (c + q) with z | z | z
            · refine absurd ?_ (hno (d - c) i0 (by omega) (by rw [e1, show c + (d - c) = d from by omega]; exact a3))
              exact (ha i0 p0 h0).trans (congrArg (TM P w).hash hk0)
            · subst z
              have s0 := slot_live R.tab.ris a3
              rw [hsl] at s0
              injection s0 with s0
              rw [← s0, hp] at h0
              cases h0
              exact absurd hk0 hkk
            · omega
      by_cases hl : t.led = true
      · refine wp_if_neg (by simp [hl]) ?_
        try refine wpAny_bind (wpAny_pure ?_)
        exact fin
      · refine wp_if_pos (by simp [hl]) (wpAny_bind (unseen hx (fun y hy => ?_) ?_))
        · obtain ⟨e, he, rfl⟩ := List.mem_map.mp hy
          have he2 : e ∈ es.toList := by simp at he; simpa using he.1
          rw [R.rows] at he2
          obtain ⟨p2, hp2, rfl⟩ := List.mem_map.mp he2
          exact ⟨p2.2, p2.1, rfl, htu p2 hp2⟩
        · refine wp_if_neg (by decide) ?_
          try refine wpAny_bind (wpAny_pure ?_)
          exact fin
    · have hp2 : t.probe (fun i => (es[i]?.map (·.1)).getD 0) ((TM P w).hash k) (stand.getD (t.probeStart ((TM P w).hash k))) = some (.empty (way t.mask ((TM P w).hash k) K) none) := by
        have e2 := e1 (K - c)
        rw [show c + (K - c) = K from by omega] at e2
        rw [hst, ← e2]; exact hpr
      rw [hp2]
      dsimp only
      refine wpAny_pure (hout fun hm => ?_)
      obtain ⟨p0, h0, hk0⟩ := List.mem_map.mp hm
      obtain ⟨i0, h00⟩ := List.getElem?_of_mem h0
      obtain ⟨d, a1, a2, a3⟩ := hre i0 p0 h00 hk0
      refine hno (d - c) i0 (by omega) (by rw [e1, show c + (d - c) = d from by omega]; exact a3) ?_
      exact (ha i0 p0 h00).trans (congrArg (TM P w).hash hk0)
theorem seek_all (R : SX1 P w s.heap a L es ep t) (htu : ∀ p ∈ L, IsX P w s.heap p.2 p.1) (h9 : L.length ≤ 9000) {x : Addr} {k : List Key} (hx : IsX P w s.heap k x) (hu : (TM P w).room A) {adding : Bool} {Q : SetFound → Shared → Prop}
    (hin : k ∈ L.map (·.2) → ∀ z : Option Nat, (adding = false → z.isSome = true) → Q (.there z) s)
    (hout : ∀ K, k ∉ L.map (·.2) → way t.mask ((TM P w).hash k) K ∉ t.place.toList → (∀ c, c < K → way t.mask ((TM P w).hash k) c ∈ t.place.toList) → Q (.free (way t.mask ((TM P w).hash k) K) false) s) :
    wpAny (model P w) A (setSearch a (.ref x) ((TM P w).hash k) adding) Q E s := by
  have room := R.room
  have hl : (L.map fun p => (TM P w).hash p.2).length = L.length := List.length_map ..
  obtain ⟨K, hKf, hK, hKb⟩ := R.tab.first (by rw [hl]; omega) ((TM P w).hash k)
  rw [hl] at hKf
  unfold setSearch
  refine seek R htu hx hu (by unfold SetTable.turns; omega) hK hKb hin (fun hn => hout K hn hK hKb) 100000 0 none rfl (Nat.zero_le _) (by omega) fun i p hp hk => ?_
  have hi : (L.map fun p => (TM P w).hash p.2)[i]? = some ((TM P w).hash k) := by rw [List.getElem?_map, hp, ← hk]; rfl
  have hil : i < t.place.toList.length := by rw [R.tab.len, hl]; exact (List.getElem?_eq_some_iff.mp hp).1
  have hj := List.getElem?_eq_getElem hil
  obtain ⟨c, hc, e⟩ := R.tab.before hK hi hj
  exact ⟨c, Nat.zero_le _, hc, by rw [hj, e]⟩
theorem find_x (R : SX1 P w s.heap a L es ep t) (htu : ∀ p ∈ L, IsX P w s.heap p.2 p.1) (h9 : L.length ≤ 9000) {x : Addr} {k : List Key} (hx : IsX P w s.heap k x) (hu : (TM P w).room A) {Q : Option Nat → Shared → Prop}
    (h : ∀ r : Option Nat, r.isSome = memX (L.map (·.2)) k → Q r s) : wpAny (model P w) A (setFind a (.ref x) ((TM P w).hash k)) Q E s := by
  obtain ⟨o, ho, hex, hd⟩ := R.ob
  unfold setFind setFindIn
  refine wpAny_bind (wpAny_setState_of ho hd R.fits ?_)
  dsimp only
  refine wp_if_neg (by simp [byScan, Value.scannable]) ?_
  try refine wpAny_bind (wpAny_pure ?_)
  refine wpAny_bind (seek_all R htu h9 hx hu (fun hm z hz => ?_) fun K hm _ _ => ?_)
  · exact wpAny_pure (h z (by rw [hz rfl, memX_iff.mpr hm]))
  · exact wpAny_pure (h none (by rw [Bool.eq_false_iff.mpr fun y => hm (memX_iff.mp y)]; rfl))
theorem rowX_put (L : List (Addr × List Key)) (p : Nat) (q : Addr × List Key) : rowX P w (L.take p ++ q :: L.drop p) = (rowX P w L).take p ++ ((TM P w).hash q.2, Value.ref q.1) :: (rowX P w L).drop p := by
  unfold rowX
  rw [List.map_append, List.map_cons, List.map_take, List.map_drop]
theorem rowX_order (L : List (Addr × List Key)) (es : Array (Int × Value)) (order : Array Nat) (hr : es.toList = rowX P w L) (hp : order.toList.Perm (List.range L.length)) :
    ∃ L2, (order.filterMap (es[·]?)).toList = rowX P w L2 ∧ L2.Perm L ∧ (L2.map fun p => (TM P w).hash p.2) = order.toList.map fun i => (es.map (·.1)).getD i 0 := by
  have one : ∀ l : List Nat, (∀ i ∈ l, i < L.length) → l.filterMap (fun i => es[i]?) = rowX P w (l.filterMap fun i => L[i]?) ∧ ((l.filterMap fun i => L[i]?).map fun p => (TM P w).hash p.2) = l.map fun i => (es.map (·.1)).getD i 0 := by
    intro l
    induction l with
    | nil => exact fun _ => ⟨rfl, rfl⟩
    | cons i l ih =>
      intro hl
      obtain ⟨e1, e2⟩ := ih fun j hj => hl j (List.mem_cons_of_mem _ hj)
      obtain ⟨q, hq⟩ : ∃ q, L[i]? = some q := ⟨_, List.getElem?_eq_getElem (hl i List.mem_cons_self)⟩
      have he := rowX_at hr hq
      rw [List.filterMap_cons_some (f := fun i => L[i]?) hq, List.filterMap_cons_some (f := fun i => es[i]?) he, e1]
      refine ⟨rfl, ?_⟩
      rw [List.map_cons, List.map_cons, e2, Array.getD_eq_getD_getElem?, Array.getElem?_map, he]; rfl
  obtain ⟨e1, e2⟩ := one order.toList fun i hi => List.mem_range.mp (hp.mem_iff.mp hi)
  refine ⟨order.toList.filterMap fun i => L[i]?, by rw [Array.toList_filterMap]; exact e1, ?_, e2⟩
  refine (hp.filterMap _).trans ?_
  have all : ∀ M : List (Addr × List Key), (List.range M.length).filterMap (fun i => M[i]?) = M := fun M => by
    induction M with
    | nil => rfl
    | cons q M ih =>
      rw [List.length_cons, List.range_succ_eq_map, List.filterMap_cons_some (show (q :: M)[0]? = some q from rfl), List.filterMap_map]
      exact congrArg _ ih
  rw [all]
theorem relay_x {o : Obj} (ho : s.heap.get? a = some o) (hex : o.ExactSet) (hd : o.data = .set es ep t) (hr : es.toList = rowX P w L) (hf : t.fits es.size = true) (nd : (L.map (·.2)).Nodup) (few : L.length ≤ 100000) {wanted : Nat} (hw : wanted = L.length * 4) (h1 : 1 ≤ L.length)
    {Q : Unit → Shared → Prop} (hQ : ∀ h' L' es' ep' t', Heap.SameBut a s.heap h' → SX1 P w h' a L' es' ep' t' → L'.Perm L → Q () { s with heap := h' }) : wpAny (model P w) A (setRelay a wanted) Q E s := by
  have hsl := rowX_len hr
  obtain ⟨k, k1, k2, k3, k4⟩ := above_ok (n := wanted) (by omega)
  have k5 : 2 ^ k ≤ 2 ^ 20 := Nat.pow_le_pow_right (by decide) k2
  have k6 : (2 : Nat) ^ 20 = 1048576 := rfl
  obtain ⟨t', order, e, hp, T, em, el⟩ := relay_ok t (hs := es.map (·.1)) (wanted := wanted) rfl ⟨k, k1, k2, by rw [k3]; omega⟩ (by rw [Array.size_map, k3]; omega)
  rw [Array.size_map, hsl] at hp
  obtain ⟨L2, r1, r2, r3⟩ := rowX_order L es order hr hp
  rw [← r3] at T
  have hs2 : (order.filterMap (es[·]?)).size = es.size := by rw [rowX_len r1, r2.length_eq, hsl]
  rw [setRelay_eq]
  refine wpAny_bind (wpAny_setState_of ho hd hf ?_)
  dsimp only
  refine wp_if_neg (by rw [sizeLine_eq, k3]; omega) ?_
  try refine wpAny_bind (wpAny_pure ?_)
  rw [e]
  dsimp only
  refine wpAny_bind ?_
  refine wp_if_neg (by rw [hs2]; simp) ?_
  try refine wpAny_bind (wpAny_pure ?_)
  refine wpAny_pure ?_
  dsimp only
  refine wpAny_storeSet_of ho hd ?_ (by rw [hs2, hsl, sizeLine_eq]; omega)
  exact hQ _ L2 _ (ep + 1) t' (Heap.SameBut.update ..) { ob := ⟨_, store_at ho hd, ⟨hex.1, hex.2.1, hex.2.2⟩, rfl⟩, rows := r1, tab := T, nd := (r2.map (·.2)).nodup_iff.mpr nd, room := by rw [r2.length_eq, em, k3]; omega, few := by rw [r2.length_eq]; exact few } r2
theorem add_x (R : SX1 P w s.heap a L es ep t) (htu : ∀ p ∈ L, IsX P w s.heap p.2 p.1) (h9 : L.length ≤ 9000) {x : Addr} {k : List Key} (hx : IsX P w s.heap k x) (hu : (TM P w).room A) {Q : Bool → Shared → Prop}
    (hQ : ∀ b h' L' es' ep' t', Heap.SameBut a s.heap h' → SX1 P w h' a L' es' ep' t' → (k ∈ L.map (·.2) → L' = L) → (k ∉ L.map (·.2) → L'.Perm ((x, k) :: L)) → Q b { s with heap := h' }) :
    wpAny (model P w) A (setAddHashed a (.ref x) ((TM P w).hash k)) Q E s := by
  obtain ⟨o, ho, hex, hd⟩ := R.ob
  have hsl := rowX_len R.rows
  have room := R.room
  unfold setAddHashed
  refine wpAny_holding ?_
  rw [show (100000 : Nat) = 99999 + 1 from rfl, setAddHashedIn_succ]
  refine wpAny_bind (wpAny_setState_of ho hd R.fits ?_)
  dsimp only
  refine wp_if_neg (by simp [byScan, Value.scannable]) ?_
  try refine wpAny_bind (wpAny_pure ?_)
  refine wpAny_bind (seek_all R htu h9 hx hu (fun hm z _ => ?_) fun K hm hK hb => ?_)
  · exact wpAny_pure (hQ false s.heap L es ep t (Heap.SameBut.refl a s.heap) R (fun _ => rfl) fun z => absurd hm z)
  · dsimp only
    refine wpAny_bind (wpAny_setState_of ho hd R.fits ?_)
    dsimp only
    obtain ⟨q2, q3⟩ := R.tab.put rfl hK hb
    have hin : (SetTable.insertAt es (SetTable.below t.place (way t.mask ((TM P w).hash k) K)) ((TM P w).hash k, Value.ref x)).toList = rowX P w (L.take (SetTable.below t.place (way t.mask ((TM P w).hash k) K)) ++ (x, k) :: L.drop (SetTable.below t.place (way t.mask ((TM P w).hash k) K))) := by
      rw [SetTable.toList_insertAt, rowX_put, R.rows]
    have hm1 : (t.put (way t.mask ((TM P w).hash k) K)).1.mask = t.mask := rfl
    have hm2 : (t.put (way t.mask ((TM P w).hash k) K)).2 = SetTable.below t.place (way t.mask ((TM P w).hash k) K) := rfl
    generalize SetTable.below t.place (way t.mask ((TM P w).hash k) K) = p at q2 q3 hin hm2
    generalize t.put (way t.mask ((TM P w).hash k) K) = pt at q3 hm1 hm2 ⊢
    obtain ⟨t1, p1⟩ := pt
    dsimp only at q3 hm1 hm2 ⊢
    subst hm2
    have go : ∀ z : Bool, wpAny (model P w) A (do
        let t2 : SetTable := if z = true then t1 else { t1 with plain := false }
        storeSet a (SetTable.insertAt es p1 ((TM P w).hash k, Value.ref x)) t2
        if (!false && t2.tooFull) = true then setRelay a (SetTable.grown (es.size + 1))
        pure true) Q E s := by
      intro z
      have T2 : Tab (if z = true then t1 else { t1 with plain := false }) ((L.take p1 ++ (x, k) :: L.drop p1).map fun q => (TM P w).hash q.2) := by
        rw [List.map_append, List.map_cons, List.map_take, List.map_drop]
        cases z with
        | true => exact q3
        | false => exact ⟨q3.ris, q3.dm, q3.sz, q3.mok, q3.bd, q3.reach⟩
      have hm3 : (if z = true then t1 else { t1 with plain := false } : SetTable).mask = t.mask := by rw [← hm1]; cases z <;> rfl
      dsimp only
      generalize (if z = true then t1 else { t1 with plain := false } : SetTable) = t2 at T2 hm3 ⊢
      have pm := put_perm L p1 (x, k)
      generalize L.take p1 ++ (x, k) :: L.drop p1 = L1 at T2 hin pm
      have l1 : L1.length = L.length + 1 := by rw [pm.length_eq]; rfl
      have nd1 : (L1.map (·.2)).Nodup := (pm.map (·.2)).nodup_iff.mpr (by rw [List.map_cons]; exact List.nodup_cons.mpr ⟨hm, R.nd⟩)
      have hes := rowX_len hin
      generalize SetTable.insertAt es p1 ((TM P w).hash k, Value.ref x) = es1 at hin hes ⊢
      refine wpAny_bind (wpAny_storeSet_of ho hd ?_ (by rw [hes, l1, sizeLine_eq]; omega))
      have sb : Heap.SameBut a s.heap (s.heap.update a (Obj.putSet es1 t2)) := Heap.SameBut.update ..
      have ho1 := store_at (es' := es1) (t' := t2) ho hd
      generalize s.heap.update a (Obj.putSet es1 t2) = h1 at sb ho1 ⊢
      have sz2 := T2.sz
      rw [List.length_map] at sz2
      by_cases hf : t2.tooFull = true
      · have hg : SetTable.grown (es.size + 1) = L1.length * 4 := by
          unfold SetTable.grown
          rw [if_neg (by omega)]; omega
        first
          | (refine wpAny_bind ?_; refine wp_if_pos (by simp [hf]) ?_)
          | (refine wp_if_pos (by simp [hf]) ?_; refine wpAny_bind ?_)
        refine relay_x (s := { s with heap := h1 }) ho1 ⟨hex.1, hex.2.1, hex.2.2⟩ rfl hin (fits_of T2.dm (by omega) (by omega)) nd1 (by omega) hg (by omega) ?_
        exact fun h2 L2 es2 ep2 t3 sb2 R2 pm2 => wpAny_pure (hQ true h2 L2 es2 ep2 t3 (sb.trans sb2) R2 (fun y => absurd y hm) fun _ => pm2.trans pm)
      · first
          | refine wp_if_neg (by simp [hf]) ?_
          | (refine wpAny_bind ?_; refine wp_if_neg (by simp [hf]) ?_; refine wpAny_pure ?_)
        refine wpAny_pure (hQ true h1 L1 es1 (ep + 1) t2 sb { ob := ⟨_, ho1, ⟨hex.1, hex.2.1, hex.2.2⟩, rfl⟩, rows := hin, tab := T2, nd := nd1, room := ?_, few := by omega } (fun y => absurd y hm) fun _ => pm)
        unfold SetTable.tooFull SetTable.fill at hf
        rw [T2.dm, decide_eq_true_eq] at hf
        have : (#[] : Array Nat).size = 0 := rfl
        omega
    cases hpl : t1.plain with
    | true =>
      first
        | (refine wpAny_bind ?_; refine wp_if_pos rfl ?_; refine some_hash hx fun z => ?_)
        | refine wp_if_pos rfl (wpAny_bind (some_hash hx fun z => ?_))
      exact go z
    | false =>
      first
        | (refine wpAny_bind ?_; refine wp_if_neg (by decide) ?_; refine wpAny_pure ?_)
        | refine wp_if_neg (by decide) (wpAny_bind (wpAny_pure ?_))
      exact go true
/-- known.add(x) -/
theorem call_addx (R : SX1 P w s.heap a L es ep t) (htu : ∀ p ∈ L, IsX P w s.heap p.2 p.1) (h9 : L.length ≤ 9000) {x : Addr} {k : List Key} (hx : IsX P w s.heap k x) (hu : (TM P w).room A.in1) {Q : Value → Shared → Prop}
    (hQ : ∀ h' L' es' ep' t' n, Heap.SameBut a s.heap h' → SX1 P w h' a L' es' ep' t' → (k ∈ L.map (·.2) → L' = L) → (k ∉ L.map (·.2) → L'.Perm ((x, k) :: L)) → Q .none { s with heap := h', toks := s.toks + n }) :
    wpAny (model P w) A (call (.builtin "set.add") [.ref a, .ref x]) Q E s := by
  obtain ⟨o, ho, hex, hd⟩ := R.ob
  have hT : s.TypeIs (.ref a) "set" := ⟨o, ho, hex.1⟩
  refine wpAny_call_entry F.slot_set_add hT F.entry_set_add ?_ (F.args_set_add_2 _ _)
  unfold Builtin.«set.add» Builtin.Frozenset.oneOther
  simp only [List.isEmpty_nil, bind_assoc]
  unfold Builtin.Frozenset.addrOf setAdd
  refine wpAny_bind (wpAny_pure ?_)
  try dsimp only
  refine wpAny_bind (wpAny_pure ?_)
  try dsimp only
  refine wpAny_bind (wpAny_holding (wpAny_bind ((TM P w).pyHash hu hx ?_)))
  refine add_x (s := { s with toks := s.toks + (TM P w).draws k }) ⟨⟨o, ho, hex, hd⟩, R.rows, R.tab, R.nd, R.room, R.few⟩ htu h9 hx hu fun b h' L' es' ep' t' sb R' i1 i2 => ?_
  show wpAny _ _ (ret Value.none) _ _ _
  exact wpAny_pure ⟨_, rfl, hQ h' L' es' ep' t' _ sb R' i1 i2⟩
end
end Mini

namespace Mini
open PySem PySem.Spec L2 Evl PyProof.Rows

/-! ### known = set(), known.add(x), x in known, len(known): x a tuple of ints and texts -/
section
variable {X : Cx} {pins : List (Addr × Obj)} {σ : L2.St} {H : Hp} {s : Shared} {a b : Addr} {L : List (Addr × List Key)} {k : List Key}
abbrev KeysL (K : PySem.W.Frag) (H : Hp) (L : List (Addr × List Key)) : Prop := ∀ p ∈ L, SqT K H p.1 (p.2.map kV)
theorem sx_at (I : Inv X pins σ H s) (e : H a = some (SXO X.prog X.w a L)) (hk : KeysL X.K H L) : ∃ es ep t, SX1 X.prog X.w s.heap a L es ep t ∧ ∀ p ∈ L, IsX X.prog X.w s.heap p.2 p.1 := by
  obtain ⟨es, ep, t, R⟩ := id (show SX0 X.prog X.w s.heap a L from (I.hok a _ e).1)
  exact ⟨es, ep, t, R, fun p hp => inv_key I (hk p hp)⟩
theorem sx_fresh {P : Program} {w : World} {h : Heap} {a : Addr} (ho : h.get? a = some { cls := .type "set", dict := none, data := .set #[] 0 (.fresh 0 0 (!w.params.followText "set-order")) }) : SX0 P w h a [] :=
  ⟨#[], 0, _, { ob := ⟨_, ho, ⟨rfl, rfl, rfl⟩, rfl⟩, rows := rfl, tab := ⟨List.Pairwise.nil, rfl, rfl, ⟨3, by decide, by decide, rfl⟩, fun x hx => (by cases hx), fun i h j hi => (by simp at hi)⟩, nd := List.nodup_nil, room := (show 0 * 5 < 7 * 3 by decide), few := Nat.zero_le _ }⟩
def rSX0 (P : Program) (w : World) : List V → Hp → VK → Prop := fun xs H Q => xs = [] ∧ ∀ p, H p = none → Q (.ref p) (upd H p (SXO P w p []))
theorem cr_sx0 {P : Program} {w : World} (hP : X.prog = P := by rfl) (hw : X.w = w := by rfl) : CallR X (.type "set") (rSX0 P w) := by
  subst hP hw
  intro pins s σ H xs us Q I r h
  obtain ⟨rfl, q⟩ := h
  cases r
  exact setR_new fun _ => ⟨.ref _, upd H s.heap.objs.size (SXO X.prog X.w s.heap.objs.size []), I.laid (t' := s.toks) (fun b u e => Heap.get?_push_of_some _ e) (Nat.le_refl _) (sxo_new (sx_fresh (Heap.get?_push_size _ rfl))), rfl, q _ (I.hok.fresh (Nat.le_refl _))⟩
def tSXAdd (P : Program) (w : World) (K : PySem.W.Frag) (to tx : TE) : TE := fun σ H Q => to σ H fun x H1 => ∃ a, x = .ref a ∧ (∃ L, H1 a = some (SXO P w a L)) ∧ tx σ H1 fun y H2 => ∃ b L k, y = .ref b ∧ H2 a = some (SXO P w a L) ∧ KeysL K H2 L ∧ SqT K H2 b (k.map kV) ∧ L.length ≤ 9000 ∧
  ∀ L', (k ∈ L.map (·.2) → L' = L) → (k ∉ L.map (·.2) → L'.Perm ((b, k) :: L)) → Q .non (upd H2 a (SXO P w a L'))
variable {o e : Expr} {to tx : TE} {apos cpos pos : Pos}
theorem pe_sxadd {P : Program} {w : World} {K : PySem.W.Frag} (hu : X.A.units + 1 < cLine) (ho : PE X o to) (he : PE X e tx) (m : M1 X o "add" apos e cpos) (hP : X.prog = P := by rfl) (hw : X.w = w := by rfl) (hK : X.K = K := by rfl) : PE X (.Call (.Attribute o "add" apos) [e] [] cpos) (tSXAdd P w K to tx) := by
  subst hP hw hK
  refine ⟨fun pins s σ H Q I h => ?_⟩
  refine wpAny_Call_method_late m.base m.few m.line rfl (thn (ho.run pins s σ H _ I h) fun u s1 ⟨x, H1, I1, rx, a, ex, ⟨L0, h0⟩, q1⟩ => ?_)
  subst ex
  obtain rfl : u = Value.ref a := rx
  obtain ⟨es0, ep0, t0, R0⟩ := id (show SX0 X.prog X.w s1.heap a L0 from (I1.hok a _ h0).1)
  obtain ⟨ob, hob, hex, _⟩ := R0.ob
  refine ⟨"set", "set.add", F.plainAttrs_set, F.slot_set_add, F.type_set_add, ⟨ob, hob, hex.1⟩, fun b z => by cases z; exact ⟨ob, hob, hex.2.1⟩, ?_⟩
  rw [m.trees]
  refine Calls.callWith_builtin rfl (Calls.evalArgs_plain (Calls.spliced_cons (thn (he.run pins s1 σ H1 _ I1 q1) fun iv s2 ⟨y, H2, I2, ry, b, L, k, ey, hL, hk, hb, h9, q2⟩ => Calls.spliced_nil ?_)))
  subst ey
  obtain rfl : iv = Value.ref b := ry
  obtain ⟨es, ep, t, R, htu⟩ := sx_at I2 hL hk
  refine call_addx R htu h9 (inv_key I2 hb) hu fun h' L' es' ep' t' n sb R' i1 i2 => ?_
  have he' : ∃ u, h'.get? a = some u := by obtain ⟨o', ho', _⟩ := R'.ob; exact ⟨o', ho'⟩
  exact ⟨.non, upd H2 a (SXO X.prog X.w a L'), I2.write (e := a) (t' := s2.toks + n) (by rw [hL]; trivial) (.inl rfl) (fun b u hb hu => (sb.2 b hb).trans hu) he' (sxo_new ⟨es', ep', t', R'⟩), rfl, q2 L' i1 i2⟩
def tSXIn (neg : Bool) (P : Program) (w : World) (K : PySem.W.Frag) (ty td : TE) : TE := fun σ H Q => ty σ H fun y H1 => td σ H1 fun x H2 => ∃ a b L k, x = .ref a ∧ y = .ref b ∧ H2 a = some (SXO P w a L) ∧ KeysL K H2 L ∧ SqT K H2 b (k.map kV) ∧ L.length ≤ 9000 ∧ Q (.bl (if neg then !memX (L.map (·.2)) k else memX (L.map (·.2)) k)) H2
theorem sx_has {A : Around} {E : Value → Shared → Prop} (hu : A.units + 1 < cLine) (I : Inv X pins σ H s) (hL : H a = some (SXO X.prog X.w a L)) (hk : KeysL X.K H L) (hb : SqT X.K H b (k.map kV)) (h9 : L.length ≤ 9000) {Q : Bool → Shared → Prop}
    (h : ∀ n, Q (memX (L.map (·.2)) k) { s with toks := s.toks + n }) : wpAny (model X.prog X.w) A (contains (.ref a) (.ref b)) Q E s := by
  obtain ⟨es, ep, t, R, htu⟩ := sx_at I hL hk
  have hx := inv_key I hb
  obtain ⟨o, ho, hex, hd⟩ := R.ob
  have hT : s.TypeIs (.ref a) "set" := ⟨o, ho, hex.1⟩
  unfold contains
  try with_reducible refine wpAny_holding ?_
  refine wpAny_bind (wpAny_specialOf hT F.slot_set_contains.lookup ?_)
  show wpAny _ _ (if (some (Value.builtin "set.__contains__") == some Value.none) = true then _ else _) _ E s
  rw [if_neg (by rw [beq_builtin_none]; exact Bool.false_ne_true)]
  refine wpAny_bind (wpAny_callSpecialUnlessNone?_slot (name := Str.ofString "__contains__") hT F.slot_set_contains (wpAny_call_entry F.slot_set_contains hT entry_set_contains ?_ (F.args_set_contains_2 _ _)))
  unfold Builtin.«frozenset.__contains__» Builtin.Frozenset.oneOther
  simp only [List.isEmpty_nil, bind_assoc]
  unfold Builtin.Frozenset.addrOf Builtin.Frozenset.withSetAsKey setContains
  refine wpAny_bind (wpAny_pure ?_)
  try dsimp only
  refine wpAny_bind (wpAny_pure ?_)
  try dsimp only
  refine wpAny_bind (wpAny_tryCatch (wpAny_holding (wpAny_bind ((TM X.prog X.w).pyHash (show (TM X.prog X.w).room A.in1 from tupleKind_room_in1 hu) hx ?_))))
  refine wpAny_bind (find_x (s := { s with toks := s.toks + (TM X.prog X.w).draws k }) ⟨⟨o, ho, hex, hd⟩, R.rows, R.tab, R.nd, R.room, R.few⟩ htu h9 hx (tupleKind_room_in1 hu) fun r hr => ?_)
  refine wpAny_pure ?_
  show wpAny _ _ (ret (Value.bool r.isSome)) _ _ _
  rw [hr]
  exact wpAny_pure ⟨_, rfl, wpAny_truthy_bool (h _)⟩
theorem pe_sxin {P : Program} {w : World} {K : PySem.W.Frag} (hu : X.A.units + 1 < cLine) (hi : PE X e tx) (ho : PE X o to) (hP : X.prog = P := by rfl) (hw : X.w = w := by rfl) (hK : X.K = K := by rfl) (h1 : behindInMarks .In o = false := by rfl) : PE X (.Compare e [.In] [o] pos) (tSXIn false P w K tx to) := by
  subst hP hw hK
  refine pe_cmp (h1 := h1) ⟨fun pins s σ H Q I h => ?_⟩
  refine thn (hi.run pins s σ H _ I h) fun iv s1 ⟨y, H1, I1, ry, q1⟩ => thn (ho.run pins s1 σ H1 _ I1 q1) fun u s2 ⟨x, H2, I2, rx, a, b, L, k, ex, ey, hL, hk, hb, h9, q2⟩ => ?_
  subst ex ey
  obtain rfl : u = Value.ref a := rx
  obtain rfl : iv = Value.ref b := ry
  show wpAny _ _ (do return Value.bool (← contains (.ref a) (.ref b))) _ _ s2
  exact wpAny_bind (sx_has hu I2 hL hk hb h9 fun n => wpAny_pure ⟨V.bl (memX (L.map fun p : Addr × List Key => p.2) k), H2, I2.tok _, rfl, q2⟩)
theorem pe_sxnot {P : Program} {w : World} {K : PySem.W.Frag} (hu : X.A.units + 1 < cLine) (hi : PE X e tx) (ho : PE X o to) (hP : X.prog = P := by rfl) (hw : X.w = w := by rfl) (hK : X.K = K := by rfl) (h1 : behindInMarks .NotIn o = false := by rfl) : PE X (.Compare e [.NotIn] [o] pos) (tSXIn true P w K tx to) := by
  subst hP hw hK
  refine pe_cmp (h1 := h1) ⟨fun pins s σ H Q I h => ?_⟩
  refine thn (hi.run pins s σ H _ I h) fun iv s1 ⟨y, H1, I1, ry, q1⟩ => thn (ho.run pins s1 σ H1 _ I1 q1) fun u s2 ⟨x, H2, I2, rx, a, b, L, k, ex, ey, hL, hk, hb, h9, q2⟩ => ?_
  subst ex ey
  obtain rfl : u = Value.ref a := rx
  obtain rfl : iv = Value.ref b := ry
  show wpAny _ _ (do return Value.bool (!(← contains (.ref a) (.ref b)))) _ _ s2
  exact wpAny_bind (sx_has hu I2 hL hk hb h9 fun n => wpAny_pure ⟨V.bl (!memX (L.map fun p : Addr × List Key => p.2) k), H2, I2.tok _, rfl, q2⟩)
theorem pt_sxin {P : Program} {w : World} {K : PySem.W.Frag} (hu : X.A.units + 1 < cLine) (hi : PE X e tx) (ho : PE X o to) (hP : X.prog = P := by rfl) (hw : X.w = w := by rfl) (hK : X.K = K := by rfl) (h1 : behindInMarks .In o = false := by rfl) : PT X (.Compare e [.In] [o] pos) (tB (tSXIn false P w K tx to)) := by
  subst hP hw hK
  refine pt_cmp (h1 := h1) ⟨fun pins s σ H Q I h => ?_⟩
  refine thn (hi.run pins s σ H _ I h) fun iv s1 ⟨y, H1, I1, ry, q1⟩ => thn (ho.run pins s1 σ H1 _ I1 q1) fun u s2 ⟨x, H2, I2, rx, a, b, L, k, ex, ey, hL, hk, hb, h9, q2⟩ => ?_
  subst ex ey
  obtain rfl : u = Value.ref a := rx
  obtain rfl : iv = Value.ref b := ry
  show wpAny _ _ (do return Value.bool (← contains (.ref a) (.ref b))) _ _ s2
  exact wpAny_bind (sx_has hu I2 hL hk hb h9 fun n => wpAny_pure ⟨V.bl (memX (L.map fun p : Addr × List Key => p.2) k), H2, I2.tok _, rfl, q2⟩)
theorem pt_sxnot {P : Program} {w : World} {K : PySem.W.Frag} (hu : X.A.units + 1 < cLine) (hi : PE X e tx) (ho : PE X o to) (hP : X.prog = P := by rfl) (hw : X.w = w := by rfl) (hK : X.K = K := by rfl) (h1 : behindInMarks .NotIn o = false := by rfl) : PT X (.Compare e [.NotIn] [o] pos) (tB (tSXIn true P w K tx to)) := by
  subst hP hw hK
  refine pt_cmp (h1 := h1) ⟨fun pins s σ H Q I h => ?_⟩
  refine thn (hi.run pins s σ H _ I h) fun iv s1 ⟨y, H1, I1, ry, q1⟩ => thn (ho.run pins s1 σ H1 _ I1 q1) fun u s2 ⟨x, H2, I2, rx, a, b, L, k, ex, ey, hL, hk, hb, h9, q2⟩ => ?_
  subst ex ey
  obtain rfl : u = Value.ref a := rx
  obtain rfl : iv = Value.ref b := ry
  show wpAny _ _ (do return Value.bool (!(← contains (.ref a) (.ref b)))) _ _ s2
  exact wpAny_bind (sx_has hu I2 hL hk hb h9 fun n => wpAny_pure ⟨V.bl (!memX (L.map fun p : Addr × List Key => p.2) k), H2, I2.tok _, rfl, q2⟩)
def rLenSX (P : Program) (w : World) : List V → Hp → VK → Prop := fun xs H Q => ∃ a L, xs = [V.ref a] ∧ H a = some (SXO P w a L) ∧ Q (.int L.length) H
theorem cr_lenSX {P : Program} {w : World} (hP : X.prog = P := by rfl) (hw : X.w = w := by rfl) : CallR X (.builtin "len") (rLenSX P w) := by
  subst hP hw
  intro pins s σ H xs us Q I r h
  obtain ⟨a, L, rfl, hL, q⟩ := h
  cases r with
  | cons ra rt =>
    cases rt
    cases ra
    obtain ⟨es, ep, t, R⟩ := id (show SX0 X.prog X.w s.heap a L from (I.hok a _ hL).1)
    obtain ⟨o, ho, hex, hd⟩ := R.ob
    have e := rowX_len R.rows
    have fw := R.few
    refine call_len_set ho hex hd R.fits (by omega) ⟨.int L.length, H, I.tok _, ⟨_, by rw [e]⟩, q⟩
end
/-- such a set, one's own, with n things, the keys ks -/
def sXo (P : Program) (w : World) (K : PySem.W.Frag) (n : Nat) (ks : List (List Key)) : Ow :=
  ⟨fun a o B => ∃ L, o = SXO P w a L ∧ L.length = n ∧ (∀ p ∈ L, B p.1 = some (.tup (p.2.map kV)) ∨ KT K p.1 (p.2.map kV)) ∧ ∀ k, k ∈ L.map (·.2) ↔ k ∈ ks,
   fun e h => by obtain ⟨L, h1, h2, h3, h4⟩ := h; exact ⟨L, h1, h2, fun p hp => (h3 p hp).imp (e _ _) id, h4⟩⟩
section
variable {P : Program} {w : World} {K : PySem.W.Frag} {E : L2.St → XK} {G : Gm} {td ty : TE} {n m : Nat} {ks : List (List Key)} {k : List Key}
theorem keysL_of {B M : Hp} {L : List (Addr × List Key)} (dj : Dj B M) (h : ∀ p ∈ L, B p.1 = some (.tup (p.2.map kV)) ∨ KT K p.1 (p.2.map kV)) : KeysL K (jn B M) L := fun p hp => jn_st dj (h p hp)
theorem sv_sxin {neg : Bool} (hk : Sv ty G (isP K (keyT k))) (hd : Rx td G (sXo P w K m ks)) (hm : m ≤ 9000) : Sv (tSXIn neg P w K ty td) G (isD (.bool (if neg then !memX ks k else memX ks k))) := fun M0 σ B M H Q q =>
  hk M0 σ B M H _ fun y B1 e1 d1 p1 => hd M0 σ B1 M (H.ext e1 d1) _ fun a o ho hr => by
    obtain ⟨b, rfl, hb⟩ := keyT_dq p1
    obtain ⟨L, rfl, h2, h3, h4⟩ := hr
    refine ⟨a, b, L, k, rfl, rfl, jn_M ho, keysL_of d1 h3, jn_st d1 hb, by omega, ?_⟩
    have e : memX (L.map (·.2)) k = memX ks k := memX_of (memX_iff.trans (h4 k))
    rw [e]
    exact q _ B1 e1 d1 (.bl _)
theorem sv_lenSX (hd : Rx td G (sXo P w K m ks)) : Sv (tCB (rLenSX P w) (tCons td tNil)) G (isD (.int (m : Int))) := fun M0 σ B M H Q q => hd M0 σ B M H _ fun a o ho hr => by
  obtain ⟨L, rfl, h2, h3, h4⟩ := hr
  refine ⟨a, L, rfl, jn_M ho, ?_⟩
  rw [h2]
  exact q _ B (Ex.refl B) H.dj (.int _)
/-- known.add(x), x new -/
theorem ss_sxadd (h : G[n]? = some (.ow (sXo P w K m ks))) (hk : Sv ty G (isP K (keyT k))) (hm : m ≤ 9000) (hn : k ∉ ks) : Ss E (tDrop (tSXAdd P w K (tVar n) ty)) G (.nx (G.set n (.ow (sXo P w K (m + 1) (k :: ks))))) := fun M0 D σ B M H q => by
  obtain ⟨l, o, a, c, ⟨L, rfl, h2, h3, h4⟩, _⟩ := H.ow n _ h
  refine ⟨.ref l, a, l, rfl, ⟨L, jn_M c⟩, ?_⟩
  refine hk M0 σ B M H _ fun y B1 e1 d1 p1 => ?_
  have H1 := H.ext e1 d1
  obtain ⟨b, rfl, hb⟩ := keyT_dq p1
  have h3' : ∀ p ∈ L, B1 p.1 = some (.tup (p.2.map kV)) ∨ KT K p.1 (p.2.map kV) := fun p hp => (h3 p hp).imp (e1 _ _) id
  refine ⟨b, L, k, rfl, jn_M c, keysL_of d1 h3', jn_st d1 hb, by omega, fun L' _ i2 => ?_⟩
  have pm := i2 fun z => hn ((h4 k).mp z)
  rw [upd_own]
  refine q σ B1 _ e1 (H1.change h a c ⟨L', rfl, by rw [pm.length_eq]; show L.length + 1 = m + 1; rw [h2], fun p hp => ?_, fun j => ?_⟩)
  · rcases List.mem_cons.mp (pm.mem_iff.mp hp) with z | z
    · subst z; exact hb
    · exact h3' p z
  · rw [(pm.map (·.2)).mem_iff, List.map_cons, List.mem_cons, List.mem_cons, h4 j]
/-- y = set() -/
theorem ss_sxnew (hn : n < G.length := by exact Nat.le_of_ble_eq_true rfl) : Ss E (tAsg (tCB (rSX0 P w) tNil) (gName n)) G (.nx (G.set n (.ow (sXo P w K 0 [])))) := fun M0 D σ B M H q => ⟨rfl, fun p hf => by
  rw [upd_own]
  exact q _ B _ (Ex.refl B) (H.setOw hn hf ⟨[], rfl, rfl, fun p hp => absurd hp List.not_mem_nil, fun k => ⟨fun z => absurd z List.not_mem_nil, fun z => absurd z List.not_mem_nil⟩⟩)⟩
end
end Mini

namespace Mini
open PySem PySem.Spec L2 Evl PyProof.Rows
/-! ### an owned list whose first thing may be a tuple of the module -/
def isBL (K : PySem.W.Frag) (d0 : PyData) (ds : List PyData) : Ow := ⟨fun _ o B => ∃ v vs, o = .lst (v :: vs) ∧ DqK K B v d0 ∧ DqAll B vs ds, fun e ⟨v, vs, h, p, q⟩ => ⟨v, vs, h, DqK_ex e _ v p, DqAll_ex e q⟩⟩
section
variable {K : PySem.W.Frag} {E : L2.St → XK} {G : Gm} {te tb : TE} {n : Nat} {d0 d : PyData} {ds : List PyData} {i : Int}
theorem ss_setBL (h : Sv te G (isP K d0)) (hn : n < G.length := by exact Nat.le_of_ble_eq_true rfl) : Ss E (tAsg (tLst (tCons te tNil)) (gName n)) G (.nx (G.set n (.ow (isBL K d0 [])))) := fun M0 D σ B M H q => h M0 σ B M H _ fun v B1 e1 d1 p1 => by
  refine ⟨by show 1 ≤ sizeLine; decide, fun p hp => ?_⟩
  rw [upd_own]
  exact q _ B1 _ e1 ((H.ext e1 d1).setOw hn hp ⟨v, [], rfl, p1, .nil⟩)
theorem bl_all {B : Hp} {v : V} {vs : List V} (p : DqK K B v d0) (q : DqAll B vs ds) : DqKA K B (v :: vs) (d0 :: ds) := .cons p (Dq_K.go ds vs q)
theorem sv_ixBL (h : G[n]? = some (.ow (isBL K d0 ds))) (hb : Sv tb G (isD (.int i))) (hi : atI (d0 :: ds) i = some d) : Sv (tOp (rIx K) (tVar n) tb) G (isP K d) := fun M0 σ B M H Q q => by
  obtain ⟨l, o, a, c, ⟨v, vs, rfl, r0, r⟩, f⟩ := H.ow n _ h
  refine ⟨.ref l, a, hb M0 σ B M H _ fun y B2 e2 d2 p2 => ?_⟩
  rw [dp_int p2]
  obtain ⟨u, h1, h2⟩ := DqKA_atI (bl_all r0 r) hi
  exact .inl ⟨l, v :: vs, i, u, rfl, rfl, sq_of (jn_M c), h1, q u B2 e2 d2 (DqK_ex e2 d u h2)⟩
theorem sv_lenBL (h : G[n]? = some (.ow (isBL K d0 ds))) : Sv (tCB (fun xs H Q => ∃ x n, xs = [x] ∧ LenV K x H n ∧ Q (.int n) H) (tCons (tVar n) tNil)) G (isD (.int ((ds.length + 1 : Nat) : Int))) := fun M0 σ B M H Q q => by
  obtain ⟨l, o, a, c, ⟨v, vs, rfl, r0, r⟩, f⟩ := H.ow n _ h
  exact ⟨.ref l, a, .ref l, ds.length + 1, rfl, .inl ⟨v :: vs, sq_of (jn_M c), by rw [List.length_cons, DqAll_len r]⟩, q _ B (Ex.refl B) H.dj (.int _)⟩
theorem ss_appendBL (h : G[n]? = some (.ow (isBL K d0 ds))) (he : Sv te G (isD d)) (hz : ds.length + 1 < sizeLine) : Ss E (tDrop (tBM K "list" rAppend (tVar n) (tCons te tNil))) G (.nx (G.set n (.ow (isBL K d0 (ds ++ [d]))))) := fun M0 D σ B M H q => by
  obtain ⟨l, ob, a, c, ⟨v, vs, rfl, r0, r⟩, f⟩ := H.ow n _ h
  refine ⟨.ref l, a, Or.inl ⟨rfl, v :: vs, sq_of (jn_M c)⟩, ?_⟩
  refine he M0 σ B M H _ fun u B' e dj p => ?_
  refine ⟨l, v :: vs, u, rfl, rfl, jn_M c, by rw [List.length_cons, DqAll_len r]; exact hz, ?_⟩
  rw [upd_own]
  exact q σ B' _ e ((H.ext e dj).change h a c ⟨v, vs ++ [u], rfl, DqK_ex e d0 v r0, DqAll_append (DqAll_ex e r) (.cons p .nil)⟩)
theorem svl_tailBL (h : G[n]? = some (.ow (isBL K d0 ds))) : Svl (tSl (uSl K) (tVar n) (tPart (tC (.int 1))) tNoPart) G ds := fun M0 σ B M H Q q => by
  obtain ⟨l, ob, a, c, ⟨v, vs, rfl, r0, r⟩, f⟩ := H.ow n _ h
  refine ⟨.ref l, a, ?_⟩
  refine ⟨1, rfl, .inl ⟨l, v :: vs, rfl, sq_of (jn_M c), fun p hp => ?_⟩⟩
  have e : cutV (v :: vs) (some 1) none = vs := cut_drop (v :: vs) (i := 1) (by decide)
  rw [e]
  exact q p vs B (Ex.refl B) H.dj hp r
/-- xs[::-1] of a list -/
theorem pe_revLK {X : Cx} {K : PySem.W.Frag} {e : Expr} {te : TE} {k : Nat} {p1 p2 p3 pos : Pos} (he : PE X e te) (hK : X.K = K := by rfl) : PE X (.Subscript e (.Slice none none (some (.UnaryOp .USub (.Constant (.int 1) k p1) p2)) p3) pos) (tRevL K te) := by
  subst hK
  exact pe_revL he
theorem svl_revL {ta : TE} (ha : Rl ta G ds) : Svl (tRevL K ta) G ds.reverse := fun M0 σ B M H Q q => ha M0 σ B M H _ fun a vs B1 e1 d1 hh q1 => ⟨a, vs, rfl, sq_of hh, fun p hp => q p _ B1 e1 d1 hp (DqAll_rev q1)⟩
end
/-! ### loops: a turn that goes on or leaves, proved once -/
section
variable {K : PySem.W.Frag} {E : L2.St → XK} {G : Gm} {tu ts : TS} {tt : TT} {tl : TE} {ds : List PyData} {js : List Nat} {g : TG} {n j : Nat} {o o2 : Out}
theorem ss_forEg' (h : Sv tl G (isD (.list ds))) (fd : PyData → Gm → Gm) (Gi : Nat → Gm) (N : Nat) (hN : N ≤ ds.length) (h0 : Le G (Gi 0)) (hn : ∀ i, i ≤ N → (Gi i).length = n) (hj : j < n) (hg : ∀ d ∈ ds, Tg n js g (isD d) (fd d))
    (hs : ∀ i d, ds[i]? = some d → i ≤ N → (i < N ∧ Turn E tu (fd d ((Gi i).set j (.im (isD (.int (i : Int)))))) (Gi (i + 1))) ∨ (i = N ∧ ∃ o', Ss E tu (fd d ((Gi i).set j (.im (isD (.int (i : Int)))))) o' ∧ Lv o' o))
    (hd : N = ds.length → o = .nx (Gi N)) :
    Ss E (tFor (iEnum K (tCons tl tNil)) (gTup K 2 (gCons (gName j) (gCons g gNil))) tu) G o := by
  refine ss_forEg h fd Gi N hN h0 hn hj hg (fun i d e l => ?_) ?_
  · rcases hs i d e (Nat.le_of_lt l) with z | z
    · exact z.2
    · omega
  · by_cases c : N = ds.length
    · exact .inl ⟨c, hd c⟩
    · have l : N < ds.length := by omega
      have e : ds[N]? = some (ds.getD N .none) := by rw [List.getD_eq_getElem?_getD, List.getElem?_eq_getElem l]; rfl
      rcases hs N _ e (Nat.le_refl _) with z | z
      · omega
      · exact .inr ⟨l, z.2⟩
theorem ss_while' (Gi : Nat → Gm) (N : Nat) (h0 : Le G (Gi 0)) (ht : ∀ i, i < N → St' tt (Gi i) true) (hd : (St' tt (Gi N) false ∧ o = .nx (Gi N)) ∨ (St' tt (Gi N) true ∧ ¬ (o = .nx (Gi N))))
    (hs : ∀ i, i ≤ N → (i < N ∨ ¬ (o = .nx (Gi N))) → (i < N ∧ Turn E tu (Gi i) (Gi (i + 1))) ∨ (i = N ∧ ∃ o', Ss E tu (Gi i) o' ∧ Lv o' o)) : Ss E (tWhile tt tu) G o := by
  refine ss_while Gi N h0 ht (fun i l => ?_) ?_
  · rcases hs i (Nat.le_of_lt l) (.inl l) with z | z
    · exact z.2
    · omega
  · rcases hd with z | ⟨z, hl⟩
    · exact .inl z
    · rcases hs N (Nat.le_refl _) (.inr hl) with y | y
      · omega
      · exact .inr ⟨z, y.2⟩
theorem ss_seqO (h : Ss E ts G o) (k : ∀ G1, o = .nx G1 → Ss E tu G1 o2) (hb : (∃ P, o = .rt P) → o2 = o) (hc : (∃ G1, o = .nx G1) ∨ ∃ P, o = .rt P) : Ss E (tSeq ts tu) G o2 := by
  rcases hc with ⟨G1, e⟩ | ⟨P, e⟩
  · subst e; exact ss_seq h (k G1 rfl)
  · have := hb ⟨P, e⟩
    subst e
    rw [this]
    exact ss_seqRt h
end
end Mini

namespace Mini
open PySem PySem.Spec L2 Evl PyProof.Rows
/-! ### x not in xs; x in / not in a tuple: data -/
def rNotInD (K : PySem.W.Frag) : R2 := fun x y H Q => ∃ d xs, Dp K H x d ∧ Dp K H y (.list xs) ∧ PyData.canLayAll0 xs = true ∧ d.canLay0 = true ∧ d.depth ≤ 10 ∧ Q (.bl (!xs.any fun z => PyData.eqv z d)) H
def rInDT (K : PySem.W.Frag) (neg : Bool) : R2 := fun x y H Q => ∃ d xs, Dp K H x d ∧ Dp K H y (.tuple xs) ∧ PyData.canLayAll0 xs = true ∧ d.canLay0 = true ∧ d.depth ≤ 10 ∧ Q (.bl (if neg then !xs.any fun z => PyData.eqv z d else xs.any fun z => PyData.eqv z d)) H
section
variable {X : Cx}
theorem op_notInD (hu : X.A.units + 64 < cLine) : OpR X (compareOp .NotIn) (rNotInD X.K) := by
  intro pins s σ H x y v u Q I rx ry h
  obtain ⟨d, xs, hd, he, c1, c2, c3, q⟩ := h
  obtain ⟨as, r1⟩ := Dp.reads I d x v hd rx
  obtain ⟨bs, r2⟩ := Dp.reads I (.list xs) y u he ry
  exact SeqAt.notIn_list_reads r2 r1 c1 c2 (by omega) ⟨.bl _, H, I, rfl, q⟩
theorem op_inDT (hu : X.A.units + 64 < cLine) : OpR X (compareOp .In) (rInDT X.K false) := by
  intro pins s σ H x y v u Q I rx ry h
  obtain ⟨d, xs, hd, he, c1, c2, c3, q⟩ := h
  obtain ⟨as, r1⟩ := Dp.reads I d x v hd rx
  obtain ⟨bs, r2⟩ := Dp.reads I (.tuple xs) y u he ry
  exact SeqAt.in_tuple_reads r2 r1 c1 c2 (by omega) ⟨.bl _, H, I, rfl, q⟩
theorem op_notInDT (hu : X.A.units + 64 < cLine) : OpR X (compareOp .NotIn) (rInDT X.K true) := by
  intro pins s σ H x y v u Q I rx ry h
  obtain ⟨d, xs, hd, he, c1, c2, c3, q⟩ := h
  obtain ⟨as, r1⟩ := Dp.reads I d x v hd rx
  obtain ⟨bs, r2⟩ := Dp.reads I (.tuple xs) y u he ry
  exact SeqAt.notIn_tuple_reads r2 r1 c1 c2 (by omega) ⟨.bl _, H, I, rfl, q⟩
end
section
variable {K : PySem.W.Frag} {E : L2.St → XK} {G : Gm} {ta tb te : TE} {tu : TS} {d e : PyData} {ds : List PyData} {o : Out} {j : Nat}
theorem sv_notInD (ha : Sv ta G (isD d)) (hb : Rl tb G ds) (h1 : PyData.canLayAll0 ds = true) (h2 : d.canLay0 = true) (h3 : d.depth ≤ 10) : Sv (tOp (rNotInD K) ta tb) G (isD (.bool (!ds.any fun z => PyData.eqv z d))) := fun M0 σ B M H Q q =>
  ha M0 σ B M H _ fun x B1 e1 d1 p1 => hb M0 σ B1 M (H.ext e1 d1) _ fun a vs B2 e2 d2 hh hv =>
    ⟨d, ds, Dq_dp d x (Dq_ex (e2.trans (jn_ex d2)) d x p1), dp_lst d2 hh hv, h1, h2, h3, q _ B2 (e1.trans e2) d2 (.bl _)⟩
theorem sv_inDT {neg : Bool} (ha : Sv ta G (isP K d)) (hb : Sv tb G (isP K (.tuple ds))) (h1 : PyData.canLayAll0 ds = true) (h2 : d.canLay0 = true) (h3 : d.depth ≤ 10) : Sv (tOp (rInDT K neg) ta tb) G (isD (.bool (if neg then !ds.any fun z => PyData.eqv z d else ds.any fun z => PyData.eqv z d))) := fun M0 σ B M H Q q =>
  ha M0 σ B M H _ fun x B1 e1 d1 p1 => hb M0 σ B1 M (H.ext e1 d1) _ fun y B2 e2 d2 p2 =>
    ⟨d, ds, DqK_dp d2 d x (DqK_ex e2 d x p1), DqK_dp d2 (.tuple ds) y p2, h1, h2, h3, q _ B2 (e1.trans e2) d2 (.bl _)⟩
theorem ss_forR' {n : Int} (h : Sv te G (isD (.int n))) (hn : n ≤ 2 ^ 60) (Gi : Nat → Gm) (N : Nat) (hN : N ≤ n.toNat) (h0 : Le G (Gi 0)) (hj : ∀ i, i ≤ N → j < (Gi i).length)
    (hs : ∀ i : Nat, i < n.toNat → i ≤ N → (i < N ∧ Turn E tu ((Gi i).set j (.im (isD (.int (i : Int))))) (Gi (i + 1))) ∨ (i = N ∧ ∃ o', Ss E tu ((Gi i).set j (.im (isD (.int (i : Int))))) o' ∧ Lv o' o))
    (hd : N = n.toNat → o = .nx (Gi N)) (hlo : -(2 ^ 60) ≤ n := by first | omega | decide) : Ss E (tFor (iRng1 (tCons te tNil)) (gName j) tu) G o := by
  refine ss_forR h hn Gi N hN h0 hj (fun i l => ?_) ?_ hlo
  · rcases hs i (by omega) (Nat.le_of_lt l) with z | z
    · exact z.2
    · omega
  · by_cases c : N = n.toNat
    · exact .inl ⟨c, hd c⟩
    · rcases hs N (by omega) (Nat.le_refl _) with z | z
      · omega
      · exact .inr ⟨by omega, z.2⟩
end
end Mini

namespace K61
open PySem L2 Evl Mini PyProof.Rows
def top (i : Nat) : Stmt := PySem.Challenge.pw_alikeread_k61_whole_searches.main.body.getD i (.Pass ⟨0, 0, 0, 0⟩)
abbrev veT : List Value := [.type "ValueError", .type "Exception", .type "BaseException", .type "object"]
structure Txt (K : PySem.W.Frag) (mg : Str → Option Value) (cAE cBB cBN cBR cTL cBk cPr aE0 aEV aBG : Addr) : Prop where
  no_isinstance : mg "isinstance" = none
  no_int : mg "int" = none
  no_bool : mg "bool" = none
  no_tuple : mg "tuple" = none
  no_list : mg "list" = none
  no_all : mg "all" = none
  no_any : mg "any" = none
  no_len : mg "len" = none
  no_abs : mg "abs" = none
  no_range : mg "range" = none
  no_min : mg "min" = none
  no_max : mg "max" = none
  no_enumerate : mg "enumerate" = none
  no_sum : mg "sum" = none
  no_set : mg "set" = none
  c_MOST_LETTERS : GC mg "MOST_LETTERS" (.int 60)
  c_MOST_WORDS : GC mg "MOST_WORDS" (.int 60)
  c_LONGEST_WORD : GC mg "LONGEST_WORD" (.int 5000)
  c_MOST_FOUND : GC mg "MOST_FOUND" (.int 5000)
  c_SIGNS : GC mg "SIGNS" (.str "0123456789ABCDEFGHIJKLMNOPQRSTUVWXYZabcdefghijklmnopqrstuvwx")
  e_AlikeError : ErrC K mg "AlikeError" cAE veT
  e_BadBook : ErrC K mg "BadBook" cBB veT
  e_BadNumber : ErrC K mg "BadNumber" cBN veT
  e_BadRow : ErrC K mg "BadRow" cBR veT
  e_TooLong : ErrC K mg "TooLong" cTL veT
  kt_aE0 : KTD K aE0 []
  c_EVEN : GC mg "EVEN" (.ref aEV)
  kt_aEV : KTD K aEV [.str "even", .ref aE0]
  c_BEGIN : GC mg "BEGIN" (.ref aBG)
  kt_aBG : KTD K aBG [.str "", .str ""]
  cl_cBk : Cls K cBk
  n_cBk_letters : NoAttr K cBk "letters"
  n_cBk_size : NoAttr K cBk "size"
  n_cBk__words : NoAttr K cBk "_words"
  cl_cPr : Cls K cPr
  n_cPr_first : NoAttr K cPr "first"
  n_cPr_second : NoAttr K cPr "second"
  n_cPr_letters : NoAttr K cPr "letters"
section
variable {P : Program} {w : World} {K : PySem.W.Frag} {mg : Str → Option Value} {base : Heap} {cAE cBB cBN cBR cTL cBk cPr aE0 aEV aBG : Addr}
/-! ### _law_draws -/
def S_law_draws (K : PySem.W.Frag) : Fs := ⟨{x : List Int × Int // x.1.length ≤ 63 ∧ 0 ≤ x.2 ∧ x.2 ≤ 1000}, 2, fun x => [.im (isS K x.1.1), .im (isD (.int x.1.2))], fun _ => rfl, fun x => .ol ((drawsF x.1.1 x.1.2).map .int)⟩
abbrev st__law_draws : Stmt := top 38
theorem sc__law_draws : FnScope ["script", "many", "draws", "seed", "cell", "number", "k"] ["script", "many"] (defScope st__law_draws) := ⟨rfl, rfl, rfl, by decide +kernel, rfl, by decide +kernel, by decide +kernel⟩
theorem ok__law_draws {f : Addr} {fd : FuncData} (T : Txt K mg cAE cBB cBN cBR cTL cBk cPr aE0 aEV aBG)  (F : Fun K "_law_draws" "_law_draws" st__law_draws f fd) : FnOk P w K mg base (L2.CX P w) 1 f fd ["script", "many"] (spF (S_law_draws K)) := by
  refine fn_ok F sc__law_draws rfl fun cdv A outer s H E hr => ?_
  have tk : Takes (cxD P w K mg base ["script", "many", "draws", "seed", "cell", "number", "k"] "_law_draws" st__law_draws f cdv A outer s H E) (fun cls d _ H => E cls d H) := takes_of rfl rfl rfl rfl
  have hx := pxM tk
  have nd := sc__law_draws.nd
  refine ⟨_, (pss_cons (ps_set (i := 2) nd rfl (Or.inl rfl) (pe_lst pa_nil))
 (pss_cons (ps_set (i := 3) nd rfl (Or.inl rfl) pe_int)
 (pss_cons (ps_for (passes_of rfl) rfl (pi_list (pe_slice sl_uSl (pv 0) po_none (po_some pe_int))) (pg_name (i := 4) nd rfl (Or.inl rfl)) (pss_cons (ps_set (i := 5) nd rfl (Or.inl rfl) (pe_callB call_abs (by rfl) T.no_abs (by decide +kernel) (pa_cons (pv 4) pa_nil)))
 (pss_cons (ps_set (i := 3) nd rfl (Or.inl rfl) (pe_op op_mod (pe_callTy call_int1 (by rfl) T.no_int (by decide +kernel) (pa_cons (pe_op op_uAdd (pe_op op_uAdd (pe_op op_uMul (pv 3) pe_int) (pv 5)) pe_int) pa_nil)) pe_int))
 (pss_one (ps_if (pt_cmpR op_ge (pv 5) (pe_op op_pow pe_int pe_int) (nomark _)) (pss_one (ps_for (passes_of rfl) rfl (pi_range1 (by rfl) T.no_range (pa_cons pe_int pa_nil)) (pg_name (i := 6) nd rfl (Or.inl rfl)) (pss_one (ps_if (pt_cmpR op_gt (pv 5) pe_int (nomark _)) (pss_cons (ps_expr (pe_bm PySem.F.plainAttrs_list PySem.F.slot_list_append PySem.F.type_list_append mt_append (pv 2) (pa_cons (pe_op op_mod (pe_callTy call_int1 (by rfl) T.no_int (by decide +kernel) (pa_cons (pv 5) pa_nil)) pe_int) pa_nil)))
 (pss_one (ps_set (i := 5) nd rfl (Or.inl rfl) (pe_op op_fdiv (pv 5) pe_int)))) pss_nil)))) (pss_one (ps_expr (pe_bm PySem.F.plainAttrs_list PySem.F.slot_list_append PySem.F.type_list_append mt_append (pv 2) (pa_cons (pe_op op_mod (pe_op op_fdiv (pe_callTy call_int1 (by rfl) T.no_int (by decide +kernel) (pa_cons (pe_op op_uAdd (pe_op op_uMul (pv 3) pe_int) pe_int) pa_nil)) pe_int) pe_int) pa_nil)))))))))
 (pss_cons (ps_for (passes_of rfl) rfl (pi_range1 (by rfl) T.no_range (pa_cons (pv 1) pa_nil)) (pg_name (i := 6) nd rfl (Or.inl rfl)) (pss_one (ps_if (pt_cmpR op_lt (pe_callB call_len (by rfl) T.no_len (by decide +kernel) (pa_cons (pv 2) pa_nil)) (pv 1) (nomark _)) (pss_cons (ps_set (i := 3) nd rfl (Or.inl rfl) (pe_op op_mod (pe_callTy call_int1 (by rfl) T.no_int (by decide +kernel) (pa_cons (pe_op op_uAdd (pe_op op_uAdd (pe_op op_uMul (pv 3) pe_int) (pv 6)) pe_int) pa_nil)) pe_int))
 (pss_one (ps_expr (pe_bm PySem.F.plainAttrs_list PySem.F.slot_list_append PySem.F.type_list_append mt_append (pv 2) (pa_cons (pe_op op_mod (pe_op op_fdiv (pe_callTy call_int1 (by rfl) T.no_int (by decide +kernel) (pa_cons (pv 3) pa_nil)) pe_int) pe_int) pa_nil))))) pss_nil)))
 (pss_one (ps_ret (pe_slice sl_uSl (pv 2) po_none (po_some (pv 1))))))))), ?_⟩
  intro x
  obtain ⟨⟨ns0, many⟩, hl0, hm0, hm1⟩ := x
  have hm0 : 0 ≤ many := hm0
  have hm1 : many ≤ 1000 := hm1
  have hl0 : ns0.length ≤ 63 := hl0
  generalize hns : cutD ns0 none (some 63) = ns
  have hl : ns.length ≤ 63 := by rw [← hns, cut_take _ (by decide), List.length_take]; omega
  have hz : (sizeLine : Nat) = 16777216 := sizeLine_eq
  refine .ol ?_
  refine ss_seq (ss_setL (svl_lst (ds := []) sa_nil (Nat.zero_le _))) ?_
  refine ss_seq (ss_set sv_int) ?_
  -- the cells
  let Gc : Nat → Gm := fun i => [.im (isS K ns0), .im (isD (.int many)), .ow (isL ((cellsS ns i).1.map .int)), .im (isD (.int (cellsS ns i).2)), .no, .no, .no]
  refine ss_seq (G1 := Gc ns.length) ?_ ?_
  · have hd : Sv (tSl (uSl K) (tVar 0) tNoPart (tPart (tC (.int 63)))) (List.set (List.set (startG 7 [.im (isS K ns0), .im (isD (.int many))]) 2 (.ow (isL []))) 3 (.im (isD (.int 7)))) (isD (.list (ns.map .int))) := by
      rw [← hns]
      exact sv_svl (svl_sliceS (sv_var rfl) so_none (so_some sv_int))
    refine ss_forL hd Gc (ns.map PyData.int).length (Nat.le_refl _) (Le.refl _) (fun i _ => Nat.le_of_ble_eq_true rfl) (fun i d hd hi => ?_) (.inl ⟨rfl, by rw [List.length_map]⟩)
    obtain ⟨c, hc, rfl⟩ : ∃ c, ns[i]? = some c ∧ d = .int c := by
      rw [List.getElem?_map] at hd
      cases h : ns[i]? with
      | none => rw [h] at hd; cases hd
      | some c => rw [h] at hd; exact ⟨c, rfl, (Option.some.inj hd).symm⟩
    have hi' : i < ns.length := by rw [List.length_map] at hi; exact hi
    have hlen := cellsS_len (ns := ns) i (by omega)
    refine .inl (ss_nxLe (G1 := ([.im (isS K ns0), .im (isD (.int many)), .ow (isL ((cellsS ns (i + 1)).1.map .int)), .im (isD (.int (cellsS ns (i + 1)).2)), .no, .no, .no] : Gm)) ?_ (Le.refl _))
    rw [cellsS_succ hc]
    generalize hsd : cellsS ns i = s0 at hlen
    have hG : Gc i = [.im (isS K ns0), .im (isD (.int many)), .ow (isL (s0.1.map .int)), .im (isD (.int s0.2)), .no, .no, .no] := by show [_, _, _, _, _, _, _] = _; rw [hsd]
    rw [hG]
    refine ss_seq (ss_set (sv_abs (sv_var rfl))) ?_
    refine ss_seq (ss_set (sv_mod (sv_int1 (sv_add (sv_add (sv_mul (sv_var rfl) sv_int (.inr ⟨by decide, by decide⟩)) (sv_var rfl)) sv_int)) sv_int (by decide))) ?_
    have ht : ∀ {G : Gm}, G[5]? = some (.im (isD (.int (absI c)))) → St' (tTest (tOp (rI0 fun i j => .bl (decide (j ≤ i))) (tVar 5) (tOp (rI CPow fun i j => .int (i ^ j.toNat)) (tC (.int 10)) (tC (.int 18))))) G (decide (10 ^ 18 ≤ absI c)) := fun h =>
      st_test (sv_cmp (g := fun i j => decide (j ≤ i)) (sv_var h) (sv_pow sv_int sv_int ⟨by decide, by decide, by decide⟩))
    by_cases hb : 10 ^ 18 ≤ absI c
    · refine ss_if1 (st_is (ht rfl) (decide_eq_true hb)) ?_
      have e : cellS s0 c = ((itN digS 60 (s0.1, absI c)).1, seedS s0.2 c) := if_pos hb
      rw [e]
      let Gd : Nat → Gm := fun k => [.im (isS K ns0), .im (isD (.int many)), .ow (isL ((itN digS k (s0.1, absI c)).1.map .int)), .im (isD (.int (seedS s0.2 c))), .no, .im (isD (.int (itN digS k (s0.1, absI c)).2)), .no]
      refine ss_nxLe (ss_forR (o := .nx (Gd 60)) sv_int (by decide) Gd 60 (Nat.le_refl _) (Le.eq (Le.eq (Le.eq (Le.eq (Le.no (Le.eq (Le.eq Le.nil))))))) (fun _ _ => Nat.le_of_ble_eq_true rfl) (fun k hk => ?_) (.inl ⟨rfl, rfl⟩)) (Le.eq (Le.eq (Le.eq (Le.eq (Le.eq (Le.no (Le.eq Le.nil)))))))
      show Turn _ _ _ [.im (isS K ns0), .im (isD (.int many)), .ow (isL ((digS (itN digS k (s0.1, absI c))).1.map .int)), .im (isD (.int (seedS s0.2 c))), .no, .im (isD (.int (digS (itN digS k (s0.1, absI c))).2)), .no]
      have hlen2 : (itN digS k (s0.1, absI c)).1.length ≤ s0.1.length + k := itN_len (n := k) (s := (s0.1, absI c))
      have hG2 : Gd k = [.im (isS K ns0), .im (isD (.int many)), .ow (isL ((itN digS k (s0.1, absI c)).1.map .int)), .im (isD (.int (seedS s0.2 c))), .no, .im (isD (.int (itN digS k (s0.1, absI c)).2)), .no] := rfl
      rw [hG2]
      generalize itN digS k (s0.1, absI c) = s1 at hlen2 ⊢
      have t2 : ∀ {G : Gm}, G[5]? = some (.im (isD (.int s1.2))) → St' (tTest (tOp (rI0 fun i j => .bl (decide (j < i))) (tVar 5) (tC (.int 0)))) G (decide (0 < s1.2)) := fun h => st_test (sv_cmp (g := fun i j => decide (j < i)) (sv_var h) sv_int)
      by_cases hp : 0 < s1.2
      · have e2 : digS s1 = (s1.1 ++ [s1.2 % 1009], s1.2 / 1009) := if_pos hp
        rw [e2]
        refine .inl (ss_nxLe (ss_if1 (st_is (t2 rfl) (decide_eq_true hp)) (ss_seq (ss_append (d := .int (s1.2 % 1009)) rfl (sv_mod (sv_int1 (sv_var rfl)) sv_int (by decide)) (by rw [List.length_map]; omega)) (ss_set (sv_div (sv_var rfl) sv_int ⟨by decide, by decide⟩)))) ?_)
        have e3 : (s1.1 ++ [s1.2 % 1009]).map PyData.int = s1.1.map PyData.int ++ [PyData.int (s1.2 % 1009)] := by simp
        show Le _ [.im (isS K ns0), .im (isD (.int many)), .ow (isL ((s1.1 ++ [s1.2 % 1009]).map .int)), .im (isD (.int (seedS s0.2 c))), .no, .im (isD (.int (s1.2 / 1009))), .no]
        rw [e3]
        exact Le.eq (Le.eq (Le.eq (Le.eq (Le.eq (Le.eq (Le.no Le.nil))))))
      · have e2 : digS s1 = s1 := if_neg hp
        rw [e2]
        exact .inl (ss_nxLe (ss_if0 (st_is (t2 rfl) (decide_eq_false hp)) ss_next) (Le.eq (Le.eq (Le.eq (Le.eq (Le.eq (Le.eq (Le.no Le.nil))))))))
    · refine ss_if0 (st_is (ht rfl) (decide_eq_false hb)) ?_
      have e : cellS s0 c = (s0.1 ++ [(seedS s0.2 c * 16807 + 5) / 3 % 65521], seedS s0.2 c) := if_neg hb
      rw [e]
      have e3 : (s0.1 ++ [(seedS s0.2 c * 16807 + 5) / 3 % 65521]).map PyData.int = s0.1.map PyData.int ++ [PyData.int ((seedS s0.2 c * 16807 + 5) / 3 % 65521)] := by simp
      show Ss _ _ _ (.nx [.im (isS K ns0), .im (isD (.int many)), .ow (isL ((s0.1 ++ [(seedS s0.2 c * 16807 + 5) / 3 % 65521]).map .int)), .im (isD (.int (seedS s0.2 c))), .no, .no, .no])
      rw [e3]
      refine ss_nxLe (ss_append (d := .int ((seedS s0.2 c * 16807 + 5) / 3 % 65521)) rfl (sv_mod (sv_div (sv_int1 (sv_add (sv_mul (sv_var rfl) sv_int (.inr ⟨by decide, by decide⟩)) sv_int)) sv_int ⟨by decide, by decide⟩) sv_int (by decide)) (by rw [List.length_map]; omega)) ?_
      exact Le.eq (Le.eq (Le.eq (Le.eq (Le.no (Le.no (Le.eq Le.nil))))))
  -- the rest
  let Gf : Nat → Gm := fun k => [.im (isS K ns0), .im (isD (.int many)), .ow (isL ((fillsS ns many k).1.map .int)), .im (isD (.int (fillsS ns many k).2)), .no, .no, .no]
  refine ss_seq (G1 := Gf many.toNat) ?_ ?_
  · refine ss_forR (sv_var rfl) (by omega) Gf many.toNat (Nat.le_refl _) (Le.refl _) (fun _ _ => Nat.le_of_ble_eq_true rfl) (fun k hk => ?_) (.inl ⟨rfl, rfl⟩)
    have hlen := fillsS_len ns many k
    show Turn _ _ _ [.im (isS K ns0), .im (isD (.int many)), .ow (isL ((fillsS ns many (k + 1)).1.map .int)), .im (isD (.int (fillsS ns many (k + 1)).2)), .no, .no, .no]
    rw [fillsS_succ]
    have hG : Gf k = [.im (isS K ns0), .im (isD (.int many)), .ow (isL ((fillsS ns many k).1.map .int)), .im (isD (.int (fillsS ns many k).2)), .no, .no, .no] := rfl
    rw [hG]
    generalize fillsS ns many k = s1 at hlen ⊢
    have t2 : ∀ {G : Gm}, G[2]? = some (.ow (isL (s1.1.map .int))) → G[1]? = some (.im (isD (.int many))) → St' (tTest (tOp (rI0 fun i j => .bl (decide (i < j))) (tCB (fun xs H Q => ∃ x n, xs = [x] ∧ LenV K x H n ∧ Q (.int n) H) (tCons (tVar 2) tNil)) (tVar 1))) G (decide ((s1.1.length : Int) < many)) := fun h h' =>
      st_is (st_test (sv_cmp (g := fun i j => decide (i < j)) (sv_lenL (rl_ow h)) (sv_var h'))) (by rw [List.length_map])
    by_cases hp : (s1.1.length : Int) < many
    · have e2 : fillS many s1 k = (s1.1 ++ [(s1.2 * 69621 + (k : Int) + 1) % 2147483647 / 7 % 65521], (s1.2 * 69621 + (k : Int) + 1) % 2147483647) := if_pos hp
      rw [e2]
      refine .inl (ss_nxLe (ss_if1 (st_is (t2 rfl rfl) (decide_eq_true hp)) (ss_seq (ss_set (sv_mod (sv_int1 (sv_add (sv_add (sv_mul (sv_var rfl) sv_int (.inr ⟨by decide, by decide⟩)) (sv_var rfl)) sv_int)) sv_int (by decide))) (ss_append (d := .int ((s1.2 * 69621 + (k : Int) + 1) % 2147483647 / 7 % 65521)) rfl (sv_mod (sv_div (sv_int1 (sv_var rfl)) sv_int ⟨by decide, by decide⟩) sv_int (by decide)) (by rw [List.length_map]; omega)))) ?_)
      have e3 : (s1.1 ++ [(s1.2 * 69621 + (k : Int) + 1) % 2147483647 / 7 % 65521]).map PyData.int = s1.1.map PyData.int ++ [PyData.int ((s1.2 * 69621 + (k : Int) + 1) % 2147483647 / 7 % 65521)] := by simp
      show Le _ [.im (isS K ns0), .im (isD (.int many)), .ow (isL ((s1.1 ++ [(s1.2 * 69621 + (k : Int) + 1) % 2147483647 / 7 % 65521]).map .int)), .im (isD (.int ((s1.2 * 69621 + (k : Int) + 1) % 2147483647))), .no, .no, .no]
      rw [e3]
      exact Le.eq (Le.eq (Le.eq (Le.eq (Le.eq (Le.eq (Le.no Le.nil))))))
    · have e2 : fillS many s1 k = s1 := if_neg hp
      rw [e2]
      exact .inl (ss_nxLe (ss_if0 (st_is (t2 rfl rfl) (decide_eq_false hp)) ss_next) (Le.eq (Le.eq (Le.eq (Le.eq (Le.eq (Le.eq (Le.no Le.nil))))))))
  · refine ss_retL (svl_is (svl_slice (rl_ow rfl) so_none (so_some (sv_var rfl))) ?_)
    show cutD _ none (some many) = (drawsF ns0 many).map PyData.int
    unfold drawsF
    rw [hns, cut_take _ hm0, cut_take _ hm0, List.map_take]

/-! ### is_count, is_below, are_below -/
def countB (d : PyData) : Bool := match d with
  | .int i => decide (0 ≤ i)
  | _ => false
def S_is_count : Fs := ⟨PyData, 1, fun x => [.im (isD x)], fun _ => rfl, fun x => .ok (isD (.bool (countB x)))⟩
abbrev st_is_count : Stmt := top 8
theorem sc_is_count : FnScope ["value"] ["value"] (defScope st_is_count) := ⟨rfl, rfl, rfl, by decide +kernel, rfl, by decide +kernel, by decide +kernel⟩
theorem ok_is_count {f : Addr} {fd : FuncData} (T : Txt K mg cAE cBB cBN cBR cTL cBk cPr aE0 aEV aBG)  (F : Fun K "is_count" "is_count" st_is_count f fd) : FnOk P w K mg base (L2.CX P w) 1 f fd ["value"] (spF (S_is_count)) := by
  refine fn_ok F sc_is_count rfl fun cdv A outer s H E hr => ?_
  have tk : Takes (cxD P w K mg base ["value"] "is_count" st_is_count f cdv A outer s H E) (fun cls d _ H => E cls d H) := takes_of rfl rfl rfl rfl
  have hx := pxM tk
  have nd := sc_is_count.nd
  refine ⟨_, (pss_one (ps_ret (pe_and (pe_callB call_isi (by rfl) T.no_isinstance (by decide +kernel) (pa_cons (pv 0) (pa_cons (pe_bltn (by rfl) T.no_int (by decide +kernel) (v := .ty "int") rfl) pa_nil))) (pe_and (pe_not (pe_callB call_isi (by rfl) T.no_isinstance (by decide +kernel) (pa_cons (pv 0) (pa_cons (pe_bltn (by rfl) T.no_bool (by decide +kernel) (v := .ty "bool") rfl) pa_nil)))) (pe_one (pe_cmpR op_ge (pv 0) pe_int (nomark _))))))), ?_⟩
  intro x
  refine .ok (ss_ret ?_)
  refine sv_is (sv_and (c := dInt x && (!dBool x && countB x)) (sv_isInt (sv_var rfl)) fun h1 => sv_is (sv_and (sv_not (sv_isBool (sv_var rfl))) fun h2 => ?_) (by rw [h1]; rfl)) (by cases x <;> simp [dInt, dBool, countB])
  cases x with
  | int i => exact sv_cmp (g := fun i j => decide (j ≤ i)) (sv_var rfl) sv_int
  | _ => first | (simp [dInt] at h1; done) | (simp [dBool] at h2; done)
def S_is_below : Fs := ⟨PyData × Int, 2, fun x => [.im (isD x.1), .im (isD (.int x.2))], fun _ => rfl, fun x => .ok (isD (.bool (belowB x.1 x.2)))⟩
abbrev st_is_below : Stmt := top 9
theorem sc_is_below : FnScope ["value", "end"] ["value", "end"] (defScope st_is_below) := ⟨rfl, rfl, rfl, by decide +kernel, rfl, by decide +kernel, by decide +kernel⟩
theorem ok_is_below {f : Addr} {fd : FuncData} (T : Txt K mg cAE cBB cBN cBR cTL cBk cPr aE0 aEV aBG) (F_is_count : FnC P w K mg base 1 "is_count" (spF (S_is_count))) (F : Fun K "is_below" "is_below" st_is_below f fd) : FnOk P w K mg base (L2.CX P w) 2 f fd ["value", "end"] (spF (S_is_below)) := by
  refine fn_ok F sc_is_below rfl fun cdv A outer s H E hr => ?_
  have tk : Takes (cxD P w K mg base ["value", "end"] "is_below" st_is_below f cdv A outer s H E) (fun cls d _ H => E cls d H) := takes_of rfl rfl rfl rfl
  have hx := pxM tk
  have nd := sc_is_below.nd
  refine ⟨_, (pss_one (ps_ret (pe_and (pe_fn F_is_count hr hx (pa_cons (pv 0) pa_nil)) (pe_one (pe_cmpR op_lt (pv 0) (pv 1) (nomark _)))))), ?_⟩
  intro x
  obtain ⟨d, n⟩ := x
  refine .ok (ss_ret ?_)
  refine sv_is (sv_and (c := belowB d n) (sv_call (S := S_is_count) (sa_im (sv_var rfl) sa_nil) d rfl rfl) fun h1 => ?_) (by cases d <;> simp [countB, belowB])
  cases d with
  | int i => exact sv_is (sv_cmp (g := fun i j => decide (i < j)) (sv_var rfl) (sv_var rfl)) (by simp [countB] at h1; simp [belowB, h1])
  | _ => simp [countB] at h1
def S_are_below : Fs := ⟨{x : PyData × Int // Fit x.1}, 2, fun x => [.im (isD x.1.1), .im (isD (.int x.1.2))], fun _ => rfl, fun x => .ok (isD (.bool (tupB (fun e => belowB e x.1.2) x.1.1)))⟩
abbrev st_are_below : Stmt := top 10
theorem sc_are_below : FnScope ["value", "end", "item"] ["value", "end"] (defScope st_are_below) := ⟨rfl, rfl, rfl, by decide +kernel, rfl, by decide +kernel, by decide +kernel⟩
theorem ok_are_below {f : Addr} {fd : FuncData} (T : Txt K mg cAE cBB cBN cBR cTL cBk cPr aE0 aEV aBG)  (F : Fun K "are_below" "are_below" st_are_below f fd) : FnOk P w K mg base (L2.CX P w) 1 f fd ["value", "end"] (spF (S_are_below)) := by
  refine fn_ok F sc_are_below rfl fun cdv A outer s H E hr => ?_
  have tk : Takes (cxD P w K mg base ["value", "end", "item"] "are_below" st_are_below f cdv A outer s H E) (fun cls d _ H => E cls d H) := takes_of rfl rfl rfl rfl
  have hx := pxM tk
  have nd := sc_are_below.nd
  refine ⟨_, (pss_cons (ps_if (pt_not (pt_val (pe_callB call_isi (by rfl) T.no_isinstance (by decide +kernel) (pa_cons (pv 0) (pa_cons (pe_bltn (by rfl) T.no_tuple (by decide +kernel) (v := .ty "tuple") rfl) pa_nil))))) (pss_one (ps_ret pe_bl)) pss_nil)
 (pss_one (ps_ret (pe_callB (cr_all rfl) (by rfl) T.no_all (by decide +kernel) (pa_cons (pe_lc (own := [("item", 2)]) (g := gName 2) (tt := tYes) rfl nd (pi_tup (pv 0)) (blkOk_by (N := ["value", "end", "item"]) (sc := defScope st_are_below) (by decide +kernel)) (fun _ _ _ _ _ => pg_name (i := 2) nd rfl (Or.inl rfl)) (fun _ _ _ _ _ => pts_nil) (fun _ _ _ _ _ => (pe_and (pe_callB (r := rIsi K) call_isi (by rfl) T.no_isinstance (by decide +kernel) (pa_cons (pv 2) (pa_cons (pe_bltn (by rfl) T.no_int (by decide +kernel) (v := .ty "int") rfl) pa_nil))) (pe_and (pe_cmpR Mini.op_notBl (pv 2) pe_bl (nomark _)) (pe_and (pe_cmpR Mini.op_notBl (pv 2) pe_bl (nomark _)) (pe_one (pe_chain op_le op_lt pe_int (pv 2) (pv 1)))))))) pa_nil))))), ?_⟩
  intro x
  obtain ⟨⟨d, n⟩, hf⟩ := x
  cases d with
  | tuple ds =>
    refine .ok (ss_seq (ss_if0 (st_is (st_not (st_B (sv_isTup (sv_var rfl)))) rfl) ss_next) ?_)
    refine ss_ret (sv_is (sv_all (bs := ds.map fun e => belowB e n) (rl_svl ?_)) (by rw [all_map_id]; rfl))
    refine svl_is (svl_lcMapT (sv_var rfl) (fun e => .bool (belowB e n)) (Nat.le_of_ble_eq_true rfl) hf fun e _ => ?_) (by rw [List.map_map]; rfl)
    refine sv_is (sv_and (c := !blB e true && (!blB e false && belowB e n)) (sv_isInt (sv_var rfl)) fun h1 => sv_and (sv_notBl (sv_var rfl)) fun h2 => sv_and (sv_notBl (sv_var rfl)) fun h3 => ?_) (by cases e with | bool b => cases b <;> rfl | _ => simp [dInt, blB, belowB])
    cases e with
    | int i => exact sv_chain (g := fun i j => decide (i ≤ j)) (g' := fun i j => decide (i < j)) sv_int (sv_var rfl) fun _ => sv_var rfl
    | bool b => cases b <;> simp [blB] at h2 h3
    | _ => simp [dInt] at h1
  | _ => exact .ok (ss_seqRt (ss_if1 (st_is (st_not (st_B (sv_isTup (sv_var rfl)))) rfl) (ss_ret sv_bl)))
/-! ### _is_word -/
def S_is_word : Fs := ⟨{x : PyData × Int // Fit x.1}, 2, fun x => [.im (isD x.1.1), .im (isD (.int x.1.2))], fun _ => rfl, fun x => .ok (isD (.bool (isWordB x.1.1 x.1.2)))⟩
abbrev st__is_word : Stmt := top 16
theorem sc__is_word : FnScope ["value", "letters"] ["value", "letters"] (defScope st__is_word) := ⟨rfl, rfl, rfl, by decide +kernel, rfl, by decide +kernel, by decide +kernel⟩
theorem ok__is_word {f : Addr} {fd : FuncData} (T : Txt K mg cAE cBB cBN cBR cTL cBk cPr aE0 aEV aBG) (F_are_below : FnC P w K mg base 1 "are_below" (spF (S_are_below))) (F : Fun K "_is_word" "_is_word" st__is_word f fd) : FnOk P w K mg base (L2.CX P w) 2 f fd ["value", "letters"] (spF (S_is_word)) := by
  refine fn_ok F sc__is_word rfl fun cdv A outer s H E hr => ?_
  have tk : Takes (cxD P w K mg base ["value", "letters"] "_is_word" st__is_word f cdv A outer s H E) (fun cls d _ H => E cls d H) := takes_of rfl rfl rfl rfl
  have hx := pxM tk
  have nd := sc__is_word.nd
  refine ⟨_, (pss_one (ps_ret (pe_and (pe_fn F_are_below hr hx (pa_cons (pv 0) (pa_cons (pv 1) pa_nil))) (pe_one (pe_chain op_le op_le pe_int (pe_callB call_len (by rfl) T.no_len (by decide +kernel) (pa_cons (pv 0) pa_nil)) (pe_gc T.c_LONGEST_WORD)))))), ?_⟩
  intro x
  obtain ⟨⟨d, n⟩, hf⟩ := x
  refine .ok (ss_ret ?_)
  refine sv_and (sv_call (S := S_are_below) (sa_im (sv_var rfl) (sa_im (sv_var rfl) sa_nil)) ⟨(d, n), hf⟩ rfl rfl) fun h1 => ?_
  cases d with
  | tuple ds => exact sv_chain (g := fun i j => decide (i ≤ j)) (g' := fun i j => decide (i ≤ j)) sv_int (sv_lenT (sv_var rfl)) fun _ => sv_int
  | _ => simp [tupB] at h1

/-! ### _are_words -/
def S_are_words : Fs := ⟨{x : (PyData ⊕ List PyData) × Int // Fits (datOf x.1)}, 2, fun x => [argOf x.1.1, .im (isD (.int x.1.2))], fun _ => rfl, fun x => .ok (isD (.bool (areWordsB (datOf x.1.1) x.1.2)))⟩
abbrev st__are_words : Stmt := top 17
theorem sc__are_words : FnScope ["value", "letters", "word"] ["value", "letters"] (defScope st__are_words) := ⟨rfl, rfl, rfl, by decide +kernel, rfl, by decide +kernel, by decide +kernel⟩
theorem ok__are_words {f : Addr} {fd : FuncData} (T : Txt K mg cAE cBB cBN cBR cTL cBk cPr aE0 aEV aBG) (F__is_word : FnC P w K mg base 2 "_is_word" (spF (S_is_word))) (F : Fun K "_are_words" "_are_words" st__are_words f fd) : FnOk P w K mg base (L2.CX P w) 3 f fd ["value", "letters"] (spF (S_are_words)) := by
  refine fn_ok F sc__are_words rfl fun cdv A outer s H E hr => ?_
  have tk : Takes (cxD P w K mg base ["value", "letters", "word"] "_are_words" st__are_words f cdv A outer s H E) (fun cls d _ H => E cls d H) := takes_of rfl rfl rfl rfl
  have hx := pxM tk
  have nd := sc__are_words.nd
  refine ⟨_, (pss_cons (ps_if (PW.pt (pw_or (pt_not (pt_val (pe_callB call_isi (by rfl) T.no_isinstance (by decide +kernel) (pa_cons (pv 0) (pa_cons (pe_bltn (by rfl) T.no_list (by decide +kernel) (v := .ty "list") rfl) pa_nil))))) (pw_or1 (pt_cmpR op_gt (pe_callB call_len (by rfl) T.no_len (by decide +kernel) (pa_cons (pv 0) pa_nil)) (pe_gc T.c_MOST_WORDS) (nomark _))))) (pss_one (ps_ret pe_bl)) pss_nil)
 (pss_one (ps_ret (pe_callB (cr_all rfl) (by rfl) T.no_all (by decide +kernel) (pa_cons (pe_lc (own := [("word", 2)]) (g := gName 2) (tt := tYes) rfl nd (pi_list (pv 0)) (blkOk_by (N := ["value", "letters", "word"]) (sc := defScope st__are_words) (by decide +kernel)) (fun _ _ _ _ _ => pg_name (i := 2) nd rfl (Or.inl rfl)) (fun _ _ _ _ _ => pts_nil) (fun _ _ _ _ _ => (pe_fn F__is_word hr px0 (pa_cons (pv 2) (pa_cons (pv 1) pa_nil))))) pa_nil))))), ?_⟩
  intro x
  obtain ⟨⟨a, n⟩, hf⟩ := x
  have hf : Fits (datOf a) := hf
  show Mini.Ans _ _ (entG (argOf a :: [.im (isD (.int n))]) ++ [.no]) (.ok (isD (.bool (areWordsB (datOf a) n))))
  rw [ent_slOf]
  cases hd : datOf a with
  | list ds =>
    rw [hd] at hf
    have h1 : ∀ x : Sl, Rl (tVar 0) [slOf a, .im (isD (.int n)), x] ds := fun x => rl_slOf hd rfl
    by_cases hl : ds.length ≤ 60
    · refine .ok (ss_seq (G1 := [slOf a, .im (isD (.int n)), .no]) (ss_if0 (st_is (st_or (c := decide (60 < (ds.length : Int))) (st_not (st_B (sv_isLstR (h1 _)))) fun _ => st_test (sv_cmp (g := fun i j => decide (j < i)) (sv_lenL (h1 _)) sv_int)) (by simp; omega)) ss_next) ?_)
      refine ss_ret (sv_is (sv_all (bs := ds.map fun e => isWordB e n) (rl_svl ?_)) (by rw [all_map_id]; simp [areWordsB, hl]))
      refine svl_is (svl_lcMap (h1 _) (fun e => .bool (isWordB e n)) (Nat.le_of_ble_eq_true rfl) hf.1 fun e he => ?_) (by rw [List.map_map]; rfl)
      exact sv_call (S := S_is_word) (sa_im (sv_var rfl) (sa_im (sv_var rfl) sa_nil)) ⟨(e, n), hf.2 e he⟩ rfl rfl
    · exact .ok (ss_seqRt (ss_if1 (st_is (st_or (c := decide (60 < (ds.length : Int))) (st_not (st_B (sv_isLstR (h1 _)))) fun _ => st_test (sv_cmp (g := fun i j => decide (j < i)) (sv_lenL (h1 _)) sv_int)) (by simp; omega)) (ss_ret (sv_is sv_bl (by simp [areWordsB, hl])))))
  | _ =>
    have h1 : Sv (tVar 0) [slOf a, .im (isD (.int n)), .no] (isD (datOf a)) := sv_slOf (fun ds z => by rw [hd] at z; cases z) rfl
    rw [hd] at h1
    exact .ok (ss_seqRt (ss_if1 (st_is (st_or (c := true) (st_not (st_B (sv_isLst h1))) fun z => by simp [dLst] at z) rfl) (ss_ret sv_bl)))

/-! ### Book.__init__ -/
/-- the words handed in, whoever owns them: a book of them, or an error -/
def S_Book (cBB : Addr) : Ini := ⟨{x : PyData × (PyData ⊕ List PyData) // Fits (datOf x.2)}, 2, fun x => [.im (isD x.1.1), argOf x.1.2], fun _ => rfl,
  fun x => match x.1.1, datOf x.1.2 with
    | .int m, .list ds => if belowB (.int m) 61 && areWordsB (.list ds) m then .inl (bookF (.int m) ds) else .inr cBB
    | _, _ => .inr cBB⟩
abbrev st_Book_init : Stmt := inClass (top 18) 0
theorem sc_Book_init : FnScope ["self", "letters", "words"] ["self", "letters", "words"] (defScope st_Book_init) := ⟨rfl, rfl, rfl, by decide +kernel, rfl, by decide +kernel, by decide +kernel⟩
theorem ok_Book_init {f : Addr} {fd : FuncData} (T : Txt K mg cAE cBB cBN cBR cTL cBk cPr aE0 aEV aBG) (F_is_below : FnC P w K mg base 2 "is_below" (spF (S_is_below))) (F__are_words : FnC P w K mg base 3 "_are_words" (spF (S_are_words))) (F : Fun K "__init__" "Book.__init__" st_Book_init f fd) : FnOk P w K mg base (L2.CX P w) 4 f fd ["self", "letters", "words"] (spN cBk (S_Book cBB)) := by
  refine ini_ok F sc_Book_init rfl fun cdv A outer s H E hr => ?_
  have tk : Takes (cxD P w K mg base ["self", "letters", "words"] "Book.__init__" st_Book_init f cdv A outer s H E) (fun cls d _ H => E cls d H) := takes_of rfl rfl rfl rfl
  have hx := pxM tk
  have nd := sc_Book_init.nd
  refine ⟨_, (pss_cons (ps_if (pt_not (pt_val (pe_fn F_is_below hr hx (pa_cons (pv 1) (pa_cons (pe_op op_uAdd (pe_gc T.c_MOST_LETTERS) pe_int) pa_nil))))) (pss_one (ps_rs rfl tk (pmk_err T.e_BadBook))) pss_nil)
 (pss_cons (ps_if (pt_not (pt_val (pe_fn F__are_words hr hx (pa_cons (pv 2) (pa_cons (pv 1) pa_nil))))) (pss_one (ps_rs rfl tk (pmk_err T.e_BadBook))) pss_nil)
 (pss_cons (ps_fld (pv 0) (pv 1) rfl)
 (pss_cons (ps_fld (pv 0) (pe_callB call_len (by rfl) T.no_len (by decide +kernel) (pa_cons (pv 2) pa_nil)) rfl)
 (pss_one (ps_fld (pv 0) (pe_callTy call_list_of (by rfl) T.no_list (by decide +kernel) (pa_cons (pv 2) pa_nil)) rfl)))))), ?_⟩
  intro x
  obtain ⟨⟨d, a⟩, hf⟩ := x
  have hf : Fits (datOf a) := hf
  have eG : ∀ p dx, (Sl.ow (owI cBk p dx (flds [])) :: startG 2 [.im (isD d), argOf a]) = [.ow (owI cBk p dx (flds [])), .im (isD d), slOf a] := fun p dx => by cases a <;> rfl
  have t1 : ∀ {x : Sl}, Sv (tCallS (spF S_is_below) (fun _ => E) (tCons (tVar 1) (tCons (tOp (uAdd K) (tC (.int 60)) (tC (.int 1))) tNil))) [x, .im (isD d), slOf a] (isD (.bool (belowB d 61))) := fun {x} =>
    sv_call (S := S_is_below) (sa_im (sv_var rfl) (sa_im (sv_add sv_int sv_int) sa_nil)) (d, 61) rfl rfl
  by_cases c1 : belowB d 61 = true
  · obtain ⟨m, rfl⟩ : ∃ m, d = .int m := by cases d <;> first | exact ⟨_, rfl⟩ | (simp [belowB] at c1; done)
    have t2 : ∀ {x : Sl}, Sv (tCallS (spF S_are_words) (fun _ => E) (tCons (tVar 2) (tCons (tVar 1) tNil))) [x, .im (isD (.int m)), slOf a] (isD (.bool (areWordsB (datOf a) m))) := fun {x} =>
      sv_call (S := S_are_words) (sa_slOf rfl (sa_im (sv_var rfl) sa_nil)) ⟨(a, m), hf⟩ rfl rfl
    by_cases c2 : areWordsB (datOf a) m = true
    · obtain ⟨ds, hd⟩ : ∃ ds, datOf a = .list ds := by cases h : datOf a <;> first | exact ⟨_, rfl⟩ | (rw [h] at c2; simp [areWordsB] at c2; done)
      have hr : (S_Book cBB).res ⟨(.int m, a), hf⟩ = .inl (bookF (.int m) ds) := by
        show (match (PyData.int m), datOf a with
          | .int m, .list ds => if (belowB (.int m) 61 && areWordsB (.list ds) m) = true then Sum.inl (bookF (.int m) ds) else Sum.inr cBB
          | _, _ => Sum.inr cBB) = _
        rw [hd] at c2 ⊢
        show (if (belowB (.int m) 61 && areWordsB (.list ds) m) = true then _ else _) = _
        rw [c1, c2]; rfl
      rw [hr]
      intro p dx
      apply ini_good
      · show Ss _ _ (Sl.ow (owI cBk p dx (flds [])) :: startG 2 [.im (isD (.int m)), argOf a]) _
        rw [eG]
        refine ss_seq (ss_if0 (st_is (st_not (st_B t1)) (by rw [c1]; rfl)) ss_next) ?_
        refine ss_seq (ss_if0 (st_is (st_not (st_B t2)) (by rw [c2]; rfl)) ss_next) ?_
        refine ss_seq (ss_fld (fs := []) rfl (sv_var rfl) rfl (Nat.le_of_ble_eq_true rfl) T.cl_cBk T.n_cBk_letters) ?_
        refine ss_seq (ss_fld (fs := [("letters", isD (.int m))]) rfl (sv_lenL (rl_slOf hd rfl)) rfl (Nat.le_of_ble_eq_true rfl) T.cl_cBk T.n_cBk_size) ?_
        exact ss_fld (fs := [("letters", isD (.int m)), ("size", isD (.int ds.length))]) rfl (sv_svl (svl_list (rl_slOf hd rfl))) rfl (Nat.le_of_ble_eq_true rfl) T.cl_cBk T.n_cBk__words
      · rfl
    · have hr : (S_Book cBB).res ⟨(.int m, a), hf⟩ = .inr cBB := by
        show (match (PyData.int m), datOf a with
          | .int m, .list ds => if (belowB (.int m) 61 && areWordsB (.list ds) m) = true then Sum.inl (bookF (.int m) ds) else Sum.inr cBB
          | _, _ => Sum.inr cBB) = _
        have c2' := Bool.not_eq_true _ ▸ c2
        cases h : datOf a with
        | list ds =>
          rw [h] at c2'
          show (if (belowB (.int m) 61 && areWordsB (.list ds) m) = true then _ else _) = _
          rw [c2', Bool.and_false]; rfl
        | _ => rfl
      rw [hr]
      intro p dx
      apply ini_bad (F' := flds [])
      · show Ss _ _ (Sl.ow (owI cBk p dx (flds [])) :: startG 2 [.im (isD (.int m)), argOf a]) _
        rw [eG]
        refine ss_seq (ss_if0 (st_is (st_not (st_B t1)) (by rw [c1]; rfl)) ss_next) ?_
        exact ss_seqBad (ss_if1 (st_is (st_not (st_B t2)) (by simp [c2])) ss_rs)
      · rfl
  · have hr : (S_Book cBB).res ⟨(d, a), hf⟩ = .inr cBB := by
      have c1' : belowB d 61 = false := Bool.not_eq_true _ ▸ c1
      show (match d, datOf a with
        | .int m, .list ds => if (belowB (.int m) 61 && areWordsB (.list ds) m) = true then Sum.inl (bookF (.int m) ds) else Sum.inr cBB
        | _, _ => Sum.inr cBB) = _
      cases d with
      | int m => cases h : datOf a with
        | list ds =>
          show (if (belowB (.int m) 61 && areWordsB (.list ds) m) = true then _ else _) = _
          rw [c1', Bool.false_and]; rfl
        | _ => rfl
      | _ => rfl
    rw [hr]
    intro p dx
    apply ini_bad (F' := flds [])
    · show Ss _ _ (Sl.ow (owI cBk p dx (flds [])) :: startG 2 [.im (isD d), argOf a]) _
      rw [eG]
      exact ss_seqBad (ss_if1 (st_is (st_not (st_B t1)) (by simp [c1])) ss_rs)
    · rfl

/-! ### Book.words -/
def S_words (cBk : Addr) : Fs := ⟨PyData × List PyData, 1, fun x => [.im (isI cBk (bookF x.1 x.2))], fun _ => rfl, fun x => .ol x.2⟩
abbrev st_Book_words : Stmt := inClass (top 18) 1
theorem sc_Book_words : FnScope ["self"] ["self"] (defScope st_Book_words) := ⟨rfl, rfl, rfl, by decide +kernel, rfl, by decide +kernel, by decide +kernel⟩
theorem ok_Book_words {f : Addr} {fd : FuncData} (T : Txt K mg cAE cBB cBN cBR cTL cBk cPr aE0 aEV aBG)  (F : Fun K "words" "Book.words" st_Book_words f fd) : FnOk P w K mg base (L2.CX P w) 1 f fd ["self"] (spF (S_words cBk)) := by
  refine fn_ok F sc_Book_words rfl fun cdv A outer s H E hr => ?_
  have tk : Takes (cxD P w K mg base ["self"] "Book.words" st_Book_words f cdv A outer s H E) (fun cls d _ H => E cls d H) := takes_of rfl rfl rfl rfl
  have hx := pxM tk
  have nd := sc_Book_words.nd
  refine ⟨_, (pss_one (ps_ret (pe_callTy call_list_of (by rfl) T.no_list (by decide +kernel) (pa_cons (pe_fld (pv 0) rfl) pa_nil)))), ?_⟩
  intro x
  exact .ol (ss_retL (svl_list (rl_sv (sv_fld (sv_var rfl) rfl T.cl_cBk T.n_cBk__words))))
def goodBook (d e : PyData) : Bool := match d, e with
  | .int m, .list ds => belowB (.int m) 61 && areWordsB (.list ds) m
  | _, _ => false
theorem book_good {x : (S_Book cBB).α} (h : goodBook x.1.1 (datOf x.1.2) = true) : ∃ m ds, x.1.1 = .int m ∧ datOf x.1.2 = .list ds ∧ (S_Book cBB).res x = .inl (bookF (.int m) ds) := by
  obtain ⟨⟨d, a⟩, hf⟩ := x
  dsimp only at h ⊢
  cases d with
  | int m =>
    cases hd : datOf a with
    | list ds =>
      rw [hd] at h
      refine ⟨m, ds, rfl, rfl, ?_⟩
      show (match (PyData.int m), datOf a with
        | .int m, .list ds => if (belowB (.int m) 61 && areWordsB (.list ds) m) = true then Sum.inl (bookF (.int m) ds) else Sum.inr cBB
        | _, _ => Sum.inr cBB) = _
      rw [hd]
      exact if_pos h
    | _ => rw [hd] at h; simp [goodBook] at h
  | _ => simp [goodBook] at h
theorem good_wD {m : Int} {W : List (List Int)} (h0 : 0 ≤ m) (h1 : m < 61) (h : GoodW W m) : goodBook (.int m) (.list (wD W)) = true := by
  show (belowB (.int m) 61 && areWordsB (.list (wD W)) m) = true
  rw [(belowB_int m 61).mpr ⟨h0, h1⟩, (areWords_iff W m).mpr h]; rfl
theorem res_good {cBB : Addr} {m : Int} {ds : List PyData} (x : (S_Book cBB).α) (h1 : x.1.1 = .int m) (h2 : datOf x.1.2 = .list ds) (h : goodBook (.int m) (.list ds) = true) : (S_Book cBB).res x = .inl (bookF (.int m) ds) := by
  obtain ⟨m', ds', e1, e2, e3⟩ := book_good (cBB := cBB) (x := x) (by rw [h1, h2]; exact h)
  rw [h1] at e1
  rw [h2] at e2
  cases e1
  cases e2
  exact e3

/-! ### pairs -/
def pairF (cBk : Addr) (m1 : Int) (d1 : List PyData) (m2 : Int) (d2 : List PyData) : Fl := flds [("first", isI cBk (bookF (.int m1) d1)), ("second", isI cBk (bookF (.int m2) d2)), ("letters", isD (.int m1))]
theorem pairF_no {cBk : Addr} {m1 m2 : Int} {d1 d2 : List PyData} {f : Str} (h : ([("first", isI cBk (bookF (.int m1) d1)), ("second", isI cBk (bookF (.int m2) d2)), ("letters", isD (.int m1))] : List (Str × Ty)).lookup f = none) : ∀ vs B, (pairF cBk m1 d1 m2 d2).r vs B → vs.lookup f = none := fun vs B r => (FldsOk.look r).2 h

def S_Pair (cBk cBB : Addr) : Ini := ⟨(Int × List PyData) × (Int × List PyData), 2, fun x => [.im (isI cBk (bookF (.int x.1.1) x.1.2)), .im (isI cBk (bookF (.int x.2.1) x.2.2))], fun _ => rfl,
  fun x => if x.1.1 = x.2.1 then .inl (pairF cBk x.1.1 x.1.2 x.2.1 x.2.2) else .inr cBB⟩
abbrev st_Pair_init : Stmt := inClass (top 19) 0
theorem sc_Pair_init : FnScope ["self", "first", "second"] ["self", "first", "second"] (defScope st_Pair_init) := ⟨rfl, rfl, rfl, by decide +kernel, rfl, by decide +kernel, by decide +kernel⟩
theorem ok_Pair_init {f : Addr} {fd : FuncData} (T : Txt K mg cAE cBB cBN cBR cTL cBk cPr aE0 aEV aBG)  (F : Fun K "__init__" "Pair.__init__" st_Pair_init f fd) : FnOk P w K mg base (L2.CX P w) 1 f fd ["self", "first", "second"] (spN cPr (S_Pair cBk cBB)) := by
  refine ini_ok F sc_Pair_init rfl fun cdv A outer s H E hr => ?_
  have tk : Takes (cxD P w K mg base ["self", "first", "second"] "Pair.__init__" st_Pair_init f cdv A outer s H E) (fun cls d _ H => E cls d H) := takes_of rfl rfl rfl rfl
  have hx := pxM tk
  have nd := sc_Pair_init.nd
  refine ⟨_, (pss_cons (ps_if (pt_cmpR (op_neD hr.units) (pe_fld (pv 1) rfl) (pe_fld (pv 2) rfl) (nomark _)) (pss_one (ps_rs rfl tk (pmk_err T.e_BadBook))) pss_nil)
 (pss_cons (ps_fld (pv 0) (pv 1) rfl)
 (pss_cons (ps_fld (pv 0) (pv 2) rfl)
 (pss_one (ps_fld (pv 0) (pe_fld (pv 1) rfl) rfl))))), ?_⟩
  intro x
  obtain ⟨⟨m1, d1⟩, ⟨m2, d2⟩⟩ := x
  have t1 : ∀ {y : Sl}, St' (tTest (tOp (rNeD K) (tFld K (tVar 1) "letters") (tFld K (tVar 2) "letters"))) [y, .im (isI cBk (bookF (.int m1) d1)), .im (isI cBk (bookF (.int m2) d2))] (!decide (m1 = m2)) := fun {y} =>
    st_test (sv_neI (sv_fld (sv_var rfl) rfl T.cl_cBk T.n_cBk_letters) (sv_fld (sv_var rfl) rfl T.cl_cBk T.n_cBk_letters))
  by_cases c : m1 = m2
  · have hr : (S_Pair cBk cBB).res ((m1, d1), (m2, d2)) = .inl (pairF cBk m1 d1 m2 d2) := if_pos c
    rw [hr]
    intro p dx
    apply ini_good
    · show Ss _ _ (Sl.ow (owI cPr p dx (flds [])) :: [.im (isI cBk (bookF (.int m1) d1)), .im (isI cBk (bookF (.int m2) d2))]) _
      refine ss_seq (ss_if0 (st_is t1 (by simp [c])) ss_next) ?_
      refine ss_seq (ss_fld (fs := []) rfl (sv_var rfl) rfl (Nat.le_of_ble_eq_true rfl) T.cl_cPr T.n_cPr_first) ?_
      refine ss_seq (ss_fld (fs := [("first", isI cBk (bookF (.int m1) d1))]) rfl (sv_var rfl) rfl (Nat.le_of_ble_eq_true rfl) T.cl_cPr T.n_cPr_second) ?_
      exact ss_fld (fs := [("first", isI cBk (bookF (.int m1) d1)), ("second", isI cBk (bookF (.int m2) d2))]) rfl (sv_fld (sv_var rfl) rfl T.cl_cBk T.n_cBk_letters) rfl (Nat.le_of_ble_eq_true rfl) T.cl_cPr T.n_cPr_letters
    · rfl
  · have hr : (S_Pair cBk cBB).res ((m1, d1), (m2, d2)) = .inr cBB := if_neg c
    rw [hr]
    intro p dx
    apply ini_bad (F' := flds [])
    · show Ss _ _ (Sl.ow (owI cPr p dx (flds [])) :: [.im (isI cBk (bookF (.int m1) d1)), .im (isI cBk (bookF (.int m2) d2))]) _
      exact ss_seqBad (ss_if1 (st_is t1 (by simp [c])) ss_rs)
    · rfl

/-! ### Book.word, Pair.is_even -/
def S_word (cBk cBN : Addr) : Fs := ⟨(PyData × List PyData) × PyData, 2, fun x => [.im (isI cBk (bookF x.1.1 x.1.2)), .im (isD x.2)], fun _ => rfl,
  fun x => if belowB x.2 x.1.2.length then .ok (isD (match x.2 with | .int i => x.1.2.getD i.toNat .none | _ => .none)) else .bad cBN⟩
abbrev st_Book_word : Stmt := inClass (top 18) 2
theorem sc_Book_word : FnScope ["self", "number"] ["self", "number"] (defScope st_Book_word) := ⟨rfl, rfl, rfl, by decide +kernel, rfl, by decide +kernel, by decide +kernel⟩
theorem ok_Book_word {f : Addr} {fd : FuncData} (T : Txt K mg cAE cBB cBN cBR cTL cBk cPr aE0 aEV aBG) (F_is_below : FnC P w K mg base 2 "is_below" (spF (S_is_below))) (F : Fun K "word" "Book.word" st_Book_word f fd) : FnOk P w K mg base (L2.CX P w) 3 f fd ["self", "number"] (spF (S_word cBk cBN)) := by
  refine fn_ok F sc_Book_word rfl fun cdv A outer s H E hr => ?_
  have tk : Takes (cxD P w K mg base ["self", "number"] "Book.word" st_Book_word f cdv A outer s H E) (fun cls d _ H => E cls d H) := takes_of rfl rfl rfl rfl
  have hx := pxM tk
  have nd := sc_Book_word.nd
  refine ⟨_, (pss_cons (ps_if (pt_not (pt_val (pe_fn F_is_below hr hx (pa_cons (pv 1) (pa_cons (pe_fld (pv 0) rfl) pa_nil))))) (pss_one (ps_rs rfl tk (pmk_err T.e_BadNumber))) pss_nil)
 (pss_one (ps_ret (pe_ix ix_seq (pe_fld (pv 0) rfl) (pv 1) (fun _ _ => rfl))))), ?_⟩
  intro x
  obtain ⟨⟨m, ds⟩, d⟩ := x
  have t1 : Sv (tCallS (spF S_is_below) (fun _ => E) (tCons (tVar 1) (tCons (tFld K (tVar 0) "size") tNil))) [.im (isI cBk (bookF m ds)), .im (isD d)] (isD (.bool (belowB d ds.length))) :=
    sv_call (S := S_is_below) (sa_im (sv_var rfl) (sa_im (sv_fld (sv_var rfl) rfl T.cl_cBk T.n_cBk_size) sa_nil)) (d, ds.length) rfl rfl
  by_cases c1 : belowB d ds.length = true
  · obtain ⟨i, rfl⟩ : ∃ i, d = .int i := by cases d <;> first | exact ⟨_, rfl⟩ | (simp [belowB] at c1; done)
    have hi : 0 ≤ i ∧ i < ds.length := by simpa [belowB] using c1
    show Mini.Ans _ _ _ (if belowB (.int i) ds.length = true then .ok (isD (ds.getD i.toNat .none)) else .bad cBN)
    rw [if_pos c1]
    refine .ok (ss_seq (ss_if0 (st_is (st_not (st_B t1)) (by simp [c1])) ss_next) (ss_ret ?_))
    refine sv_ixL (rl_sv (sv_fld (sv_var rfl) rfl T.cl_cBk T.n_cBk__words)) (sv_var rfl) (at_getD hi.1 hi.2)
  · show Mini.Ans _ _ _ (if belowB d ds.length = true then _ else .bad cBN)
    rw [if_neg c1]
    exact .bad (ss_seqBad (ss_if1 (st_is (st_not (st_B t1)) (by simp [c1])) ss_rs))

def S_is_even (cBk cPr : Addr) : Fs := ⟨Int × List PyData × List PyData, 1, fun x => [.im (isI cPr (pairF cBk x.1 x.2.1 x.1 x.2.2))], fun _ => rfl, fun x => .ok (isD (.bool (decide ((x.2.1.length : Int) = (x.2.2.length : Int)))))⟩
abbrev st_Pair_is_even : Stmt := inClass (top 19) 2
theorem sc_Pair_is_even : FnScope ["self"] ["self"] (defScope st_Pair_is_even) := ⟨rfl, rfl, rfl, by decide +kernel, rfl, by decide +kernel, by decide +kernel⟩
theorem ok_Pair_is_even {f : Addr} {fd : FuncData} (T : Txt K mg cAE cBB cBN cBR cTL cBk cPr aE0 aEV aBG)  (F : Fun K "is_even" "Pair.is_even" st_Pair_is_even f fd) : FnOk P w K mg base (L2.CX P w) 1 f fd ["self"] (spF (S_is_even cBk cPr)) := by
  refine fn_ok F sc_Pair_is_even rfl fun cdv A outer s H E hr => ?_
  have tk : Takes (cxD P w K mg base ["self"] "Pair.is_even" st_Pair_is_even f cdv A outer s H E) (fun cls d _ H => E cls d H) := takes_of rfl rfl rfl rfl
  have hx := pxM tk
  have nd := sc_Pair_is_even.nd
  refine ⟨_, (pss_one (ps_ret (pe_cmpR (op_eqD hr.units) (pe_fld (pe_fld (pv 0) rfl) rfl) (pe_fld (pe_fld (pv 0) rfl) rfl) (nomark _)))), ?_⟩
  intro x
  obtain ⟨m, A, B⟩ := x
  refine .ok (ss_ret (sv_eqI (sv_fld (sv_fld (sv_var rfl) rfl T.cl_cPr T.n_cPr_first) rfl T.cl_cBk T.n_cBk_size) (sv_fld (sv_fld (sv_var rfl) rfl T.cl_cPr T.n_cPr_second) rfl T.cl_cBk T.n_cBk_size)))

end
end K61

namespace K61
open PySem L2 Evl Mini PyProof.Rows
theorem sv_neQ {K : PySem.W.Frag} {G : Gm} {ta tb : TE} {b : Bool} {v w : List Int} (ha : Sv ta G (isD (SqD b v))) (hb : Sv tb G (isD (SqD b w))) (hv : b = true → InR v ∧ InR w) : Sv (tOp (rNeD K) ta tb) G (isD (.bool (!decide (v = w)))) := by
  cases b with
  | true => exact sv_is (sv_neS (x := sg v) (y := sg w) ha hb (sg_ok v) (sg_ok w)) (by rw [sg_eq_iff (hv rfl).1 (hv rfl).2])
  | false => exact sv_is (sv_ne (d := .tuple (v.map .int)) (e := .tuple (w.map .int)) ha hb (shaped_tints v) (shaped_tints w)) (by rw [eqv_tints])
section
variable {P : Program} {w : World} {K : PySem.W.Frag} {mg : Str → Option Value} {base : Heap} {cAE cBB cBN cBR cTL cBk cPr aE0 aEV aBG : Addr}
/-! ### signs_of, word_of -/
def WI (w : List Int) : Prop := InR w ∧ w.length ≤ 10000
def intD (d : PyData) : Int := match d with
  | .int i => i
  | _ => 0
def S_signs_of : Fs := ⟨{w : List Int // WI w}, 1, fun x => [.im (isD (.tuple (x.1.map .int)))], fun _ => rfl, fun x => .ok (isD (.str (sg x.1)))⟩
abbrev st_signs_of : Stmt := top 23
theorem sc_signs_of : FnScope ["word", "letter"] ["word"] (defScope st_signs_of) := ⟨rfl, rfl, rfl, by decide +kernel, rfl, by decide +kernel, by decide +kernel⟩
theorem ok_signs_of {f : Addr} {fd : FuncData} (T : Txt K mg cAE cBB cBN cBR cTL cBk cPr aE0 aEV aBG)  (F : Fun K "signs_of" "signs_of" st_signs_of f fd) : FnOk P w K mg base (L2.CX P w) 1 f fd ["word"] (spF (S_signs_of)) := by
  refine fn_ok F sc_signs_of rfl fun cdv A outer s H E hr => ?_
  have tk : Takes (cxD P w K mg base ["word", "letter"] "signs_of" st_signs_of f cdv A outer s H E) (fun cls d _ H => E cls d H) := takes_of rfl rfl rfl rfl
  have hx := pxM tk
  have nd := sc_signs_of.nd
  refine ⟨_, (pss_one (ps_ret (pe_join pe_str (pe_lc (own := [("letter", 1)]) (g := gName 1) (tt := tYes) rfl nd (pi_tup (pv 0)) (blkOk_by (N := ["word", "letter"]) (sc := defScope st_signs_of) (by decide +kernel)) (fun _ _ _ _ _ => pg_name (i := 1) nd rfl (Or.inl rfl)) (fun _ _ _ _ _ => pts_nil) (fun _ _ _ _ _ => (pe_ix (r := rIx K) ix_seq (pe_gc T.c_SIGNS) (pv 1) (fun _ _ => rfl))))))), ?_⟩
  intro x
  obtain ⟨w, hr, hl⟩ := x
  have hz : (sizeLine : Nat) = 16777216 := sizeLine_eq
  have e1 : (w.map PyData.int).map (fun d => PyData.str ⟨#[sgC (intD d)]⟩) = (w.map fun i => (⟨#[sgC i]⟩ : Str)).map PyData.str := by rw [List.map_map, List.map_map]; rfl
  refine .ok (ss_ret (sv_is (sv_join (z := "") (xs := w.map fun i => (⟨#[sgC i]⟩ : Str)) (rl_svl (svl_is (svl_lcMapT (K := K) (j := 1) (ds := w.map .int) (sv_var rfl) (fun d => .str ⟨#[sgC (intD d)]⟩) (Nat.le_of_ble_eq_true rfl) (by rw [List.length_map]; omega) fun d hd => ?_) e1)) ?_) (by rw [join_sg])))
  · obtain ⟨i, hi, rfl⟩ := List.mem_map.mp hd
    have h := hr i hi
    exact sv_ixS (z := signs) sv_str (sv_var rfl) (by decide +kernel) (by
      rw [SL_eq]
      have e : ((i.toNat : Nat) : Int) = i := by omega
      rw [← e]
      exact atI_nat (by rw [e]; exact sgC_at h.1 h.2))
  · rw [List.map_map, List.length_map]
    have e : ∀ w : List Int, (w.map ((fun s : Str => s.length) ∘ fun i => (⟨#[sgC i]⟩ : Str))).sum = w.length := fun w => by
      induction w with
      | nil => rfl
      | cons i w ih => rw [List.map_cons, List.sum_cons, ih, List.length_cons]; show 1 + w.length = _; omega
    have e0 : ("" : Str).length = 0 := by decide +kernel
    rw [e w, e0]
    omega
def lbF (k : Key) : PyData := match k with
  | .inl _ => .none
  | .inr s => .int ((SLc.idxOf (s.cps.toList.getD 0 0) : Nat) : Int)
def S_word_of : Fs := ⟨{w : List Int // WI w}, 1, fun x => [.im (isD (.str (sg x.1)))], fun _ => rfl, fun x => .ok (isD (.tuple (x.1.map .int)))⟩
abbrev st_word_of : Stmt := top 24
theorem sc_word_of : FnScope ["signs", "letter_by_sign", "letter", "sign"] ["signs"] (defScope st_word_of) := ⟨rfl, rfl, rfl, by decide +kernel, rfl, by decide +kernel, by decide +kernel⟩
theorem ok_word_of {f : Addr} {fd : FuncData} (T : Txt K mg cAE cBB cBN cBR cTL cBk cPr aE0 aEV aBG)  (F : Fun K "word_of" "word_of" st_word_of f fd) : FnOk P w K mg base (L2.CX P w) 1 f fd ["signs"] (spF (S_word_of)) := by
  refine fn_ok F sc_word_of rfl fun cdv A outer s H E hr => ?_
  have tk : Takes (cxD P w K mg base ["signs", "letter_by_sign", "letter", "sign"] "word_of" st_word_of f cdv A outer s H E) (fun cls d _ H => E cls d H) := takes_of rfl rfl rfl rfl
  have hx := pxM tk
  have nd := sc_word_of.nd
  refine ⟨_, (pss_cons (ps_set (i := 1) nd rfl (Or.inr rfl) (pe_dc (own := [("letter", 2), ("sign", 3)]) (g := gTup K 2 (gCons (gName 2) (gCons (gName 3) gNil))) (tt := tYes) rfl nd (pi_enumS rfl T.no_enumerate (pa_cons (pe_gc T.c_SIGNS) pa_nil)) (blkOk_by (N := ["signs", "letter_by_sign", "letter", "sign"]) (sc := defScope st_word_of) (by decide +kernel)) (fun _ _ _ _ _ => (pg_tupK (K := K) rfl (pgs_cons (pg_name (i := 2) nd rfl (Or.inl rfl)) (pgs_cons (pg_name (i := 3) nd rfl (Or.inl rfl)) pgs_nil)))) (fun _ _ _ _ _ => pts_nil) (fun _ _ _ _ _ => (pv 3)) (fun _ _ _ _ _ => (pv 2))))
 (pss_one (ps_ret (pe_tupleOf (by rfl) T.no_tuple (pe_lc (own := [("sign", 3)]) (g := gName 3) (tt := tYes) rfl nd (pi_str (pv 0)) (blkOk_by (N := ["signs", "letter_by_sign", "letter", "sign"]) (sc := defScope st_word_of) (by decide +kernel)) (fun _ _ _ _ _ => pg_name (i := 3) nd rfl (Or.inl rfl)) (fun _ _ _ _ _ => pts_nil) (fun _ _ _ _ _ => (pe_dget (Nat.lt_of_le_of_lt (Nat.add_le_add_left (show 1 ≤ 64 by decide) _) hr.units) (pv 1) (pv 3) (fun _ _ => rfl)))))))), ?_⟩
  intro x
  obtain ⟨w, hr, hl⟩ := x
  have hz : (sizeLine : Nat) = 16777216 := sizeLine_eq
  have e1 : ((sg w).cps.toList.map fun c => PyData.int ((SLc.idxOf c : Nat) : Int)) = w.map .int := by
    rw [sg_list, List.map_map]
    exact List.map_congr_left fun v hv => by show PyData.int _ = _; rw [idx_sgC (hr v hv).1 (hr v hv).2]
  have nd0 : signs.cps.toList.Nodup := by rw [SL_eq]; exact SL_nd
  have hlen : signs.cps.toList.length = 60 := by rw [SL_eq]; exact SL_len
  refine .ok (ss_seq (ss_setDcS (z := signs) (f := lbF) sv_str nd0 (Nat.le_of_ble_eq_true rfl) (Nat.le_of_ble_eq_true rfl) (Nat.le_of_ble_eq_true rfl) (by decide) (by rw [hlen]; decide) fun i c h => ?_) ?_)
  · rw [SL_eq] at h
    show PyData.int ((SLc.idxOf c : Nat) : Int) = .int (i : Int)
    congr 2
    have hi := (List.getElem?_eq_some_iff.mp h).1
    have hc := (List.getElem?_eq_some_iff.mp h).2
    rw [← hc]
    exact SL_nd.idxOf_getElem i hi
  refine ss_ret (sv_tupleL (rl_svl (svl_is (svl_lcS (j := 3) (z := sg w) (sv_var rfl) (fun c => .int ((SLc.idxOf c : Nat) : Int)) (Nat.le_of_ble_eq_true rfl) (by rw [sg_list, List.length_map]; omega) fun c hc => ?_) e1)))
  rw [sg_list] at hc
  obtain ⟨v, hv, rfl⟩ := List.mem_map.mp hc
  refine sv_dgetF (ks := signs.cps.toList.map signK) (f := lbF) (k := signK (sgC v)) (sv_var rfl) (sv_var rfl) ?_
  refine List.mem_map.mpr ⟨sgC v, ?_, rfl⟩
  rw [SL_eq]
  exact List.mem_of_getElem? (sgC_at (hr v hv).1 (hr v hv).2)
/-! ### _check_books -/
def S_check_books (cBk cPr cBB : Addr) : Fs := ⟨Int × List PyData × List PyData, 1, fun x => [.im (isI cPr (pairF cBk x.1 x.2.1 x.1 x.2.2))], fun _ => rfl, fun x => if x.2.1.length = x.2.2.length then .ok (isD .none) else .bad cBB⟩
abbrev st__check_books : Stmt := top 29
theorem sc__check_books : FnScope ["pair"] ["pair"] (defScope st__check_books) := ⟨rfl, rfl, rfl, by decide +kernel, rfl, by decide +kernel, by decide +kernel⟩
theorem ok__check_books {f : Addr} {fd : FuncData} (T : Txt K mg cAE cBB cBN cBR cTL cBk cPr aE0 aEV aBG) (M_Pair_is_even : MtC P w K mg base 1 cPr "is_even" (spF (S_is_even cBk cPr))) (F : Fun K "_check_books" "_check_books" st__check_books f fd) : FnOk P w K mg base (L2.CX P w) 2 f fd ["pair"] (spF (S_check_books cBk cPr cBB)) := by
  refine fn_ok F sc__check_books rfl fun cdv A outer s H E hr => ?_
  have tk : Takes (cxD P w K mg base ["pair"] "_check_books" st__check_books f cdv A outer s H E) (fun cls d _ H => E cls d H) := takes_of rfl rfl rfl rfl
  have hx := pxM tk
  have nd := sc__check_books.nd
  refine ⟨_, (pss_one (ps_if (pt_not (pt_val (pe_mt0 (pv 0) M_Pair_is_even hr hx))) (pss_one (ps_rs rfl tk (pmk_err T.e_BadBook))) pss_nil)), ?_⟩
  intro x
  obtain ⟨m, A, B⟩ := x
  show Mini.Ans _ _ _ (if A.length = B.length then .ok (isD .none) else .bad cBB)
  by_cases c : A.length = B.length
  · rw [if_pos c]
    exact .non (ss_if0 (st_is (st_not (st_B (sv_mt (S := S_is_even cBk cPr) (sv_var rfl) (pairF_no rfl) sa_nil (m, A, B) rfl rfl))) (by show (!decide ((A.length : Int) = (B.length : Int))) = false; rw [c, decide_eq_true rfl]; rfl)) ss_next)
  · rw [if_neg c]
    exact .bad (ss_if1 (st_is (st_not (st_B (sv_mt (S := S_is_even cBk cPr) (sv_var rfl) (pairF_no rfl) sa_nil (m, A, B) rfl rfl))) (by show (!decide ((A.length : Int) = (B.length : Int))) = true; rw [decide_eq_false (by omega)]; rfl)) ss_rs)
def restP (x y : List Int) : PyData := if x ≠ [] then .tuple [.str "first", .tuple (x.map .int)] else if y ≠ [] then .tuple [.str "second", .tuple (y.map .int)] else .tuple [.str "even", .tuple []]
theorem pos_ne {x : List Int} : decide ((0 : Int) < (x.length : Int)) = decide (x ≠ []) := by
  cases x with
  | nil => rfl
  | cons a x => rw [decide_eq_true (by rw [List.length_cons]; omega), decide_eq_true (List.cons_ne_nil _ _)]
def restT (K : PySem.W.Frag) (x y : List Int) : Ty := if x = [] ∧ y = [] then isP K (restP x y) else isD (restP x y)
theorem restT_d {K : PySem.W.Frag} {x y : List Int} (h : ¬ (x = [] ∧ y = [])) : restT K x y = isD (restP x y) := if_neg h
theorem restT_p {K : PySem.W.Frag} {x y : List Int} {te : TE} {G : Gm} (h : Sv te G (restT K x y)) : Sv te G (isP K (restP x y)) := by
  unfold restT at h
  by_cases c : x = [] ∧ y = []
  · rw [if_pos c] at h; exact h
  · rw [if_neg c] at h; exact sv_pD h
def S_rest (K : PySem.W.Frag) : Fs := ⟨{x : List Int × List Int // x.1.length ≤ sizeLine ∧ x.2.length ≤ sizeLine}, 1, fun x => [.im (isD (pairQ false x.1.1 x.1.2))], fun _ => rfl, fun x => .ok (restT K x.1.1 x.1.2)⟩
abbrev st__rest : Stmt := top 30
theorem sc__rest : FnScope ["state", "first", "second"] ["state"] (defScope st__rest) := ⟨rfl, rfl, rfl, by decide +kernel, rfl, by decide +kernel, by decide +kernel⟩
theorem ok__rest {f : Addr} {fd : FuncData} (T : Txt K mg cAE cBB cBN cBR cTL cBk cPr aE0 aEV aBG)  (F : Fun K "_rest" "_rest" st__rest f fd) : FnOk P w K mg base (L2.CX P w) 1 f fd ["state"] (spF (S_rest K)) := by
  refine fn_ok F sc__rest rfl fun cdv A outer s H E hr => ?_
  have tk : Takes (cxD P w K mg base ["state", "first", "second"] "_rest" st__rest f cdv A outer s H E) (fun cls d _ H => E cls d H) := takes_of rfl rfl rfl rfl
  have hx := pxM tk
  have nd := sc__rest.nd
  refine ⟨_, (pss_cons (ps_asg (pv 0) (pg_tup rfl (pgs_cons (pg_name (i := 1) nd rfl (Or.inl rfl)) (pgs_cons (pg_name (i := 2) nd rfl (Or.inl rfl)) pgs_nil))))
 (pss_cons (ps_if (pt_cmpR op_gt (pe_callB call_len (by rfl) T.no_len (by decide +kernel) (pa_cons (pv 1) pa_nil)) pe_int (nomark _)) (pss_one (ps_ret (pe_tup (pa_cons pe_str (pa_cons (pv 1) pa_nil))))) pss_nil)
 (pss_one (ps_ret (pe_ifExp (pt_cmpR op_gt (pe_callB call_len (by rfl) T.no_len (by decide +kernel) (pa_cons (pv 2) pa_nil)) pe_int (nomark _)) (pe_tup (pa_cons pe_str (pa_cons (pv 2) pa_nil))) (pe_gc T.c_EVEN)))))), ?_⟩
  intro x
  obtain ⟨⟨x, y⟩, hx, hy⟩ := x
  have two : ∀ {G : Gm} {a : TE} {s : Str} {w : List Int}, Sv a G (isD (.tuple (w.map .int))) → Sv (tTup (tCons (tC (.str s)) (tCons a tNil))) G (isD (.tuple [.str s, .tuple (w.map .int)])) := fun {G a s w} h => (sv_tup (ds := [.str s, .tuple (w.map .int)]) (sa_ims sv_str (sa_ims h sa_nil)) (by show 2 ≤ sizeLine; decide))
  show Mini.Ans _ _ [.im (isD (pairQ false x y)), .no, .no] (.ok (restT K x y))
  refine .ok (ss_seq (ss_unpT2 (sv_var rfl)) ?_)
  have t : ∀ {n : Nat} {w : List Int} {G : Gm}, G[n]? = some (.im (isD (.tuple (w.map .int)))) → Sv (tOp (rI0 fun i j => .bl (decide (j < i))) (tCB (fun xs H Q => ∃ x n, xs = [x] ∧ LenV K x H n ∧ Q (.int n) H) (tCons (tVar n) tNil)) (tC (.int 0))) G (isD (.bool (decide (w ≠ [])))) := fun {n w G} h =>
    sv_is (sv_cmp (g := fun i j => decide (j < i)) (sv_is (sv_lenT (ds := w.map .int) (sv_var h)) (by rw [List.length_map])) sv_int) (by rw [pos_ne])
  by_cases c : x ≠ []
  · rw [restT_d (fun z => c z.1)]; unfold restP; rw [if_pos c]
    exact ss_seqRt (ss_if1 (st_is (st_test (t (w := x) rfl)) (decide_eq_true c)) (ss_ret (two (sv_var rfl))))
  · refine ss_seq (ss_if0 (st_is (st_test (t (w := x) rfl)) (decide_eq_false c)) ss_next) (ss_ret (sv_ite (b := decide (y ≠ [])) (st_test (t (w := y) rfl)) (fun h => ?_) fun h => ?_))
    · rw [restT_d (fun z => of_decide_eq_true h z.2)]; unfold restP; rw [if_neg c, if_pos (of_decide_eq_true h)]; exact two (sv_var rfl)
    · have hx0 : x = [] := Classical.not_not.mp c
      have hy0 : y = [] := Classical.not_not.mp (of_decide_eq_false h)
      rw [show restT K x y = isP K (restP x y) from if_pos ⟨hx0, hy0⟩]
      unfold restP; rw [if_neg c, if_neg (of_decide_eq_false h)]
      exact sv_pK fun B => .tup (.inr T.kt_aEV.kt) (.cons (.str _) (.cons (.tup (.inr T.kt_aE0.kt) .nil) .nil))
def S_size (K : PySem.W.Frag) : Fs := ⟨{x : Bool × List Int × List Int // x.2.1.length ≤ sizeLine ∧ x.2.2.length ≤ sizeLine}, 1, fun x => [.im (isP K (pairQ x.1.1 x.1.2.1 x.1.2.2))], fun _ => rfl, fun x => .ok (isD (.int ((x.1.2.1.length + x.1.2.2.length : Nat) : Int)))⟩
abbrev st__size : Stmt := top 32
theorem sc__size : FnScope ["state", "first", "second"] ["state"] (defScope st__size) := ⟨rfl, rfl, rfl, by decide +kernel, rfl, by decide +kernel, by decide +kernel⟩
theorem ok__size {f : Addr} {fd : FuncData} (T : Txt K mg cAE cBB cBN cBR cTL cBk cPr aE0 aEV aBG)  (F : Fun K "_size" "_size" st__size f fd) : FnOk P w K mg base (L2.CX P w) 1 f fd ["state"] (spF (S_size K)) := by
  refine fn_ok F sc__size rfl fun cdv A outer s H E hr => ?_
  have tk : Takes (cxD P w K mg base ["state", "first", "second"] "_size" st__size f cdv A outer s H E) (fun cls d _ H => E cls d H) := takes_of rfl rfl rfl rfl
  have hx := pxM tk
  have nd := sc__size.nd
  refine ⟨_, (pss_cons (ps_asg (pv 0) (pg_tup rfl (pgs_cons (pg_name (i := 1) nd rfl (Or.inl rfl)) (pgs_cons (pg_name (i := 2) nd rfl (Or.inl rfl)) pgs_nil))))
 (pss_one (ps_ret (pe_op op_uAdd (pe_callB call_len (by rfl) T.no_len (by decide +kernel) (pa_cons (pv 1) pa_nil)) (pe_callB call_len (by rfl) T.no_len (by decide +kernel) (pa_cons (pv 2) pa_nil)))))), ?_⟩
  intro x
  obtain ⟨⟨b, x, y⟩, hx, hy⟩ := x
  refine .ok (ss_seq (ss_unpP2 (d1 := SqD b x) (d2 := SqD b y) (sv_var rfl)) (ss_ret (sv_is (sv_add (sv_lenQ (b := b) (w := x) (sv_var rfl) hx) (sv_lenQ (b := b) (w := y) (sv_var rfl) hy)) ?_)))
  congr 1
end
/-! ### what is ahead -/
def behF (x y f g : List Int) : Option (List Int × List Int) :=
  if (x ++ f).take (min (x ++ f).length (y ++ g).length) = (y ++ g).take (min (x ++ f).length (y ++ g).length) then some ((x ++ f).drop (min (x ++ f).length (y ++ g).length), (y ++ g).drop (min (x ++ f).length (y ++ g).length)) else none
def behD (b : Bool) (o : Option (List Int × List Int)) : PyData := match o with
  | none => .none
  | some p => pairQ b p.1 p.2
theorem inR_cat {a b : List Int} (ha : InR a) (hb : InR b) : InR (a ++ b) := fun v hv => (List.mem_append.mp hv).elim (ha v) (hb v)
theorem inR_take {a : List Int} (h : InR a) (k : Nat) : InR (a.take k) := fun v hv => h v (List.mem_of_mem_take hv)
theorem inR_drop {a : List Int} (h : InR a) (k : Nat) : InR (a.drop k) := fun v hv => h v (List.mem_of_mem_drop hv)
theorem behF_in {x y f g : List Int} {p : List Int × List Int} (h : behF x y f g = some p) (hx : InR x) (hy : InR y) (hf : InR f) (hg : InR g) : InR p.1 ∧ InR p.2 := by
  unfold behF at h
  split at h
  · cases h; exact ⟨inR_drop (inR_cat hx hf) _, inR_drop (inR_cat hy hg) _⟩
  · cases h
theorem behF_len {x y f g : List Int} {p : List Int × List Int} (h : behF x y f g = some p) : p.1.length ≤ x.length + f.length ∧ p.2.length ≤ y.length + g.length := by
  unfold behF at h
  split at h
  · cases h
    simp only [List.length_drop, List.length_append]
    omega
  · cases h
section
variable {P : Program} {w : World} {K : PySem.W.Frag} {mg : Str → Option Value} {base : Heap} {cAE cBB cBN cBR cTL cBk cPr aE0 aEV aBG : Addr}
/-! ### _behind -/
def S_behind (K : PySem.W.Frag) : Fs := ⟨{x : Bool × (List Int × List Int) × List Int × List Int // (x.2.1.1.length ≤ 100000 ∧ x.2.1.2.length ≤ 100000 ∧ x.2.2.1.length ≤ 100000 ∧ x.2.2.2.length ≤ 100000) ∧ (x.1 = true → InR x.2.1.1 ∧ InR x.2.1.2 ∧ InR x.2.2.1 ∧ InR x.2.2.2)}, 3,
  fun x => [.im (stT K x.1.1 x.1.2.1.1 x.1.2.1.2), .im (isD (SqD x.1.1 x.1.2.2.1)), .im (isD (SqD x.1.1 x.1.2.2.2))], fun _ => rfl, fun x => .ok (isD (behD x.1.1 (behF x.1.2.1.1 x.1.2.1.2 x.1.2.2.1 x.1.2.2.2)))⟩
abbrev st__behind : Stmt := top 33
theorem sc__behind : FnScope ["state", "first", "second", "one", "other", "common"] ["state", "first", "second"] (defScope st__behind) := ⟨rfl, rfl, rfl, by decide +kernel, rfl, by decide +kernel, by decide +kernel⟩
theorem ok__behind {f : Addr} {fd : FuncData} (T : Txt K mg cAE cBB cBN cBR cTL cBk cPr aE0 aEV aBG)  (F : Fun K "_behind" "_behind" st__behind f fd) : FnOk P w K mg base (L2.CX P w) 1 f fd ["state", "first", "second"] (spF (S_behind K)) := by
  refine fn_ok F sc__behind rfl fun cdv A outer s H E hr => ?_
  have tk : Takes (cxD P w K mg base ["state", "first", "second", "one", "other", "common"] "_behind" st__behind f cdv A outer s H E) (fun cls d _ H => E cls d H) := takes_of rfl rfl rfl rfl
  have hx := pxM tk
  have nd := sc__behind.nd
  refine ⟨_, (pss_cons (ps_set (i := 3) nd rfl (Or.inl rfl) (pe_op op_uAdd (pe_ix ix_seq (pv 0) pe_int (fun _ _ => rfl)) (pv 1)))
 (pss_cons (ps_set (i := 4) nd rfl (Or.inl rfl) (pe_op op_uAdd (pe_ix ix_seq (pv 0) pe_int (fun _ _ => rfl)) (pv 2)))
 (pss_cons (ps_set (i := 5) nd rfl (Or.inl rfl) (pe_callB (call_min2 rfl) (by rfl) T.no_min (by decide +kernel) (pa_cons (pe_callB call_len (by rfl) T.no_len (by decide +kernel) (pa_cons (pv 3) pa_nil)) (pa_cons (pe_callB call_len (by rfl) T.no_len (by decide +kernel) (pa_cons (pv 4) pa_nil)) pa_nil))))
 (pss_cons (ps_if (pt_cmpR (op_neD hr.units) (pe_slice (r := uSlS K) sl_uSlS (pv 3) po_none (po_some (pv 5))) (pe_slice (r := uSlS K) sl_uSlS (pv 4) po_none (po_some (pv 5))) (nomark _)) (pss_one (ps_ret pe_non)) pss_nil)
 (pss_one (ps_ret (pe_tup (pa_cons (pe_slice (r := uSlS K) sl_uSlS (pv 3) (po_some (pv 5)) po_none) (pa_cons (pe_slice (r := uSlS K) sl_uSlS (pv 4) (po_some (pv 5)) po_none) pa_nil))))))))), ?_⟩
  intro x
  obtain ⟨⟨b, ⟨x, y⟩, f, g⟩, ⟨l1, l2, l3, l4⟩, hi⟩ := x
  have hz : (sizeLine : Nat) = 16777216 := sizeLine_eq
  have l1 : x.length ≤ 100000 := l1
  have l2 : y.length ≤ 100000 := l2
  have l3 : f.length ≤ 100000 := l3
  have l4 : g.length ≤ 100000 := l4
  have hi : b = true → InR x ∧ InR y ∧ InR f ∧ InR g := hi
  have z1 : (x ++ f).length ≤ sizeLine := by rw [List.length_append]; omega
  have z2 : (y ++ g).length ≤ sizeLine := by rw [List.length_append]; omega
  show Mini.Ans _ _ [.im (stT K b x y), .im (isD (SqD b f)), .im (isD (SqD b g)), .no, .no, .no] (.ok (isD (behD b (behF x y f g))))
  refine .ok (ss_seq (ss_set (P := isD (SqD b (x ++ f))) (sv_catQ (sv_st0 rfl) (sv_var rfl) (by omega))) (ss_seq (ss_set (P := isD (SqD b (y ++ g))) (sv_catQ (sv_st1 rfl) (sv_var rfl) (by omega))) ?_))
  have h1 : b = true → InR (x ++ f) := fun h => inR_cat (hi h).1 (hi h).2.2.1
  have h2 : b = true → InR (y ++ g) := fun h => inR_cat (hi h).2.1 (hi h).2.2.2
  unfold behF
  generalize x ++ f = u at z1 h1 ⊢
  generalize y ++ g = v at z2 h2 ⊢
  refine ss_seq (ss_set (P := isD (.int ((min u.length v.length : Nat) : Int))) (sv_is (sv_min2 (sv_lenQ (b := b) (w := u) (sv_pD (sv_var rfl)) z1) (sv_lenQ (b := b) (w := v) (sv_pD (sv_var rfl)) z2)) (by congr 1; split <;> omega))) ?_
  have z3 : min u.length v.length ≤ sizeLine := by omega
  generalize min u.length v.length = k
  have t : ∀ {a : Sl}, St' (tTest (tOp (rNeD K) (tSl (uSlS K) (tVar 3) tNoPart (tPart (tVar 5))) (tSl (uSlS K) (tVar 4) tNoPart (tPart (tVar 5))))) [.im (stT K b x y), .im (isD (SqD b f)), .im (isD (SqD b g)), .im (isD (SqD b u)), .im (isD (SqD b v)), .im (isD (.int (k : Int)))] (!decide (u.take k = v.take k)) := fun {a} =>
    st_test (sv_neQ (sv_takeQ (sv_var rfl) (sv_var rfl) z1) (sv_takeQ (sv_var rfl) (sv_var rfl) z2) fun h => ⟨inR_take (h1 h) k, inR_take (h2 h) k⟩)
  by_cases c : u.take k = v.take k
  · rw [if_pos c]
    refine ss_seq (ss_if0 (st_is (t (a := .no)) (by rw [decide_eq_true c]; rfl)) ss_next) (ss_ret ?_)
    exact sv_tup (ds := [SqD b (u.drop k), SqD b (v.drop k)]) (sa_ims (sv_dropQ (sv_var rfl) (sv_var rfl) z1) (sa_ims (sv_dropQ (sv_var rfl) (sv_var rfl) z2) sa_nil)) (by show 2 ≤ sizeLine; decide)
  · rw [if_neg c]
    exact ss_seqRt (ss_if1 (st_is (t (a := .no)) (by rw [decide_eq_false c]; rfl)) (ss_ret sv_non))
def S_rest_signs (K : PySem.W.Frag) : Fs := ⟨{x : List Int × List Int // WI x.1 ∧ WI x.2}, 1, fun x => [.im (isP K (pairQ true x.1.1 x.1.2))], fun _ => rfl, fun x => .ok (restT K x.1.1 x.1.2)⟩
abbrev st__rest_of_signs : Stmt := top 31
theorem sc__rest_of_signs : FnScope ["state", "first", "second"] ["state"] (defScope st__rest_of_signs) := ⟨rfl, rfl, rfl, by decide +kernel, rfl, by decide +kernel, by decide +kernel⟩
theorem ok__rest_of_signs {f : Addr} {fd : FuncData} (T : Txt K mg cAE cBB cBN cBR cTL cBk cPr aE0 aEV aBG) (F_word_of : FnC P w K mg base 1 "word_of" (spF (S_word_of))) (F__rest : FnC P w K mg base 1 "_rest" (spF (S_rest K))) (F : Fun K "_rest_of_signs" "_rest_of_signs" st__rest_of_signs f fd) : FnOk P w K mg base (L2.CX P w) 2 f fd ["state"] (spF (S_rest_signs K)) := by
  refine fn_ok F sc__rest_of_signs rfl fun cdv A outer s H E hr => ?_
  have tk : Takes (cxD P w K mg base ["state", "first", "second"] "_rest_of_signs" st__rest_of_signs f cdv A outer s H E) (fun cls d _ H => E cls d H) := takes_of rfl rfl rfl rfl
  have hx := pxM tk
  have nd := sc__rest_of_signs.nd
  refine ⟨_, (pss_cons (ps_asg (pv 0) (pg_tup rfl (pgs_cons (pg_name (i := 1) nd rfl (Or.inl rfl)) (pgs_cons (pg_name (i := 2) nd rfl (Or.inl rfl)) pgs_nil))))
 (pss_one (ps_ret (pe_fn F__rest hr hx (pa_cons (pe_tup (pa_cons (pe_fn F_word_of hr hx (pa_cons (pv 1) pa_nil)) (pa_cons (pe_fn F_word_of hr hx (pa_cons (pv 2) pa_nil)) pa_nil))) pa_nil))))), ?_⟩
  intro x
  obtain ⟨⟨x, y⟩, hx, hy⟩ := x
  have hz : (sizeLine : Nat) = 16777216 := sizeLine_eq
  have lx : x.length ≤ 10000 := hx.2
  have ly : y.length ≤ 10000 := hy.2
  refine .ok (ss_seq (ss_unpP2 (d1 := SqD true x) (d2 := SqD true y) (sv_var rfl)) (ss_ret ?_))
  have wo : ∀ {G : Gm} {n : Nat} {w : List Int}, WI w → G[n]? = some (.im (isP K (SqD true w))) → Sv (tCallS (spF S_word_of) (fun _ => E) (tCons (tVar n) tNil)) G (isD (.tuple (w.map .int))) := fun {G n w} hw h =>
    sv_call (S := S_word_of) (sa_im (sv_pA (show AtomP (.str (sg w)) from sg_ok w) (sv_var h)) sa_nil) ⟨w, hw⟩ rfl rfl
  exact sv_call (S := S_rest K) (sa_im (sv_tup (ds := [.tuple (x.map .int), .tuple (y.map .int)]) (sa_ims (wo hx rfl) (sa_ims (wo hy rfl) sa_nil)) (by show 2 ≤ sizeLine; decide)) sa_nil) ⟨(x, y), by show x.length ≤ sizeLine; omega, by show y.length ≤ sizeLine; omega⟩ rfl rfl
def wAt (W : List (List Int)) (n : Int) : List Int := W.getD n.toNat []
theorem wAt_ok {W : List (List Int)} {m n : Int} (h : GoodW W m) (h0 : 0 ≤ n) (h1 : n < W.length) : 1 ≤ (wAt W n).length ∧ (wAt W n).length ≤ 5000 ∧ ∀ v ∈ wAt W n, 0 ≤ v ∧ v < m := by
  have hn : n.toNat < W.length := by omega
  have e : wAt W n = W[n.toNat] := by unfold wAt; rw [List.getD_eq_getElem?_getD, List.getElem?_eq_getElem hn]; rfl
  rw [e]
  exact h.2 _ (List.getElem_mem hn)
theorem wAt_WI {W : List (List Int)} {m n : Int} (h : GoodW W m) (hm : m ≤ 60) (h0 : 0 ≤ n) (h1 : n < W.length) : WI (wAt W n) := by
  obtain ⟨_, h2, h3⟩ := wAt_ok h h0 h1
  exact ⟨fun v hv => ⟨(h3 v hv).1, by have := (h3 v hv).2; omega⟩, by omega⟩
theorem word_res {W : List (List Int)} {m n : Int} (h0 : 0 ≤ n) (h1 : n < W.length) : (S_word cBk cBN).res ((.int m, wD W), .int n) = .ok (isD (.tuple ((wAt W n).map .int))) := by
  have e : (wD W).length = W.length := by unfold wD; rw [List.length_map]
  show (if belowB (.int n) (wD W).length then Rs.ok (isD ((wD W).getD n.toNat .none)) else .bad cBN) = _
  rw [if_pos (by rw [e]; exact (belowB_int n _).mpr ⟨h0, h1⟩)]
  have hn : n.toNat < W.length := by omega
  rw [List.getD_eq_getElem?_getD, wD_get hn]
  rfl
def S_word_pair (cBk cPr : Addr) : Fs := ⟨{x : (Int × List (List Int) × List (List Int)) × Int // (GoodW x.1.2.1 x.1.1 ∧ GoodW x.1.2.2 x.1.1 ∧ x.1.1 ≤ 60) ∧ 0 ≤ x.2 ∧ x.2 < x.1.2.1.length ∧ x.2 < x.1.2.2.length}, 2,
  fun x => [.im (isI cPr (pairF cBk x.1.1.1 (wD x.1.1.2.1) x.1.1.1 (wD x.1.1.2.2))), .im (isD (.int x.1.2))], fun _ => rfl, fun x => .ok (isD (pairQ true (wAt x.1.1.2.1 x.1.2) (wAt x.1.1.2.2 x.1.2)))⟩
abbrev st__word_pair : Stmt := top 34
theorem sc__word_pair : FnScope ["pair", "number"] ["pair", "number"] (defScope st__word_pair) := ⟨rfl, rfl, rfl, by decide +kernel, rfl, by decide +kernel, by decide +kernel⟩
theorem ok__word_pair {f : Addr} {fd : FuncData} (T : Txt K mg cAE cBB cBN cBR cTL cBk cPr aE0 aEV aBG) (F_signs_of : FnC P w K mg base 1 "signs_of" (spF (S_signs_of))) (M_Book_word : MtC P w K mg base 3 cBk "word" (spF (S_word cBk cBN))) (F : Fun K "_word_pair" "_word_pair" st__word_pair f fd) : FnOk P w K mg base (L2.CX P w) 4 f fd ["pair", "number"] (spF (S_word_pair cBk cPr)) := by
  refine fn_ok F sc__word_pair rfl fun cdv A outer s H E hr => ?_
  have tk : Takes (cxD P w K mg base ["pair", "number"] "_word_pair" st__word_pair f cdv A outer s H E) (fun cls d _ H => E cls d H) := takes_of rfl rfl rfl rfl
  have hx := pxM tk
  have nd := sc__word_pair.nd
  refine ⟨_, (pss_one (ps_ret (pe_tup (pa_cons (pe_fn F_signs_of hr hx (pa_cons (pe_mt (pe_fld (pv 0) rfl) M_Book_word hr hx (pa_cons (pv 1) pa_nil)) pa_nil)) (pa_cons (pe_fn F_signs_of hr hx (pa_cons (pe_mt (pe_fld (pv 0) rfl) M_Book_word hr hx (pa_cons (pv 1) pa_nil)) pa_nil)) pa_nil))))), ?_⟩
  intro x
  obtain ⟨⟨⟨m, A, B⟩, n⟩, ⟨hA, hB, hm⟩, h0, h1, h2⟩ := x
  have hm : m ≤ 60 := hm
  refine .ok (ss_ret (sv_tup (ds := [SqD true (wAt A n), SqD true (wAt B n)]) (sa_ims (sv_call (S := S_signs_of) (sa_im (sv_mt (S := S_word cBk cBN) (sv_fld (sv_var rfl) rfl T.cl_cPr T.n_cPr_first) (bookF_no rfl) (sa_im (sv_var rfl) sa_nil) ((.int m, wD A), .int n) rfl (word_res h0 h1)) sa_nil) ⟨wAt A n, wAt_WI hA hm h0 h1⟩ rfl rfl) (sa_ims (sv_call (S := S_signs_of) (sa_im (sv_mt (S := S_word cBk cBN) (sv_fld (sv_var rfl) rfl T.cl_cPr T.n_cPr_second) (bookF_no rfl) (sa_im (sv_var rfl) sa_nil) ((.int m, wD B), .int n) rfl (word_res h0 h2)) sa_nil) ⟨wAt B n, wAt_WI hB hm h0 h2⟩ rfl rfl) sa_nil)) (by show 2 ≤ sizeLine; decide)))
end
/-! ### words of the law -/
def wordL (D : List Int) (letters most : Int) (k : Nat) : List Int := (List.range (1 + atD D (8 * k + 7) % most).toNat).map fun j => atD D (8 * k + j) % letters
def wordsL (D : List Int) (size letters most : Int) : List (List Int) := (List.range size.toNat).map (wordL D letters most)
theorem wordsL_len {D : List Int} {size letters most : Int} : (wordsL D size letters most).length = size.toNat := by unfold wordsL; rw [List.length_map, List.length_range]
theorem wordL_ok {D : List Int} {letters most : Int} {k : Nat} (hl : 1 ≤ letters) (hm : 1 ≤ most) (hm2 : most ≤ 4) : 1 ≤ (wordL D letters most k).length ∧ (wordL D letters most k).length ≤ 4 ∧ ∀ v ∈ wordL D letters most k, 0 ≤ v ∧ v < letters := by
  unfold wordL
  have h0 := Int.emod_nonneg (atD D (8 * k + 7)) (show most ≠ 0 by omega)
  have h1 := Int.emod_lt_of_pos (atD D (8 * k + 7)) (show 0 < most by omega)
  refine ⟨by rw [List.length_map, List.length_range]; omega, by rw [List.length_map, List.length_range]; omega, fun v hv => ?_⟩
  obtain ⟨j, _, rfl⟩ := List.mem_map.mp hv
  exact ⟨Int.emod_nonneg _ (by omega), Int.emod_lt_of_pos _ (by omega)⟩
section
variable {P : Program} {w : World} {K : PySem.W.Frag} {mg : Str → Option Value} {base : Heap} {cAE cBB cBN cBR cTL cBk cPr aE0 aEV aBG : Addr}
def S_lwords : Fs := ⟨{x : List Int × Int × Int × Int // 1 ≤ x.2.2.1 ∧ (1 ≤ x.2.2.2 ∧ x.2.2.2 ≤ 4) ∧ (0 ≤ x.2.1 ∧ x.2.1 ≤ 10) ∧ 8 * x.2.1 ≤ x.1.length}, 4,
  fun x => [.im (isD (.list (x.1.1.map .int))), .im (isD (.int x.1.2.1)), .im (isD (.int x.1.2.2.1)), .im (isD (.int x.1.2.2.2))], fun _ => rfl, fun x => .ol (wD (wordsL x.1.1 x.1.2.1 x.1.2.2.1 x.1.2.2.2))⟩
abbrev st__law_words : Stmt := top 39
theorem sc__law_words : FnScope ["draws", "size", "letters", "most", "k", "j"] ["draws", "size", "letters", "most"] (defScope st__law_words) := ⟨rfl, rfl, rfl, by decide +kernel, rfl, by decide +kernel, by decide +kernel⟩
theorem ok__law_words {f : Addr} {fd : FuncData} (T : Txt K mg cAE cBB cBN cBR cTL cBk cPr aE0 aEV aBG)  (F : Fun K "_law_words" "_law_words" st__law_words f fd) : FnOk P w K mg base (L2.CX P w) 1 f fd ["draws", "size", "letters", "most"] (spF (S_lwords)) := by
  refine fn_ok F sc__law_words rfl fun cdv A outer s H E hr => ?_
  have tk : Takes (cxD P w K mg base ["draws", "size", "letters", "most", "k", "j"] "_law_words" st__law_words f cdv A outer s H E) (fun cls d _ H => E cls d H) := takes_of rfl rfl rfl rfl
  have hx := pxM tk
  have nd := sc__law_words.nd
  refine ⟨_, (pss_one (ps_ret (pe_lc (own := [("k", 4)]) (g := gName 4) (tt := tYes) rfl nd (pi_range1 (by rfl) T.no_range (pa_cons (pv 1) pa_nil)) (blkOk_by (N := ["draws", "size", "letters", "most", "k", "j"]) (sc := defScope st__law_words) (by decide +kernel)) (fun _ _ _ _ _ => pg_name (i := 4) nd rfl (Or.inr rfl)) (fun _ _ _ _ _ => pts_nil) (fun _ _ _ _ _ => (pe_tupleOfK (K := K) (by rfl) T.no_tuple (pe_lc (own := [("j", 5)]) (g := gName 5) (tt := tYes) rfl nd (pi_range1 (by rfl) T.no_range (pa_cons (pe_op (r := uAdd K) op_uAdd pe_int (pe_op op_mod (pe_callTy call_int1 (by rfl) T.no_int (by decide +kernel) (pa_cons (pe_ix (r := rIx K) ix_seq (pv 0) (pe_op (r := uAdd K) op_uAdd (pe_op (r := uMul K) op_uMul pe_int (pv 4)) pe_int) (fun _ _ => rfl)) pa_nil)) (pv 3))) pa_nil)) (blkOk_in (N := ["draws", "size", "letters", "most", "k", "j"]) (scD := defScope st__law_words) rfl (by decide +kernel)) (fun _ _ _ _ _ => pg_name (i := 5) nd rfl (Or.inl rfl)) (fun _ _ _ _ _ => pts_nil) (fun _ _ _ _ _ => (pe_op op_mod (pe_callTy call_int1 (by rfl) T.no_int (by decide +kernel) (pa_cons (pe_ix (r := rIx K) ix_seq (pv 0) (pe_op (r := uAdd K) op_uAdd (pe_op (r := uMul K) op_uMul pe_int (pv 4)) (pv 5)) (fun _ _ => rfl)) pa_nil)) (pv 2))))))))), ?_⟩
  intro x
  obtain ⟨⟨D, size, letters, most⟩, hl, ⟨hm1, hm2⟩, ⟨hs0, hs1⟩, hD⟩ := x
  have hl : 1 ≤ letters := hl
  have hm1 : 1 ≤ most := hm1
  have hm2 : most ≤ 4 := hm2
  have hs0 : 0 ≤ size := hs0
  have hs1 : size ≤ 10 := hs1
  have hD : 8 * size ≤ D.length := hD
  show Mini.Ans _ _ [.im (isD (.list (D.map .int))), .im (isD (.int size)), .im (isD (.int letters)), .im (isD (.int most)), .no, .no] (.ol (wD (wordsL D size letters most)))
  have e8 : ∀ {G : Gm} {k : Nat}, G[4]? = some (.im (isD (.int (k : Int)))) → Sv (tOp (uMul K) (tC (.int 8)) (tVar 4)) G (isD (.int (8 * (k : Int)))) := fun h => sv_mul sv_int (sv_var h) (.inl ⟨by decide, by decide⟩)
  have dr : ∀ {G : Gm} {te : TE} {k : Nat}, G[0]? = some (.im (isD (.list (D.map .int)))) → k < D.length → Sv te G (isD (.int (k : Int))) → Sv (tCB cInt (tCons (tOp (rIx K) (tVar 0) te) tNil)) G (isD (.int (atD D k))) := fun {G te k} h hk ht => sv_int1 (sv_ixL (i := ((k : Nat) : Int)) (rl_sv (sv_var h)) ht (atI_ints (ds := D) (k := k) hk))
  refine .ol (ss_retL (svl_is (svl_lcMapR (j := 4) (n := size) (sv_var rfl) (fun k => .tuple ((wordL D letters most k).map .int)) (Nat.le_of_ble_eq_true rfl) (by omega) (by omega) fun k hk => ?_) (by unfold wD wordsL; rw [List.map_map]; rfl)))
  have h0 := Int.emod_nonneg (atD D (8 * k + 7)) (show most ≠ 0 by omega)
  have h1 := Int.emod_lt_of_pos (atD D (8 * k + 7)) (show 0 < most by omega)
  refine sv_tupleL (rl_svl (svl_is (svl_lcMapR (j := 5) (n := 1 + atD D (8 * k + 7) % most) (sv_add sv_int (sv_mod (dr (k := 8 * k + 7) rfl (by omega) (sv_is (sv_add (e8 rfl) sv_int) (by rw [Int.natCast_add, Int.natCast_mul]; rfl))) (sv_var rfl) (by omega))) (fun j => .int (atD D (8 * k + j) % letters)) (Nat.le_of_ble_eq_true rfl) (by omega) (by omega) fun j hj => ?_) (by unfold wordL; rw [List.map_map]; rfl)))
  exact sv_mod (dr (k := 8 * k + j) rfl (by omega) (sv_is (sv_add (e8 rfl) (sv_var rfl)) (by rw [Int.natCast_add, Int.natCast_mul]; rfl))) (sv_var rfl) (by omega)
end
end K61

namespace K61
open PySem L2 Evl Mini PyProof.Rows
def set3 (a b c : Nat) (d : PyData) (G : Gm) : Gm := match d with
  | .tuple [x, y, z] => ((G.set a (.im (isD x))).set b (.im (isD y))).set c (.im (isD z))
  | _ => G
def set2 (a b : Nat) (d : PyData) (G : Gm) : Gm := match d with
  | .tuple [x, y] => (G.set a (.im (isD x))).set b (.im (isD y))
  | _ => G
theorem tg_set2 {K : PySem.W.Frag} {n a b : Nat} {x y : PyData} (ha : a < n) (hb : b < n) : Tg n ([a] ++ [b]) (gTup K 2 (gCons (gName a) (gCons (gName b) gNil))) (isD (.tuple [x, y])) (set2 a b (.tuple [x, y])) :=
  tg_tup2 (f1 := fun G => G.set a (.im (isD x))) (f2 := fun G => G.set b (.im (isD y))) (tg_name ha) (tg_name hb) (fun G => List.length_set ..)
theorem sv_tt {G : Gm} {a b : TE} {d e : PyData} (h : Sv a G (isD d)) (h' : Sv b G (isD e)) : Sv (tTup (tCons a (tCons b tNil))) G (isD (.tuple [d, e])) := sv_tup (ds := [d, e]) (sa_ims h (sa_ims h' sa_nil)) (by show 2 ≤ sizeLine; decide)
theorem behF_sum {x y f g : List Int} {p : List Int × List Int} (h : behF x y f g = some p) : p.1.length + p.2.length ≤ max (x.length + f.length) (y.length + g.length) := by
  unfold behF at h
  split at h
  · cases h
    simp only [List.length_drop, List.length_append]
    omega
  · cases h
abbrev St2 := List Int × List Int
/-- the numbers with which one can go on, and the states behind them -/
def stepsQ (A B : List (List Int)) (s : St2) (n : Nat) : List (Nat × St2) := (List.range n).filterMap fun k : Nat => (behF s.1 s.2 (wAt A (k : Int)) (wAt B (k : Int))).map fun p => (k, p)
def stepD (q : Nat × St2) : PyData := .tuple [.int (q.1 : Int), pairQ true q.2.1 q.2.2]
theorem stepsQ_some {A B : List (List Int)} {s p : St2} {n : Nat} (h : behF s.1 s.2 (wAt A n) (wAt B n) = some p) : stepsQ A B s (n + 1) = stepsQ A B s n ++ [(n, p)] := by
  unfold stepsQ
  rw [List.range_succ, List.filterMap_append]
  simp [h]
theorem stepsQ_none {A B : List (List Int)} {s : St2} {n : Nat} (h : behF s.1 s.2 (wAt A n) (wAt B n) = none) : stepsQ A B s (n + 1) = stepsQ A B s n := by
  unfold stepsQ
  rw [List.range_succ, List.filterMap_append]
  simp [h]
theorem stepsQ_len (A B : List (List Int)) (s : St2) (n : Nat) : (stepsQ A B s n).length ≤ n := by
  have := List.length_filterMap_le (fun k : Nat => (behF s.1 s.2 (wAt A (k : Int)) (wAt B (k : Int))).map fun p => (k, p)) (List.range n)
  rw [List.length_range] at this
  exact this
def wps (A B : List (List Int)) : List PyData := (List.range A.length).map fun k => pairQ true (wAt A (k : Nat)) (wAt B (k : Nat))
structure Two (A B : List (List Int)) (m : Int) : Prop where
  a : GoodW A m
  b : GoodW B m
  m60 : m ≤ 60
  len : A.length = B.length
theorem Two.wA {A B : List (List Int)} {m : Int} (h : Two A B m) {k : Nat} (hk : k < A.length) : WI (wAt A k) := wAt_WI h.a h.m60 (by omega) (by omega)
theorem Two.wB {A B : List (List Int)} {m : Int} (h : Two A B m) {k : Nat} (hk : k < A.length) : WI (wAt B k) := wAt_WI h.b h.m60 (by omega) (by have := h.len; omega)
theorem wps_get {A B : List (List Int)} {k : Nat} (h : k < A.length) : (wps A B)[k]? = some (pairQ true (wAt A k) (wAt B k)) := by
  unfold wps
  rw [List.getElem?_map, List.getElem?_range h]; rfl
theorem wps_len {A B : List (List Int)} : (wps A B).length = A.length := by unfold wps; rw [List.length_map, List.length_range]
section
variable {P : Program} {w : World} {K : PySem.W.Frag} {mg : Str → Option Value} {base : Heap} {cAE cBB cBN cBR cTL cBk cPr aE0 aEV aBG : Addr}
/-! ### _word_pairs -/
def S_word_pairs (cBk cPr : Addr) : Fs := ⟨{x : Int × List (List Int) × List (List Int) // Two x.2.1 x.2.2 x.1}, 1, fun x => [.im (isI cPr (pairF cBk x.1.1 (wD x.1.2.1) x.1.1 (wD x.1.2.2)))], fun _ => rfl, fun x => .ok (isD (.list (wps x.1.2.1 x.1.2.2)))⟩
abbrev st__word_pairs : Stmt := top 35
theorem sc__word_pairs : FnScope ["pair", "number"] ["pair"] (defScope st__word_pairs) := ⟨rfl, rfl, rfl, by decide +kernel, rfl, by decide +kernel, by decide +kernel⟩
theorem ok__word_pairs {f : Addr} {fd : FuncData} (T : Txt K mg cAE cBB cBN cBR cTL cBk cPr aE0 aEV aBG) (F__word_pair : FnC P w K mg base 4 "_word_pair" (spF (S_word_pair cBk cPr))) (F : Fun K "_word_pairs" "_word_pairs" st__word_pairs f fd) : FnOk P w K mg base (L2.CX P w) 5 f fd ["pair"] (spF (S_word_pairs cBk cPr)) := by
  refine fn_ok F sc__word_pairs rfl fun cdv A outer s H E hr => ?_
  have tk : Takes (cxD P w K mg base ["pair", "number"] "_word_pairs" st__word_pairs f cdv A outer s H E) (fun cls d _ H => E cls d H) := takes_of rfl rfl rfl rfl
  have hx := pxM tk
  have nd := sc__word_pairs.nd
  refine ⟨_, (pss_one (ps_ret (pe_lc (own := [("number", 1)]) (g := gName 1) (tt := tYes) rfl nd (pi_range1 (by rfl) T.no_range (pa_cons (pe_fld (pe_fld (pv 0) rfl) rfl) pa_nil)) (blkOk_by (N := ["pair", "number"]) (sc := defScope st__word_pairs) (by decide +kernel)) (fun _ _ _ _ _ => pg_name (i := 1) nd rfl (Or.inl rfl)) (fun _ _ _ _ _ => pts_nil) (fun _ _ _ _ _ => (pe_fn F__word_pair hr px0 (pa_cons (pv 0) (pa_cons (pv 1) pa_nil))))))), ?_⟩
  intro x
  obtain ⟨⟨m, A, B⟩, h⟩ := x
  have h : Two A B m := h
  have hl := h.len
  have hA : A.length ≤ 60 := h.a.1
  have eA : (wD A).length = A.length := by unfold wD; rw [List.length_map]
  refine .ok (ss_ret (sv_svl (svl_is (svl_lcMapR (n := (A.length : Int)) (j := 1) (sv_is (sv_fld (sv_fld (sv_var rfl) rfl T.cl_cPr T.n_cPr_first) rfl T.cl_cBk T.n_cBk_size) (by rw [eA])) (fun k => pairQ true (wAt A (k : Nat)) (wAt B (k : Nat))) (Nat.le_of_ble_eq_true rfl) (by omega) (by omega) fun i hi => ?_) (by show _ = wps A B; unfold wps; rw [Int.toNat_natCast]))))
  have hi : i < A.length := by omega
  exact sv_call (S := S_word_pair cBk cPr) (sa_im (sv_var rfl) (sa_im (sv_var rfl) sa_nil)) ⟨((m, A, B), (i : Int)), ⟨h.a, h.b, h.m60⟩, by show (0 : Int) ≤ (i : Int); omega, by show (i : Int) < A.length; omega, by show (i : Int) < B.length; omega⟩ rfl rfl
/-! ### _steps_from -/
structure StOk (A B : List (List Int)) (s : St2) : Prop where
  r1 : InR s.1
  r2 : InR s.2
  fit : ∀ k : Nat, k < A.length → s.1.length + s.2.length + (wAt A k).length ≤ 5000 ∧ s.1.length + s.2.length + (wAt B k).length ≤ 5000
  few : s.1.length + s.2.length ≤ 5000
end
end K61

namespace K61
open PySem L2 Evl Mini PyProof.Rows
def sdS (s : St2) : Str := if s.1 ≠ [] then "first" else if s.2 ≠ [] then "second" else "even"
def restQ (s : St2) : PyData := .tuple [.str (sdS s), SqD false (s.1 ++ s.2)]
theorem sd_ok (s : St2) : PyData.strOk (sdS s) = true := by
  unfold sdS
  split
  · decide +kernel
  · split <;> decide +kernel
theorem shS {s : Str} (h : PyData.strOk s = true) : SeqAt.shaped (.str s) = true := by
  unfold SeqAt.shaped
  rw [Bool.and_eq_true]
  exact ⟨by rw [PyData.canLay0]; exact h, decide_eq_true (by rw [PyData.depth]; omega)⟩
theorem sd_first (s : St2) : (sdS s == "first") = decide (s.1 ≠ []) := by
  unfold sdS
  by_cases c : s.1 ≠ []
  · rw [if_pos c, decide_eq_true c]; decide +kernel
  · rw [if_neg c, decide_eq_false c]; split <;> decide +kernel
theorem sd_second (s : St2) : (sdS s == "second") = (!decide (s.1 ≠ []) && decide (s.2 ≠ [])) := by
  unfold sdS
  by_cases c : s.1 ≠ []
  · rw [if_pos c, decide_eq_true c]; show _ = false; decide +kernel
  · rw [if_neg c, decide_eq_false c]
    by_cases d : s.2 ≠ []
    · rw [if_pos d, decide_eq_true d]; decide +kernel
    · rw [if_neg d, decide_eq_false d]; decide +kernel
def restO (o : Option St2) : PyData := match o with
  | none => .none
  | some p => restQ p
theorem behF_one {x y f g : List Int} {p : St2} (h : behF x y f g = some p) : p.1 = [] ∨ p.2 = [] := by
  unfold behF at h
  split at h
  · cases h
    by_cases c : (x ++ f).length ≤ (y ++ g).length
    · exact .inl (List.drop_eq_nil_of_le (by omega))
    · exact .inr (List.drop_eq_nil_of_le (by omega))
  · cases h
theorem len_min (a b : Nat) : (if (b : Int) < (a : Int) then (b : Int) else (a : Int)) = ((min a b : Nat) : Int) := by split <;> omega
section
variable {P : Program} {w : World} {K : PySem.W.Frag} {mg : Str → Option Value} {base : Heap} {cAE cBB cBN cBR cTL cBk cPr aE0 aEV aBG : Addr}
/-! ### _law_step -/
structure LsOk (A B : List (List Int)) (s : St2) (k : Nat) : Prop where
  one : s.1 = [] ∨ s.2 = []
  ka : k < A.length
  kb : k < B.length
  z1 : s.1.length ≤ 100000 ∧ s.2.length ≤ 100000
  z2 : (wAt A k).length ≤ 100000 ∧ (wAt B k).length ≤ 100000
def S_lstep : Fs := ⟨{x : (List (List Int) × List (List Int)) × St2 × Nat // LsOk x.1.1 x.1.2 x.2.1 x.2.2}, 4, fun x => [.im (isD (.list (wD x.1.1.1))), .im (isD (.list (wD x.1.1.2))), .im (isD (restQ x.1.2.1)), .im (isD (.int (x.1.2.2 : Int)))], fun _ => rfl,
  fun x => .ok (isD (restO (behF x.1.2.1.1 x.1.2.1.2 (wAt x.1.1.1 x.1.2.2) (wAt x.1.1.2 x.1.2.2))))⟩
abbrev st__law_step : Stmt := top 40
theorem sc__law_step : FnScope ["first", "second", "rest", "number", "one", "two", "least"] ["first", "second", "rest", "number"] (defScope st__law_step) := ⟨rfl, rfl, rfl, by decide +kernel, rfl, by decide +kernel, by decide +kernel⟩
theorem ok__law_step {f : Addr} {fd : FuncData} (T : Txt K mg cAE cBB cBN cBR cTL cBk cPr aE0 aEV aBG)  (F : Fun K "_law_step" "_law_step" st__law_step f fd) : FnOk P w K mg base (L2.CX P w) 1 f fd ["first", "second", "rest", "number"] (spF (S_lstep)) := by
  refine fn_ok F sc__law_step rfl fun cdv A outer s H E hr => ?_
  have tk : Takes (cxD P w K mg base ["first", "second", "rest", "number", "one", "two", "least"] "_law_step" st__law_step f cdv A outer s H E) (fun cls d _ H => E cls d H) := takes_of rfl rfl rfl rfl
  have hx := pxM tk
  have nd := sc__law_step.nd
  refine ⟨_, (pss_cons (ps_par (i := 4) (j := 5) rfl nd rfl rfl (by decide) rfl rfl (pa_cons (pe_ix ix_seq (pv 0) (pv 3) (fun _ _ => rfl)) (pa_cons (pe_ix ix_seq (pv 1) (pv 3) (fun _ _ => rfl)) pa_nil)) (by rfl))
 (pss_cons (ps_if (pt_cmpR (op_eqD hr.units) (pe_ix ix_seq (pv 2) pe_int (fun _ _ => rfl)) pe_str (nomark _)) (pss_one (ps_set (i := 4) nd rfl (Or.inl rfl) (pe_op op_uAdd (pe_ix ix_seq (pv 2) pe_int (fun _ _ => rfl)) (pv 4)))) pss_nil)
 (pss_cons (ps_if (pt_cmpR (op_eqD hr.units) (pe_ix ix_seq (pv 2) pe_int (fun _ _ => rfl)) pe_str (nomark _)) (pss_one (ps_set (i := 5) nd rfl (Or.inl rfl) (pe_op op_uAdd (pe_ix ix_seq (pv 2) pe_int (fun _ _ => rfl)) (pv 5)))) pss_nil)
 (pss_cons (ps_set (i := 6) nd rfl (Or.inl rfl) (pe_callB (call_min2 rfl) (by rfl) T.no_min (by decide +kernel) (pa_cons (pe_callB call_len (by rfl) T.no_len (by decide +kernel) (pa_cons (pv 4) pa_nil)) (pa_cons (pe_callB call_len (by rfl) T.no_len (by decide +kernel) (pa_cons (pv 5) pa_nil)) pa_nil))))
 (pss_cons (ps_if (pt_cmpR (op_neD hr.units) (pe_slice (r := uSlS K) sl_uSlS (pv 4) po_none (po_some (pv 6))) (pe_slice (r := uSlS K) sl_uSlS (pv 5) po_none (po_some (pv 6))) (nomark _)) (pss_one (ps_ret pe_non)) pss_nil)
 (pss_cons (ps_if (pt_cmpR (op_eqD hr.units) (pe_callB call_len (by rfl) T.no_len (by decide +kernel) (pa_cons (pv 4) pa_nil)) (pe_callB call_len (by rfl) T.no_len (by decide +kernel) (pa_cons (pv 5) pa_nil)) (nomark _)) (pss_one (ps_ret (pe_tup (pa_cons pe_str (pa_cons (pe_tup pa_nil) pa_nil))))) pss_nil)
 (pss_cons (ps_if (pt_cmpR op_gt (pe_callB call_len (by rfl) T.no_len (by decide +kernel) (pa_cons (pv 4) pa_nil)) (pv 6) (nomark _)) (pss_one (ps_ret (pe_tup (pa_cons pe_str (pa_cons (pe_slice (r := uSlS K) sl_uSlS (pv 4) (po_some (pv 6)) po_none) pa_nil))))) pss_nil)
 (pss_one (ps_ret (pe_tup (pa_cons pe_str (pa_cons (pe_slice (r := uSlS K) sl_uSlS (pv 5) (po_some (pv 6)) po_none) pa_nil)))))))))))), ?_⟩
  intro x
  obtain ⟨⟨⟨A, B⟩, s, k⟩, h⟩ := x
  have h : LsOk A B s k := h
  have hz : (sizeLine : Nat) = 16777216 := sizeLine_eq
  obtain ⟨h1, hka, hkb, ⟨z1, z2⟩, z3, z4⟩ := h
  have aA : atI (wD A) (k : Int) = some (SqD false (wAt A k)) := atI_nat (by rw [wD_get hka]; rfl)
  have aB : atI (wD B) (k : Int) = some (SqD false (wAt B k)) := atI_nat (by rw [wD_get hkb]; rfl)
  show Mini.Ans _ _ [.im (isD (.list (wD A))), .im (isD (.list (wD B))), .im (isD (restQ s)), .im (isD (.int (k : Int))), .no, .no, .no] (.ok (isD (restO (behF s.1 s.2 (wAt A k) (wAt B k)))))
  generalize wAt A k = f at aA z3 ⊢
  generalize wAt B k = g at aB z4 ⊢
  let Gc : List Int → List Int → Sl → Gm := fun u v x6 => [.im (isD (.list (wD A))), .im (isD (.list (wD B))), .im (isD (restQ s)), .im (isD (.int (k : Int))), .im (isD (SqD false u)), .im (isD (SqD false v)), x6]
  refine .ok (ss_seq (G1 := Gc f g .no) (ss_par (sv_ixL (rl_sv (sv_var rfl)) (sv_var rfl) aA) (sv_ixL (rl_sv (sv_var rfl)) (sv_var rfl) aB)) ?_)
  have r0 : ∀ {u v : List Int} {x6 : Sl}, Sv (tOp (rIx K) (tVar 2) (tC (.int 0))) (Gc u v x6) (isD (.str (sdS s))) := fun {u v x6} => sv_ixT (ds := [.str (sdS s), SqD false (s.1 ++ s.2)]) (i := ((0 : Nat) : Int)) (sv_var rfl) sv_int (atI_nat rfl)
  have r1 : ∀ {u v : List Int} {x6 : Sl}, Sv (tOp (rIx K) (tVar 2) (tC (.int 1))) (Gc u v x6) (isD (SqD false (s.1 ++ s.2))) := fun {u v x6} => sv_ixT (ds := [.str (sdS s), SqD false (s.1 ++ s.2)]) (i := ((1 : Nat) : Int)) (sv_var rfl) sv_int (atI_nat rfl)
  have lit : ∀ {G : Gm} {z : Str}, PyData.strOk z = true → Sv (tC (.str z)) G (isD (.str z)) := fun {G z} _ => sv_str
  refine ss_seq (G1 := Gc (s.1 ++ f) g .no) (ss_if (b := decide (s.1 ≠ [])) (st_is (st_test (sv_eq (d := .str (sdS s)) (e := .str "first") r0 sv_str (shS (sd_ok s)) (shS (by decide +kernel)))) (by rw [PyData.eqv, sd_first])) (fun z => ?_) fun z => ?_) ?_
  · have z := of_decide_eq_true z
    have e2 : s.2 = [] := h1.resolve_left z
    refine ss_set (P := isD (SqD false (s.1 ++ f))) (sv_catQ (b := false) (sv_is r1 (by rw [e2, List.append_nil])) (sv_var rfl) (by omega))
  · have z : s.1 = [] := by
      have := of_decide_eq_false z
      exact Classical.byContradiction this
    rw [z]; exact ss_next
  refine ss_seq (G1 := Gc (s.1 ++ f) (s.2 ++ g) .no) (ss_if (b := !decide (s.1 ≠ []) && decide (s.2 ≠ [])) (st_is (st_test (sv_eq (d := .str (sdS s)) (e := .str "second") r0 sv_str (shS (sd_ok s)) (shS (by decide +kernel)))) (by rw [PyData.eqv, sd_second])) (fun z => ?_) fun z => ?_) ?_
  · rw [Bool.and_eq_true] at z
    have e1 : s.1 = [] := by
      have := of_decide_eq_true z.2
      exact h1.resolve_right this
    refine ss_set (P := isD (SqD false (s.2 ++ g))) (sv_catQ (b := false) (sv_is r1 (by rw [e1, List.nil_append])) (sv_var rfl) (by omega))
  · have z : s.2 = [] := by
      by_cases e1 : s.1 = []
      · by_cases e2 : s.2 = []
        · exact e2
        · simp [e1, e2] at z
      · exact h1.resolve_left e1
    rw [z]; exact ss_next
  have y1 : (s.1 ++ f).length ≤ sizeLine := by rw [List.length_append]; omega
  have y2 : (s.2 ++ g).length ≤ sizeLine := by rw [List.length_append]; omega
  unfold behF
  generalize s.1 ++ f = u at y1 ⊢
  generalize s.2 ++ g = v at y2 ⊢
  have lu : ∀ {x6 : Sl}, Sv (tCB (fun xs H Q => ∃ x n, xs = [x] ∧ LenV K x H n ∧ Q (.int n) H) (tCons (tVar 4) tNil)) (Gc u v x6) (isD (.int ((u.length : Nat) : Int))) := fun {x6} => sv_lenQ (b := false) (w := u) (sv_pD (sv_var rfl)) y1
  have lv : ∀ {x6 : Sl}, Sv (tCB (fun xs H Q => ∃ x n, xs = [x] ∧ LenV K x H n ∧ Q (.int n) H) (tCons (tVar 5) tNil)) (Gc u v x6) (isD (.int ((v.length : Nat) : Int))) := fun {x6} => sv_lenQ (b := false) (w := v) (sv_pD (sv_var rfl)) y2
  refine ss_seq (G1 := Gc u v (.im (isD (.int ((min u.length v.length : Nat) : Int))))) (ss_set (sv_is (sv_min2 lu lv) (by congr 1; exact len_min _ _))) ?_
  have t : St' (tTest (tOp (rNeD K) (tSl (uSlS K) (tVar 4) tNoPart (tPart (tVar 6))) (tSl (uSlS K) (tVar 5) tNoPart (tPart (tVar 6))))) (Gc u v (.im (isD (.int ((min u.length v.length : Nat) : Int))))) (!decide (u.take (min u.length v.length) = v.take (min u.length v.length))) :=
    st_test (sv_neQ (b := false) (sv_takeQ (sv_var rfl) (sv_var rfl) y1) (sv_takeQ (sv_var rfl) (sv_var rfl) y2) fun h => by cases h)
  by_cases c : u.take (min u.length v.length) = v.take (min u.length v.length)
  · rw [if_pos c]
    refine ss_seq (ss_if0 (st_is t (by rw [decide_eq_true c]; rfl)) ss_next) ?_
    have te : St' (tTest (tOp (rEqD K) (tCB (fun xs H Q => ∃ x n, xs = [x] ∧ LenV K x H n ∧ Q (.int n) H) (tCons (tVar 4) tNil)) (tCB (fun xs H Q => ∃ x n, xs = [x] ∧ LenV K x H n ∧ Q (.int n) H) (tCons (tVar 5) tNil)))) (Gc u v (.im (isD (.int ((min u.length v.length : Nat) : Int))))) (decide ((u.length : Int) = (v.length : Int))) := st_test (sv_eqI lu lv)
    by_cases ce : u.length = v.length
    · refine ss_seqRt (ss_if1 (st_is te (decide_eq_true (by rw [ce]))) (ss_ret (sv_is (sv_tt (e := .tuple []) sv_str (sv_tup (ds := []) sa_nil (Nat.zero_le _))) ?_)))
      have e1 : u.drop (min u.length v.length) = [] := List.drop_eq_nil_of_le (by omega)
      have e2 : v.drop (min u.length v.length) = [] := List.drop_eq_nil_of_le (by omega)
      show _ = restQ (u.drop _, v.drop _)
      rw [e1, e2]; rfl
    · have tg : St' (tTest (tOp (rI0 fun i j => .bl (decide (j < i))) (tCB (fun xs H Q => ∃ x n, xs = [x] ∧ LenV K x H n ∧ Q (.int n) H) (tCons (tVar 4) tNil)) (tVar 6))) (Gc u v (.im (isD (.int ((min u.length v.length : Nat) : Int))))) (decide (v.length < u.length)) :=
        st_is (st_test (sv_cmp (g := fun i j => decide (j < i)) lu (sv_var rfl))) (decide_eq_decide.mpr ⟨fun z => by omega, fun z => by omega⟩)
      refine ss_seq (ss_if0 (st_is te (decide_eq_false (by omega))) ss_next) ?_
      by_cases z : v.length < u.length
      · refine ss_seqRt (ss_if1 (st_is tg (decide_eq_true z)) (ss_ret (sv_is (sv_tt sv_str (sv_dropQ (b := false) (sv_var rfl) (sv_var rfl) y1)) ?_)))
        have e2 : v.drop (min u.length v.length) = [] := List.drop_eq_nil_of_le (by omega)
        have e1 : u.drop (min u.length v.length) ≠ [] := fun q => by
          have := congrArg List.length q
          rw [List.length_drop] at this
          simp at this
          omega
        show _ = restQ (u.drop _, v.drop _)
        rw [e2]
        unfold restQ sdS
        rw [if_pos e1, List.append_nil]
      · refine ss_seq (ss_if0 (st_is tg (decide_eq_false z)) ss_next) (ss_ret (sv_is (sv_tt sv_str (sv_dropQ (b := false) (sv_var rfl) (sv_var rfl) y2)) ?_))
        have e1 : u.drop (min u.length v.length) = [] := List.drop_eq_nil_of_le (by omega)
        have e2 : v.drop (min u.length v.length) ≠ [] := fun q => by
          have := congrArg List.length q
          rw [List.length_drop] at this
          simp at this
          omega
        show _ = restQ (u.drop _, v.drop _)
        rw [e1]
        unfold restQ sdS
        rw [if_neg (fun q => q rfl), if_pos e2, List.nil_append]
  · rw [if_neg c]
    exact ss_seqRt (ss_if1 (st_is t (by rw [decide_eq_false c]; rfl)) (ss_ret sv_non))
end
end K61

namespace K61
open PySem L2 Evl Mini PyProof.Rows
abbrev bg0 : St2 := ([], [])
/-! ### the search -/
structure Qs where
  st : List St2
  wy : List (Nat × Nat)
inductive Rz where
  | go (q : Qs)
  | row (q : Qs) (i k : Nat)
  | opn (q : Qs)
def turnQ (A B : List (List Int)) (most i k : Nat) (q : Qs) : Rz := match behF (q.st.getD i bg0).1 (q.st.getD i bg0).2 (wAt A k) (wAt B k) with
  | none => .go q
  | some p => if p ∈ q.st.tail then .go q else if p = bg0 then .row q i k else if q.wy.length = most ∨ 5000 < p.1.length + p.2.length then .opn q else .go ⟨q.st ++ [p], q.wy ++ [(i, k)]⟩
def innQ (A B : List (List Int)) (most i : Nat) (q : Qs) : Nat → Rz
  | 0 => .go q
  | k + 1 => match innQ A B most i q k with
    | .go q' => turnQ A B most i k q'
    | r => r
def outQ (A B : List (List Int)) (most : Nat) : Nat → Rz
  | 0 => .go ⟨[bg0], []⟩
  | i + 1 => match outQ A B most i with
    | .go q => if i < q.st.length then innQ A B most i q A.length else .go q
    | r => r
def Rz.q : Rz → Qs
  | .go q => q
  | _ => ⟨[bg0], []⟩
def Rz.isGo : Rz → Bool
  | .go _ => true
  | _ => false
theorem isGo_q {r : Rz} (h : r.isGo = true) : r = .go r.q := by cases r <;> first | rfl | cases h
/-- what is kept while it goes on -/
structure QOk (A B : List (List Int)) (most : Nat) (q : Qs) : Prop where
  len : q.st.length = q.wy.length + 1
  hd : q.st.head? = some bg0
  few : q.wy.length ≤ most
  sm : ∀ p ∈ q.st, InR p.1 ∧ InR p.2 ∧ p.1.length + p.2.length ≤ 5000 ∧ (p.1 = [] ∨ p.2 = [])
  nb : bg0 ∉ q.st.tail
  nd : q.st.tail.Nodup
  wk : ∀ (i : Nat) (w : Nat × Nat), q.wy[i]? = some w → w.1 ≤ i ∧ w.2 < A.length
theorem QOk.zero {A B : List (List Int)} {most : Nat} : QOk A B most ⟨[bg0], []⟩ where
  len := rfl
  hd := rfl
  few := Nat.zero_le _
  sm := fun p hp => by obtain rfl := List.mem_singleton.mp hp; exact ⟨fun v hv => absurd hv List.not_mem_nil, fun v hv => absurd hv List.not_mem_nil, Nat.zero_le _, .inl rfl⟩
  nb := List.not_mem_nil
  nd := List.nodup_nil
  wk := fun i w h => by simp at h
theorem QOk.cons {A B : List (List Int)} {most : Nat} {q : Qs} (h : QOk A B most q) : q.st = bg0 :: q.st.tail := by
  have := h.hd
  cases e : q.st with
  | nil => rw [e] at this; cases this
  | cons x l => rw [e] at this; cases this; rfl
theorem QOk.at {A B : List (List Int)} {most i : Nat} {q : Qs} (h : QOk A B most q) (hi : i < q.st.length) : q.st.getD i bg0 ∈ q.st ∧ q.st[i]? = some (q.st.getD i bg0) := by
  have e : q.st[i]? = some (q.st.getD i bg0) := by rw [List.getD_eq_getElem?_getD, List.getElem?_eq_getElem hi]; rfl
  exact ⟨List.mem_of_getElem? e, e⟩
theorem QOk.more {A B : List (List Int)} {m : Int} {most i k : Nat} {q : Qs} {p : St2} (h : QOk A B most q) (hT : Two A B m) (hk : k < A.length) (hi : i < q.st.length) (hb : behF (q.st.getD i bg0).1 (q.st.getD i bg0).2 (wAt A k) (wAt B k) = some p)
    (h1 : p ∉ q.st.tail) (h2 : p ≠ bg0) (h3 : q.wy.length ≠ most) (h4 : p.1.length + p.2.length ≤ 5000) : QOk A B most ⟨q.st ++ [p], q.wy ++ [(i, k)]⟩ := by
  obtain ⟨r1, r2, r3, r4⟩ := h.sm _ (h.at hi).1
  have e := h.cons
  have et : (q.st ++ [p]).tail = q.st.tail ++ [p] := by rw [e]; rfl
  obtain ⟨y1, y2⟩ := behF_in hb r1 r2 (hT.wA hk).1 (hT.wB hk).1
  refine { len := by simp [h.len], hd := by rw [e]; rfl, few := ?_, sm := fun p' hp => ?_, nb := ?_, nd := ?_, wk := fun j w hw => ?_ }
  · have := h.few
    simp
    omega
  · rcases List.mem_append.mp hp with z | z
    · exact h.sm p' z
    · obtain rfl := List.mem_singleton.mp z; exact ⟨y1, y2, h4, behF_one hb⟩
  · show bg0 ∉ (q.st ++ [p]).tail
    rw [et, List.mem_append]
    rintro (z | z)
    · exact h.nb z
    · exact h2 (List.mem_singleton.mp z).symm
  · show (q.st ++ [p]).tail.Nodup
    rw [et]
    exact List.nodup_append.mpr ⟨h.nd, by simp, fun a ha b hb' => by obtain rfl := List.mem_singleton.mp hb'; exact fun z => h1 (z ▸ ha)⟩
  · have hl := h.len
    rcases Nat.lt_or_ge j q.wy.length with z | z
    · rw [List.getElem?_append_left z] at hw; exact h.wk j w hw
    · rw [List.getElem?_append_right z] at hw
      have : j - q.wy.length = 0 := by
        cases y : j - q.wy.length with
        | zero => rfl
        | succ y' => rw [y] at hw; simp at hw
      rw [this] at hw
      cases hw
      exact ⟨by show i ≤ j; omega, hk⟩
theorem turn_ok {A B : List (List Int)} {m : Int} {most i k : Nat} {q q' : Qs} (h : QOk A B most q) (hT : Two A B m) (hk : k < A.length) (hi : i < q.st.length) (e : turnQ A B most i k q = .go q') : QOk A B most q' ∧ q.st.length ≤ q'.st.length := by
  unfold turnQ at e
  cases hb : behF (q.st.getD i bg0).1 (q.st.getD i bg0).2 (wAt A k) (wAt B k) with
  | none => rw [hb] at e; cases e; exact ⟨h, Nat.le_refl _⟩
  | some p =>
    rw [hb] at e
    dsimp only at e
    by_cases c1 : p ∈ q.st.tail
    · rw [if_pos c1] at e; cases e; exact ⟨h, Nat.le_refl _⟩
    · rw [if_neg c1] at e
      by_cases c2 : p = bg0
      · rw [if_pos c2] at e; cases e
      · rw [if_neg c2] at e
        by_cases c3 : q.wy.length = most ∨ 5000 < p.1.length + p.2.length
        · rw [if_pos c3] at e; cases e
        · rw [if_neg c3] at e
          cases e
          exact ⟨h.more hT hk hi hb c1 c2 (fun z => c3 (.inl z)) (Nat.le_of_not_lt fun z => c3 (.inr z)), by simp⟩
theorem inn_ok {A B : List (List Int)} {m : Int} {most i : Nat} {q : Qs} (h : QOk A B most q) (hT : Two A B m) (hi : i < q.st.length) : ∀ k q', k ≤ A.length → innQ A B most i q k = .go q' → QOk A B most q' ∧ q.st.length ≤ q'.st.length
  | 0, q', _, e => by cases e; exact ⟨h, Nat.le_refl _⟩
  | k + 1, q', hk, e => by
    rw [innQ] at e
    cases c : innQ A B most i q k with
    | go q1 =>
      rw [c] at e
      obtain ⟨a, b⟩ := inn_ok h hT hi k q1 (by omega) c
      obtain ⟨a2, b2⟩ := turn_ok a hT (by omega) (by omega) e
      exact ⟨a2, by omega⟩
    | row q1 i1 k1 => rw [c] at e; cases e
    | opn n => rw [c] at e; cases e
theorem out_ok {A B : List (List Int)} {m : Int} {most : Nat} (hT : Two A B m) : ∀ i q, outQ A B most i = .go q → QOk A B most q
  | 0, q, e => by cases e; exact QOk.zero
  | i + 1, q, e => by
    rw [outQ] at e
    cases c : outQ A B most i with
    | go q1 =>
      rw [c] at e
      dsimp only at e
      have h1 := out_ok hT i q1 c
      by_cases z : i < q1.st.length
      · rw [if_pos z] at e; exact (inn_ok h1 hT z A.length q (Nat.le_refl _) e).1
      · rw [if_neg z] at e; cases e; exact h1
    | row q1 i1 k1 => rw [c] at e; cases e
    | opn n => rw [c] at e; cases e
theorem out_back {A B : List (List Int)} {most i : Nat} (h : (outQ A B most (i + 1)).isGo = true) : (outQ A B most i).isGo = true := by
  rw [outQ] at h
  cases c : outQ A B most i with
  | go q1 => rfl
  | row q1 i1 k1 => rw [c] at h; cases h
  | opn n => rw [c] at h; cases h
theorem inn_back {A B : List (List Int)} {most i k : Nat} {q : Qs} (h : (innQ A B most i q (k + 1)).isGo = true) : (innQ A B most i q k).isGo = true := by
  rw [innQ] at h
  cases c : innQ A B most i q k with
  | go q1 => rfl
  | row q1 i1 k1 => rw [c] at h; cases h
  | opn n => rw [c] at h; cases h
/-- how often the outer loop turns, and how it ends -/
theorem out_end {A B : List (List Int)} {m : Int} {most : Nat} (hT : Two A B m) : ∃ N, N ≤ most + 1 ∧ (∀ i, i ≤ N → (outQ A B most i).isGo = true) ∧ (∀ i, i < N → i < (outQ A B most i).q.st.length) ∧
    ((outQ A B most N).q.st.length ≤ N ∧ outQ A B most (most + 2) = outQ A B most N ∨ N < (outQ A B most N).q.st.length ∧ (outQ A B most (N + 1)).isGo = false ∧ outQ A B most (most + 2) = outQ A B most (N + 1)) := by
  have small : ∀ i, (outQ A B most i).isGo = true → (outQ A B most i).q.st.length ≤ most + 1 := fun i hi => by
    have h := out_ok hT i _ (isGo_q hi)
    have := h.len
    have := h.few
    omega
  have stuck : ∀ i, (outQ A B most i).isGo = true → (outQ A B most i).q.st.length ≤ i → ∀ j, outQ A B most (i + j) = outQ A B most i := fun i hi hl j => by
    induction j with
    | zero => rfl
    | succ j ih =>
      show outQ A B most (i + j + 1) = _
      rw [outQ, ih, isGo_q hi]
      dsimp only
      rw [if_neg (by omega)]
  have left : ∀ i, (outQ A B most i).isGo = false → ∀ j, outQ A B most (i + j) = outQ A B most i := fun i hi j => by
    induction j with
    | zero => rfl
    | succ j ih =>
      show outQ A B most (i + j + 1) = _
      rw [outQ, ih]
      cases c : outQ A B most i with
      | go q => rw [c] at hi; cases hi
      | row q i1 k1 => rfl
      | opn n => rfl
  obtain ⟨N, h1, h2, h3⟩ : ∃ N, N ≤ most + 1 ∧ (∀ i, i < N → (outQ A B most (i + 1)).isGo = true ∧ i < (outQ A B most i).q.st.length) ∧ ¬ ((outQ A B most (N + 1)).isGo = true ∧ N < (outQ A B most N).q.st.length) := by
    have ex : ∃ n, n ≤ most + 1 ∧ ¬ ((outQ A B most (n + 1)).isGo = true ∧ n < (outQ A B most n).q.st.length) := ⟨most + 1, Nat.le_refl _, fun ⟨a, b⟩ => by
      have := small (most + 1) (out_back a)
      omega⟩
    obtain ⟨n, hn1, hn2⟩ := ex
    obtain ⟨N, a, b, c⟩ := st_least (p := fun n => ¬ ((outQ A B most (n + 1)).isGo = true ∧ n < (outQ A B most n).q.st.length)) n hn2
    exact ⟨N, by omega, fun i hi => Classical.byContradiction fun z => c i hi z, b⟩
  have g : ∀ i, i ≤ N → (outQ A B most i).isGo = true := fun i hi => by
    cases i with
    | zero => rfl
    | succ i => exact (h2 i (by omega)).1
  refine ⟨N, h1, g, fun i hi => (h2 i hi).2, ?_⟩
  by_cases c : N < (outQ A B most N).q.st.length
  · have e : (outQ A B most (N + 1)).isGo = false := by
      cases y : (outQ A B most (N + 1)).isGo with
      | false => rfl
      | true => exact absurd ⟨y, c⟩ h3
    refine .inr ⟨c, e, ?_⟩
    have := left (N + 1) e (most + 1 - N)
    rwa [show N + 1 + (most + 1 - N) = most + 2 from by omega] at this
  · refine .inl ⟨by omega, ?_⟩
    have := stuck N (g N (Nat.le_refl _)) (by omega) (most + 2 - N)
    rwa [show N + (most + 2 - N) = most + 2 from by omega] at this
/-! ### the way back -/
def wayF (wy : List (Nat × Nat)) : Nat → Nat → List Int
  | 0, _ => []
  | _ + 1, 0 => []
  | f + 1, i + 1 => wayF wy f (wy.getD i (0, 0)).1 ++ [((wy.getD i (0, 0)).2 : Int)]
def wayQ (wy : List (Nat × Nat)) (i : Nat) : List Int := wayF wy i i
def backN (wy : List (Nat × Nat)) (i : Nat) : Nat → Nat
  | 0 => i
  | t + 1 => (wy.getD (backN wy i t - 1) (0, 0)).1
def numN (wy : List (Nat × Nat)) (i t : Nat) : Int := ((wy.getD (backN wy i t - 1) (0, 0)).2 : Nat)
theorem back_shift (wy : List (Nat × Nat)) (i : Nat) : ∀ t, backN wy (i + 1) (t + 1) = backN wy (wy.getD i (0, 0)).1 t
  | 0 => rfl
  | t + 1 => by
    show (wy.getD (backN wy (i + 1) (t + 1) - 1) (0, 0)).1 = _
    rw [back_shift wy i t]; rfl
theorem way_back {wy : List (Nat × Nat)} (hw : ∀ (i : Nat) (w : Nat × Nat), wy[i]? = some w → w.1 ≤ i) : ∀ f i, i ≤ f → i ≤ wy.length → backN wy i (wayF wy f i).length = 0 ∧ (∀ t, t < (wayF wy f i).length → backN wy i t ≠ 0 ∧ backN wy i t ≤ wy.length) ∧ ((List.range (wayF wy f i).length).map (numN wy i)).reverse = wayF wy f i ∧ (wayF wy f i).length ≤ i
  | 0, i, h, _ => by obtain rfl : i = 0 := by omega
                     exact ⟨rfl, fun t ht => absurd ht (Nat.not_lt_zero _), rfl, Nat.le_refl _⟩
  | f + 1, 0, _, _ => ⟨rfl, fun t ht => absurd ht (Nat.not_lt_zero _), rfl, Nat.le_refl _⟩
  | f + 1, i + 1, h, hl => by
    have e : wy[i]? = some (wy.getD i (0, 0)) := by rw [List.getD_eq_getElem?_getD, List.getElem?_eq_getElem (by omega)]; rfl
    have hj := hw i _ e
    obtain ⟨a, b, c, d⟩ := way_back hw f (wy.getD i (0, 0)).1 (by omega) (by omega)
    have eL : (wayF wy (f + 1) (i + 1)).length = (wayF wy f (wy.getD i (0, 0)).1).length + 1 := by rw [wayF, List.length_append]; rfl
    refine ⟨by rw [eL, back_shift]; exact a, fun t ht => ?_, ?_, by omega⟩
    · cases t with
      | zero => exact ⟨Nat.succ_ne_zero _, hl⟩
      | succ t => rw [back_shift]; exact b t (by omega)
    · rw [eL, List.range_succ_eq_map, List.map_cons, List.reverse_cons, List.map_map, wayF]
      have e0 : numN wy (i + 1) 0 = ((wy.getD i (0, 0)).2 : Nat) := rfl
      have e1 : ∀ t, (numN wy (i + 1) ∘ Nat.succ) t = numN wy (wy.getD i (0, 0)).1 t := fun t => by
        show ((wy.getD (backN wy (i + 1) (t + 1) - 1) (0, 0)).2 : Int) = _
        rw [back_shift]; rfl
      rw [e0, List.map_congr_left (fun t _ => e1 t), c]
theorem way_fuel {wy : List (Nat × Nat)} (hw : ∀ (i : Nat) (w : Nat × Nat), wy[i]? = some w → w.1 ≤ i) : ∀ f i, i ≤ f → i ≤ wy.length → wayF wy f i = wayF wy i i := fun f => by
  have key : ∀ n f i, i ≤ n → i ≤ f → i ≤ wy.length → wayF wy f i = wayF wy i i := by
    intro n
    induction n with
    | zero => intro f i h _ _; obtain rfl : i = 0 := by omega
              cases f <;> rfl
    | succ n ih =>
      intro f i h hf hl
      cases i with
      | zero => cases f <;> rfl
      | succ i =>
        cases f with
        | zero => omega
        | succ f =>
          have e : wy[i]? = some (wy.getD i (0, 0)) := by rw [List.getD_eq_getElem?_getD, List.getElem?_eq_getElem (by omega)]; rfl
          have hj := hw i _ e
          rw [wayF, wayF, ih f _ (by omega) (by omega) (by omega), ih i _ (by omega) (by omega) (by omega)]
  exact fun i => key i f i (Nat.le_refl _)
theorem wayQ_succ {wy : List (Nat × Nat)} (hw : ∀ (i : Nat) (w : Nat × Nat), wy[i]? = some w → w.1 ≤ i) {i : Nat} {w : Nat × Nat} (e : wy[i]? = some w) : wayQ wy (i + 1) = wayQ wy w.1 ++ [(w.2 : Int)] := by
  have hj := hw i w e
  have hl : i < wy.length := (List.getElem?_eq_some_iff.mp e).1
  have e2 : wy.getD i (0, 0) = w := by rw [List.getD_eq_getElem?_getD, e]; rfl
  show wayF wy (i + 1) (i + 1) = _
  rw [wayF, e2, way_fuel hw i w.1 hj (by omega)]
  rfl
def resZ : Rz → PyData
  | .go q => .tuple [.str "none", .tuple (q.st.tail.map restQ)]
  | .row q i k => .tuple [.str "row", .tuple ((wayQ q.wy i ++ [(k : Int)]).map .int)]
  | .opn q => .tuple [.str "open", .int (q.wy.length : Int)]
def wyD (w : Nat × Nat) : PyData := .tuple [.int (w.1 : Int), .int (w.2 : Int)]
end K61

namespace K61
open PySem L2 Evl Mini PyProof.Rows
section
variable {P : Program} {w : World} {K : PySem.W.Frag} {mg : Str → Option Value} {base : Heap} {cAE cBB cBN cBR cTL cBk cPr aE0 aEV aBG : Addr}
/-! ### _row_along -/
def waysD (wy : List (Nat × Nat)) : List PyData := .none :: wy.map wyD
theorem waysD_at {wy : List (Nat × Nat)} {i : Nat} (h0 : i ≠ 0) (h : i ≤ wy.length) : atI (waysD wy) (i : Int) = some (wyD (wy.getD (i - 1) (0, 0))) := by
  refine atI_nat ?_
  obtain ⟨j, rfl⟩ : ∃ j, i = j + 1 := ⟨i - 1, by omega⟩
  show (PyData.none :: wy.map wyD)[j + 1]? = _
  rw [List.getElem?_cons_succ, List.getElem?_map, List.getElem?_eq_getElem (by omega), Nat.add_sub_cancel, List.getD_eq_getElem?_getD, List.getElem?_eq_getElem (by omega)]
  rfl
def S_row_along : Fs := ⟨{x : List (Nat × Nat) × Nat // (∀ (i : Nat) (w : Nat × Nat), x.1[i]? = some w → w.1 ≤ i) ∧ x.2 ≤ x.1.length ∧ x.1.length ≤ 100000}, 2, fun x => [.im (isD (.list (waysD x.1.1))), .im (isD (.int (x.1.2 : Int)))], fun _ => rfl, fun x => .ok (isD (.tuple ((wayQ x.1.1 x.1.2).map .int)))⟩
abbrev st__row_along : Stmt := top 36
theorem sc__row_along : FnScope ["ways", "at", "numbers", "here", "number"] ["ways", "at"] (defScope st__row_along) := ⟨rfl, rfl, rfl, by decide +kernel, rfl, by decide +kernel, by decide +kernel⟩
theorem ok__row_along {f : Addr} {fd : FuncData} (T : Txt K mg cAE cBB cBN cBR cTL cBk cPr aE0 aEV aBG)  (F : Fun K "_row_along" "_row_along" st__row_along f fd) : FnOk P w K mg base (L2.CX P w) 1 f fd ["ways", "at"] (spF (S_row_along)) := by
  refine fn_ok F sc__row_along rfl fun cdv A outer s H E hr => ?_
  have tk : Takes (cxD P w K mg base ["ways", "at", "numbers", "here", "number"] "_row_along" st__row_along f cdv A outer s H E) (fun cls d _ H => E cls d H) := takes_of rfl rfl rfl rfl
  have hx := pxM tk
  have nd := sc__row_along.nd
  refine ⟨_, (pss_cons (ps_set (i := 2) nd rfl (Or.inl rfl) (pe_lst pa_nil))
 (pss_cons (ps_set (i := 3) nd rfl (Or.inl rfl) (pv 1))
 (pss_cons (ps_while (passes_of rfl) (pt_cmpR op_notN (pe_ix ix_seq (pv 0) (pv 3) (fun _ _ => rfl)) pe_non (nomark _)) (pss_cons (ps_asg (pe_ix ix_seq (pv 0) (pv 3) (fun _ _ => rfl)) (pg_tup rfl (pgs_cons (pg_name (i := 3) nd rfl (Or.inl rfl)) (pgs_cons (pg_name (i := 4) nd rfl (Or.inl rfl)) pgs_nil))))
 (pss_one (ps_expr (pe_bm PySem.F.plainAttrs_list PySem.F.slot_list_append PySem.F.type_list_append mt_append (pv 2) (pa_cons (pv 4) pa_nil))))))
 (pss_one (ps_ret (pe_tupleOf (by rfl) T.no_tuple (pe_revLK (K := K) (pv 2)))))))), ?_⟩
  intro x
  obtain ⟨⟨wy, i⟩, hw, hi, hl⟩ := x
  have hi : i ≤ wy.length := hi
  have hl : wy.length ≤ 100000 := hl
  have hz : (sizeLine : Nat) = 16777216 := sizeLine_eq
  obtain ⟨b1, b2, b3, b4⟩ := way_back hw i i (Nat.le_refl _) hi
  show Mini.Ans _ _ [.im (isD (.list (waysD wy))), .im (isD (.int (i : Int))), .no, .no, .no] (.ok (isD (.tuple ((wayF wy i i).map .int))))
  generalize hL : wayF wy i i = W at b1 b2 b3 b4 ⊢
  let Gc : List Int → Nat → Sl → Gm := fun ns h x4 => [.im (isD (.list (waysD wy))), .im (isD (.int (i : Int))), .ow (isL (ns.map .int)), .im (isD (.int (h : Int))), x4]
  let Gi : Nat → Gm := fun t => Gc ((List.range t).map (numN wy i)) (backN wy i t) .no
  have at_ : ∀ {G : Gm} {h : Nat}, G[0]? = some (.im (isD (.list (waysD wy)))) → G[3]? = some (.im (isD (.int (h : Int)))) → h ≠ 0 → h ≤ wy.length → Sv (tOp (rIx K) (tVar 0) (tVar 3)) G (isD (wyD (wy.getD (h - 1) (0, 0)))) := fun h0 h3 hn hh => sv_ixL (rl_sv (sv_var h0)) (sv_var h3) (waysD_at hn hh)
  refine .ok (ss_seq (ss_setL (svl_lst (ds := []) sa_nil (Nat.zero_le _))) (ss_seq (ss_set (P := isD (.int (i : Int))) (sv_var rfl)) (ss_seq (G1 := Gi W.length) (ss_while Gi W.length (Le.refl _) (fun t ht => ?_) (fun t ht => ?_) (.inl ⟨?_, rfl⟩)) ?_)))
  · obtain ⟨n1, n2⟩ := b2 t ht
    exact st_is (st_B (sv_notNb (at_ (h := backN wy i t) rfl rfl n1 n2))) rfl
  · obtain ⟨n1, n2⟩ := b2 t ht
    refine .inl ?_
    have eN : (List.range (t + 1)).map (numN wy i) = (List.range t).map (numN wy i) ++ [numN wy i t] := by rw [List.range_succ, List.map_append]; rfl
    show Ss _ _ (Gc ((List.range t).map (numN wy i)) (backN wy i t) .no) (.nx (Gc ((List.range (t + 1)).map (numN wy i)) (backN wy i (t + 1)) .no))
    rw [eN]
    have hlen : ((List.range t).map (numN wy i)).length = t := by rw [List.length_map, List.length_range]
    generalize (List.range t).map (numN wy i) = ns at hlen ⊢
    refine ss_seq (ss_unpT2 (i := 3) (j := 4) (G := Gc ns (backN wy i t) .no) (d1 := .int ((wy.getD (backN wy i t - 1) (0, 0)).1 : Int)) (d2 := .int ((wy.getD (backN wy i t - 1) (0, 0)).2 : Int)) (at_ (h := backN wy i t) rfl rfl n1 n2)) ?_
    have e : (ns ++ [numN wy i t]).map PyData.int = ns.map PyData.int ++ [.int (numN wy i t)] := by rw [List.map_append]; rfl
    show Ss _ _ _ (.nx [.im (isD (.list (waysD wy))), .im (isD (.int (i : Int))), .ow (isL ((ns ++ [numN wy i t]).map .int)), .im (isD (.int (backN wy i (t + 1) : Int))), .no])
    rw [e]
    exact ss_nxLe (ss_append (n := 2) (ds := ns.map .int) (d := .int (numN wy i t)) rfl (sv_var rfl) (by rw [List.length_map]; omega)) (by repeat first | exact Le.nil | refine Le.eq ?_ | refine Le.no ?_)
  · have e0 : atI (waysD wy) ((backN wy i W.length : Nat) : Int) = some .none := by rw [b1]; exact atI_nat rfl
    exact st_is (st_B (sv_notNb (d := .none) (sv_ixL (rl_sv (sv_var rfl)) (sv_var rfl) e0))) rfl
  · refine ss_ret (sv_is (sv_tupleL (rl_svl (svl_revL (ds := ((List.range W.length).map (numN wy i)).map PyData.int) (rl_ow rfl)))) ?_)
    rw [← List.map_reverse, b3]
end
end K61

namespace K61
open PySem L2 Evl Mini PyProof.Rows
/-! ### keys -/
def unsg (s : Str) : List Int := s.cps.toList.map fun c => ((SLc.idxOf c : Nat) : Int)
theorem unsg_sg {w : List Int} (h : InR w) : unsg (sg w) = w := by
  unfold unsg
  rw [sg_list, List.map_map]
  conv => rhs; rw [← List.map_id w]
  exact List.map_congr_left fun v hv => idx_sgC (h v hv).1 (h v hv).2
def stKey (s : St2) : List Key := [.inr (sg s.1), .inr (sg s.2)]
theorem keyT_st (s : St2) : keyT (stKey s) = pairQ true s.1 s.2 := rfl
theorem shaped_pair (x y : List Int) : SeqAt.shaped (pairQ true x y) = true := by
  unfold SeqAt.shaped
  rw [Bool.and_eq_true]
  have h1 := sg_ok x
  have h2 := sg_ok y
  refine ⟨?_, decide_eq_true ?_⟩
  · show (PyData.canLay0 (.tuple [.str (sg x), .str (sg y)])) = true
    simp [PyData.canLay0, PyData.canLayAll0, h1, h2]
  · show PyData.depth (.tuple [.str (sg x), .str (sg y)]) ≤ _
    simp [PyData.depth, PyData.depthAll]
def isBg (s : St2) : Bool := decide (s = ([], []))
theorem eqv_bg {s : St2} (h1 : InR s.1) (h2 : InR s.2) : PyData.eqv (pairQ true s.1 s.2) (pairQ true [] []) = isBg s := by
  show PyData.eqv (.tuple [.str (sg s.1), .str (sg s.2)]) (.tuple [.str (sg []), .str (sg [])]) = _
  have e0 : InR [] := fun v hv => absurd hv List.not_mem_nil
  simp only [PyData.eqv, PyData.eqvAll]
  rw [sg_eq_iff h1 e0, sg_eq_iff h2 e0]
  unfold isBg
  obtain ⟨x, y⟩ := s
  by_cases c1 : x = []
  · by_cases c2 : y = []
    · simp [c1, c2]
    · simp [c1, c2]
  · simp [c1]
theorem sg_nil : sg [] = "" := by decide +kernel
section
variable {P : Program} {w : World} {K : PySem.W.Frag} {mg : Str → Option Value} {base : Heap} {cAE cBB cBN cBR cTL cBk cPr aE0 aEV aBG : Addr}
/-! ### search -/
def ksQ (q : Qs) : List (List Key) := (q.st.tail.map stKey).reverse
def stD (s : St2) : PyData := pairQ true s.1 s.2
def mostOf (d : PyData) : Nat := match d with
  | .int i => i.toNat
  | _ => 0
def nulB (d : PyData) : Bool := match d with
  | .int i => decide (i = 0)
  | _ => false
def resS (cBB cBN : Addr) (A B : List (List Int)) (d : PyData) : Rs := if A.length = B.length then (if (belowB d 5001 && !nulB d) = true then .ok (isD (resZ (outQ A B (mostOf d) (mostOf d + 2)))) else .bad cBN) else .bad cBB
theorem stKey_inj {s t : St2} (h1 : InR s.1) (h2 : InR s.2) (h3 : InR t.1) (h4 : InR t.2) (h : stKey s = stKey t) : s = t := by
  unfold stKey at h
  injection h with a b
  injection b with b c
  injection a with a
  injection b with b
  have e1 : s.1 = t.1 := by rw [← unsg_sg h1, a, unsg_sg h3]
  have e2 : s.2 = t.2 := by rw [← unsg_sg h2, b, unsg_sg h4]
  exact Prod.ext e1 e2
theorem memQ {A B : List (List Int)} {most : Nat} {q : Qs} {p : St2} (h : QOk A B most q) (h1 : InR p.1) (h2 : InR p.2) : memX (ksQ q) (stKey p) = decide (p ∈ q.st.tail) := by
  have e : memX (ksQ q) (stKey p) = true ↔ p ∈ q.st.tail := by
    rw [memX_iff, ksQ, List.mem_reverse, List.mem_map]
    constructor
    · rintro ⟨s, hs, e⟩
      obtain ⟨r1, r2, _⟩ := h.sm s (List.mem_of_mem_tail hs)
      exact stKey_inj r1 r2 h1 h2 e ▸ hs
    · exact fun z => ⟨p, z, rfl⟩
  by_cases c : p ∈ q.st.tail
  · rw [e.mpr c, decide_eq_true c]
  · rw [decide_eq_false c]
    exact Bool.eq_false_iff.mpr fun z => c (e.mp z)
def restF (d : PyData) : PyData := match d with
  | .tuple [.str a, .str b] => restQ (unsg a, unsg b)
  | _ => .none
theorem restQ_P {s : St2} (h : s.1 = [] ∨ s.2 = []) : restQ s = restP s.1 s.2 := by
  unfold restQ restP sdS
  obtain ⟨x, y⟩ := s
  by_cases c : x = []
  · subst c
    by_cases c2 : y = []
    · subst c2; rfl
    · simp [c2]; rfl
  · have : y = [] := h.resolve_left c
    subst this
    simp [c]; rfl
def S_search (cBk cPr cBB cBN : Addr) : Fs := ⟨{x : (Int × List (List Int) × List (List Int)) × PyData // GoodW x.1.2.1 x.1.1 ∧ GoodW x.1.2.2 x.1.1 ∧ x.1.1 ≤ 60}, 2,
  fun x => [.im (isI cPr (pairF cBk x.1.1.1 (wD x.1.1.2.1) x.1.1.1 (wD x.1.1.2.2))), .im (isD x.1.2)], fun _ => rfl, fun x => resS cBB cBN x.1.1.2.1 x.1.1.2.2 x.1.2⟩
abbrev st_search : Stmt := top 28
theorem sc_search : FnScope ["pair", "most", "words", "states", "ways", "known", "at", "number", "first", "second", "state"] ["pair", "most"] (defScope st_search) := ⟨rfl, rfl, rfl, by decide +kernel, rfl, by decide +kernel, by decide +kernel⟩
theorem ok_search {f : Addr} {fd : FuncData} (T : Txt K mg cAE cBB cBN cBR cTL cBk cPr aE0 aEV aBG) (F__check_books : FnC P w K mg base 2 "_check_books" (spF (S_check_books cBk cPr cBB))) (F_is_below : FnC P w K mg base 2 "is_below" (spF (S_is_below))) (F__word_pairs : FnC P w K mg base 5 "_word_pairs" (spF (S_word_pairs cBk cPr))) (F__behind : FnC P w K mg base 1 "_behind" (spF (S_behind K))) (F__size : FnC P w K mg base 1 "_size" (spF (S_size K))) (F__row_along : FnC P w K mg base 1 "_row_along" (spF (S_row_along))) (F__rest_of_signs : FnC P w K mg base 2 "_rest_of_signs" (spF (S_rest_signs K))) (F : Fun K "search" "search" st_search f fd) : FnOk P w K mg base (L2.CX P w) 6 f fd ["pair", "most"] (spF (S_search cBk cPr cBB cBN)) := by
  refine fn_ok F sc_search rfl fun cdv A outer s H E hr => ?_
  have tk : Takes (cxD P w K mg base ["pair", "most", "words", "states", "ways", "known", "at", "number", "first", "second", "state"] "search" st_search f cdv A outer s H E) (fun cls d _ H => E cls d H) := takes_of rfl rfl rfl rfl
  have hx := pxM tk
  have nd := sc_search.nd
  refine ⟨_, (pss_cons (ps_expr (pe_fn F__check_books hr hx (pa_cons (pv 0) pa_nil)))
 (pss_cons (ps_if (PW.pt (pw_or (pt_not (pt_val (pe_fn F_is_below hr hx (pa_cons (pv 1) (pa_cons (pe_op op_uAdd (pe_gc T.c_MOST_FOUND) pe_int) pa_nil))))) (pw_or1 (pt_cmpR (op_eqD hr.units) (pv 1) pe_int (nomark _))))) (pss_one (ps_rs rfl tk (pmk_err T.e_BadNumber))) pss_nil)
 (pss_cons (ps_set (i := 2) nd rfl (Or.inl rfl) (pe_fn F__word_pairs hr hx (pa_cons (pv 0) pa_nil)))
 (pss_cons (ps_set (i := 3) nd rfl (Or.inl rfl) (pe_lst (pa_cons (pe_gc T.c_BEGIN) pa_nil)))
 (pss_cons (ps_set (i := 4) nd rfl (Or.inl rfl) (pe_lst (pa_cons pe_non pa_nil)))
 (pss_cons (ps_set (i := 5) nd rfl (Or.inl rfl) (pe_callTy0 cr_sx0 (by rfl) T.no_set (by decide +kernel)))
 (pss_cons (ps_set (i := 6) nd rfl (Or.inl rfl) pe_int)
 (pss_cons (ps_while (passes_of rfl) (pt_cmpR op_lt (pv 6) (pe_callB call_len (by rfl) T.no_len (by decide +kernel) (pa_cons (pv 3) pa_nil)) (nomark _)) (pss_cons (ps_for (passes_of rfl) rfl (pi_enum (by rfl) T.no_enumerate (pa_cons (pv 2) pa_nil)) (pg_tup rfl (pgs_cons (pg_name (i := 7) nd rfl (Or.inl rfl)) (pgs_cons (pg_tup rfl (pgs_cons (pg_name (i := 8) nd rfl (Or.inl rfl)) (pgs_cons (pg_name (i := 9) nd rfl (Or.inl rfl)) pgs_nil))) pgs_nil))) (pss_cons (ps_set (i := 10) nd rfl (Or.inl rfl) (pe_fn F__behind hr hx (pa_cons (pe_ix ix_seq (pv 3) (pv 6) (fun _ _ => rfl)) (pa_cons (pv 8) (pa_cons (pv 9) pa_nil)))))
 (pss_cons (ps_if (PW.pt (pw_or (pt_cmpR op_isN (pv 10) pe_non (nomark _)) (pw_or1 (pt_sxin (K := K) (Nat.lt_of_le_of_lt (Nat.add_le_add_left (show 1 ≤ 64 by decide) _) hr.units) (pv 10) (pv 5))))) (pss_one ps_continue) pss_nil)
 (pss_cons (ps_if (pt_cmpR (op_eqD hr.units) (pv 10) (pe_gc T.c_BEGIN) (nomark _)) (pss_one (ps_ret (pe_tup (pa_cons pe_str (pa_cons (pe_op op_uAdd (pe_fn F__row_along hr hx (pa_cons (pv 4) (pa_cons (pv 6) pa_nil))) (pe_tup (pa_cons (pv 7) pa_nil))) pa_nil))))) pss_nil)
 (pss_cons (ps_if (PW.pt (pw_or (pt_cmpR (op_eqD hr.units) (pe_callB cr_lenSX (by rfl) T.no_len (by decide +kernel) (pa_cons (pv 5) pa_nil)) (pv 1) (nomark _)) (pw_or1 (pt_cmpR op_gt (pe_fn F__size hr hx (pa_cons (pv 10) pa_nil)) (pe_gc T.c_LONGEST_WORD) (nomark _))))) (pss_one (ps_ret (pe_tup (pa_cons pe_str (pa_cons (pe_callB cr_lenSX (by rfl) T.no_len (by decide +kernel) (pa_cons (pv 5) pa_nil)) pa_nil))))) pss_nil)
 (pss_cons (ps_expr (pe_sxadd (Nat.lt_of_le_of_lt (Nat.add_le_add_left (show 1 ≤ 64 by decide) _) hr.units) (pv 5) (pv 10) ⟨rfl, rfl, rfl, rfl⟩))
 (pss_cons (ps_expr (pe_bm PySem.F.plainAttrs_list PySem.F.slot_list_append PySem.F.type_list_append mt_append (pv 3) (pa_cons (pv 10) pa_nil)))
 (pss_one (ps_expr (pe_bm PySem.F.plainAttrs_list PySem.F.slot_list_append PySem.F.type_list_append mt_append (pv 4) (pa_cons (pe_tup (pa_cons (pv 6) (pa_cons (pv 7) pa_nil))) pa_nil)))))))))))
 (pss_one (ps_aug (i := 6) nd rfl (Or.inl rfl) pe_int ip_add))))
 (pss_one (ps_ret (pe_tup (pa_cons pe_str (pa_cons (pe_tupleOf (by rfl) T.no_tuple (pe_lc (own := [("state", 10)]) (g := gName 10) (tt := tYes) rfl nd (pi_list (pe_slice sl_uSl (pv 3) (po_some pe_int) po_none)) (blkOk_by (N := ["pair", "most", "words", "states", "ways", "known", "at", "number", "first", "second", "state"]) (sc := defScope st_search) (by decide +kernel)) (fun _ _ _ _ _ => pg_name (i := 10) nd rfl (Or.inl rfl)) (fun _ _ _ _ _ => pts_nil) (fun _ _ _ _ _ => (pe_fn F__rest_of_signs hr px0 (pa_cons (pv 10) pa_nil))))) pa_nil))))))))))))), ?_⟩
  intro x
  obtain ⟨⟨⟨m, A, B⟩, d⟩, gA, gB, hm⟩ := x
  have hz : (sizeLine : Nat) = 16777216 := sizeLine_eq
  have eA : (wD A).length = A.length := by unfold wD; rw [List.length_map]
  have eB : (wD B).length = B.length := by unfold wD; rw [List.length_map]
  have gA : GoodW A m := gA
  have gB : GoodW B m := gB
  have hm : m ≤ 60 := hm
  show Mini.Ans _ _ [.im (isI cPr (pairF cBk m (wD A) m (wD B))), .im (isD d), .no, .no, .no, .no, .no, .no, .no, .no, .no] (resS cBB cBN A B d)
  unfold resS
  by_cases cl : ¬ A.length = B.length
  · rw [if_neg cl]
    exact .bad (ss_seqBad (ss_dropBad (sb_call (S := S_check_books cBk cPr cBB) (sa_im (sv_var rfl) sa_nil) (m, wD A, wD B) rfl (if_neg (by rw [eA, eB]; exact cl)))))
  have cl : A.length = B.length := Classical.not_not.mp cl
  rw [if_pos cl]
  have ck : Sv (tCallS (spF (S_check_books cBk cPr cBB)) (fun _ => E) (tCons (tVar 0) tNil)) [.im (isI cPr (pairF cBk m (wD A) m (wD B))), .im (isD d), .no, .no, .no, .no, .no, .no, .no, .no, .no] (isD .none) := sv_call (S := S_check_books cBk cPr cBB) (sa_im (sv_var rfl) sa_nil) (m, wD A, wD B) rfl (if_pos (by rw [eA, eB]; exact cl))
  have tb : Sv (tCallS (spF S_is_below) (fun _ => E) (tCons (tVar 1) (tCons (tOp (uAdd K) (tC (.int 5000)) (tC (.int 1))) tNil))) [.im (isI cPr (pairF cBk m (wD A) m (wD B))), .im (isD d), .no, .no, .no, .no, .no, .no, .no, .no, .no] (isD (.bool (belowB d 5001))) :=
    sv_call (S := S_is_below) (sa_im (sv_var rfl) (sa_im (sv_add sv_int sv_int) sa_nil)) (d, 5001) rfl rfl
  by_cases cb : ¬ belowB d 5001 = true
  · rw [if_neg (by simp [cb])]
    exact .bad (ss_seq (ss_drop ck) (ss_seqBad (ss_if1 (st_is (st_or (b := true) (c := true) (st_is (st_not (st_B tb)) (by simp [cb])) fun z => by cases z) rfl) ss_rs)))
  have cb : belowB d 5001 = true := Classical.not_not.mp cb
  obtain ⟨i, rfl⟩ : ∃ i, d = .int i := by cases d <;> first | exact ⟨_, rfl⟩ | (simp [belowB] at cb; done)
  have hi : 0 ≤ i ∧ i < 5001 := by simpa [belowB] using cb
  have tt : ∀ {b : Bool}, decide (i = 0) = b → St' (tOr (tNot (tB (tCallS (spF S_is_below) (fun _ => E) (tCons (tVar 1) (tCons (tOp (uAdd K) (tC (.int 5000)) (tC (.int 1))) tNil))))) (tTest (tOp (rEqD K) (tVar 1) (tC (.int 0))))) [.im (isI cPr (pairF cBk m (wD A) m (wD B))), .im (isD (.int i)), .no, .no, .no, .no, .no, .no, .no, .no, .no] b := fun {b} e =>
    st_is (st_or (b := false) (c := b) (st_is (st_not (st_B tb)) (by simp [cb])) fun _ => st_is (st_test (sv_eqI (sv_var rfl) sv_int)) e) rfl
  by_cases c0 : i = 0
  · rw [if_neg (by simp [nulB, c0])]
    exact .bad (ss_seq (ss_drop ck) (ss_seqBad (ss_if1 (tt (decide_eq_true c0)) ss_rs)))
  rw [if_pos (by simp [nulB, c0, cb])]
  refine .ok (ss_seq (ss_drop ck) (ss_seq (ss_if0 (tt (decide_eq_false c0)) ss_next) ?_))
  obtain ⟨most, rfl⟩ := Int.eq_ofNat_of_zero_le hi.1
  show Ss _ _ _ (.rt (isD (resZ (outQ A B most (most + 2)))))
  have hmost : most ≤ 5000 := by omega
  have hT : Two A B m := ⟨gA, gB, hm, cl⟩
  have hA : A.length ≤ 60 := gA.1
  obtain ⟨N, hN, hgo, hlt, hend⟩ := out_end hT (most := most)
  let Gc : Qs → Nat → Sl → Sl → Sl → Sl → Gm := fun q a x7 x8 x9 x10 => [.im (isI cPr (pairF cBk m (wD A) m (wD B))), .im (isD (.int (most : Int))), .im (isD (.list (wps A B))), .ow (isBL K (pairQ true [] []) (q.st.tail.map stD)), .ow (isL (waysD q.wy)), .ow (sXo P w K q.wy.length (ksQ q)), .im (isD (.int (a : Int))), x7, x8, x9, x10]
  let Gi : Nat → Gm := fun a => Gc (outQ A B most a).q a .no .no .no .no
  have bg : ∀ {G : Gm}, Sv (tC (.ref aBG)) G (isP K (pairQ true [] [])) := fun {G} => by
    have e : pairQ true [] [] = .tuple [.str "", .str ""] := by show PyData.tuple [.str (sg []), .str (sg [])] = _; rw [sg_nil]
    rw [e]
    exact sv_pK fun B => .tup (.inr T.kt_aBG.kt) (.cons (.str _) (.cons (.str _) .nil))
  refine ss_seq (ss_set (P := isD (.list (wps A B))) (sv_call (S := S_word_pairs cBk cPr) (sa_im (sv_var rfl) sa_nil) ⟨(m, A, B), hT⟩ rfl rfl)) ?_
  refine ss_seq (ss_setBL bg) (ss_seq (ss_setL (svl_lst (ds := [.none]) (sa_ims sv_non sa_nil) (by show 1 ≤ sizeLine; decide))) (ss_seq (ss_sxnew (P := P) (w := w) (K := K) (n := 5)) (ss_seq (ss_set (P := isD (.int 0)) sv_int) ?_)))
  let o : Out := if (outQ A B most N).q.st.length ≤ N then .nx (Gi N) else .rt (isD (resZ (outQ A B most (N + 1))))
  have lenq : ∀ {q : Qs} {a : Nat} {x7 x8 x9 x10 : Sl}, QOk A B most q → Sv (tCB (fun xs H Q => ∃ x n, xs = [x] ∧ LenV K x H n ∧ Q (.int n) H) (tCons (tVar 3) tNil)) (Gc q a x7 x8 x9 x10) (isD (.int ((q.st.length : Nat) : Int))) := fun {q a x7 x8 x9 x10} hq => by
    refine sv_is (sv_lenBL (n := 3) (ds := q.st.tail.map stD) rfl) ?_
    have e := congrArg List.length hq.cons
    rw [List.length_map, e]; rfl
  have tw : ∀ {q : Qs} {a : Nat}, QOk A B most q → St' (tTest (tOp (rI0 fun i j => .bl (decide (i < j))) (tVar 6) (tCB (fun xs H Q => ∃ x n, xs = [x] ∧ LenV K x H n ∧ Q (.int n) H) (tCons (tVar 3) tNil)))) (Gc q a .no .no .no .no) (decide (a < q.st.length)) := fun {q a} hq =>
    st_is (st_test (sv_cmp (g := fun i j => decide (i < j)) (sv_var rfl) (lenq hq))) (decide_eq_decide.mpr ⟨fun z => by omega, fun z => by omega⟩)
  have okq : ∀ a, a ≤ N → QOk A B most (outQ A B most a).q := fun a ha => out_ok hT a _ (isGo_q (hgo a ha))
  refine ss_seqO (o := o) (ss_while' Gi N (Le.refl _) (fun a ha => st_is (tw (okq a (Nat.le_of_lt ha))) (decide_eq_true (hlt a ha))) ?_ (fun a ha hc => ?_)) (fun G1 e => ?_) (fun ⟨P1, e⟩ => ?_) ?_
  · by_cases c : (outQ A B most N).q.st.length ≤ N
    · exact .inl ⟨st_is (tw (okq N (Nat.le_refl _))) (decide_eq_false (Nat.not_lt.mpr c)), if_pos c⟩
    · exact .inr ⟨st_is (tw (okq N (Nat.le_refl _))) (decide_eq_true (Nat.lt_of_not_le c)), fun z => by rw [show o = .rt (isD (resZ (outQ A B most (N + 1)))) from if_neg c] at z; cases z⟩
  · have hq := okq a ha
    have ego := isGo_q (hgo a ha)
    have hal : a < (outQ A B most a).q.st.length := by
      rcases Nat.lt_or_ge a N with y | y
      · exact hlt a y
      · obtain rfl : a = N := by omega
        rcases hc with y | y
        · omega
        · exact Classical.byContradiction fun z => y (if_pos (by omega))
    have e1 : outQ A B most (a + 1) = innQ A B most a (outQ A B most a).q A.length := by
      rw [outQ, ego]
      exact if_pos hal
    show _ ∧ Turn _ _ (Gc (outQ A B most a).q a .no .no .no .no) _ ∨ _ ∧ ∃ o', Ss _ _ (Gc (outQ A B most a).q a .no .no .no .no) o' ∧ _
    generalize (outQ A B most a).q = q at hq hal e1 ⊢
    have hback : ∀ k j, j ≤ k → (innQ A B most a q k).isGo = true → (innQ A B most a q j).isGo = true := fun k j => by
      induction k with
      | zero => intro h1 h2; obtain rfl : j = 0 := by omega
                exact h2
      | succ k ih =>
        intro h1 h2
        rcases Nat.lt_or_ge j (k + 1) with y | y
        · exact ih (by omega) (inn_back h2)
        · obtain rfl : j = k + 1 := by omega
          exact h2
    have hleft : ∀ k, (innQ A B most a q k).isGo = false → ∀ j, innQ A B most a q (k + j) = innQ A B most a q k := fun k hk j => by
      induction j with
      | zero => rfl
      | succ j ih =>
        show innQ A B most a q (k + j + 1) = _
        rw [innQ, ih]
        cases c : innQ A B most a q k with
        | go q => rw [c] at hk; cases hk
        | row q i1 k1 => rfl
        | opn n => rfl
    obtain ⟨N2, hN2, hgo2, hc2⟩ : ∃ N2, N2 ≤ A.length ∧ (∀ k, k ≤ N2 → (innQ A B most a q k).isGo = true) ∧ (N2 = A.length ∨ N2 < A.length ∧ (innQ A B most a q (N2 + 1)).isGo = false) := by
      by_cases c : (innQ A B most a q A.length).isGo = true
      · exact ⟨A.length, Nat.le_refl _, fun k hk => hback _ k hk c, .inl rfl⟩
      · obtain ⟨n, n1, n2, n3⟩ := st_least (p := fun n => ¬ (innQ A B most a q n).isGo = true) A.length c
        cases n with
        | zero => exact absurd rfl n2
        | succ n =>
          refine ⟨n, by omega, fun k hk => Classical.byContradiction fun z => n3 k (by omega) z, .inr ⟨by omega, ?_⟩⟩
          exact Bool.eq_false_iff.mpr n2
    let o2 : Out := if N2 = A.length then .nx (Gc (innQ A B most a q A.length).q a .no .no .no .no) else .rt (isD (resZ (innQ A B most a q (N2 + 1))))
    let o3 : Out := if N2 = A.length then .nx (Gi (a + 1)) else .rt (isD (resZ (innQ A B most a q (N2 + 1))))
    suffices hS : Ss _ _ (Gc q a .no .no .no .no) o3 by
      by_cases c : N2 = A.length
      · rw [show o3 = .nx (Gi (a + 1)) from if_pos c] at hS
        refine .inl ⟨?_, .inl hS⟩
        rcases Nat.lt_or_ge a N with y | y
        · exact y
        · obtain rfl : a = N := by omega
          rcases hend with ⟨y1, _⟩ | ⟨_, y2, _⟩
          · rcases hc with y3 | y3
            · omega
            · exact absurd (if_pos y1) y3
          · rw [e1, ← c, hgo2 N2 (Nat.le_refl _)] at y2; cases y2
      · rw [show o3 = _ from if_neg c] at hS
        rcases hc2 with y | ⟨y1, y2⟩
        · exact absurd y c
        have e3 : innQ A B most a q A.length = innQ A B most a q (N2 + 1) := by
          have := hleft (N2 + 1) y2 (A.length - (N2 + 1))
          rwa [show N2 + 1 + (A.length - (N2 + 1)) = A.length from by omega] at this
        have aN : a = N := by
          rcases Nat.lt_or_ge a N with y | y
          · have := hgo (a + 1) y
            rw [e1, e3, y2] at this; cases this
          · omega
        refine .inr ⟨aN, _, hS, ?_⟩
        subst aN
        have eo : o = .rt (isD (resZ (outQ A B most (a + 1)))) := if_neg (by
          rcases hend with ⟨y3, _⟩ | ⟨y3, _, _⟩
          · rcases hc with y4 | y4
            · omega
            · exact absurd (if_pos y3) y4
          · omega)
        rw [eo, e1, e3]
        exact .rt
    refine ss_seqO (o := o2) (ss_forEg' (n := 11) (j := 7) (js := [8] ++ [9]) (sv_var rfl) (set2 8 9) (fun k => Gc (innQ A B most a q k).q a .no .no .no .no) N2 (by rw [wps_len]; exact hN2) (Le.refl _) (fun _ _ => rfl) (by decide) (fun d hd => ?_) (fun k d hd hk => ?_) fun e => ?_) (fun G1 e => ?_) (fun ⟨P1, e⟩ => ?_) ?_
    · obtain ⟨k, _, rfl⟩ := List.mem_map.mp hd
      exact tg_set2 (by decide) (by decide)
    · have hkA : k < A.length := by rw [← wps_len (A := A) (B := B)]; exact (List.getElem?_eq_some_iff.mp hd).1
      rw [wps_get hkA] at hd
      cases hd
      have eg2 := isGo_q (hgo2 k hk)
      obtain ⟨hq1, hl1⟩ := inn_ok hq hT hal k _ (by omega) eg2
      have eT : innQ A B most a q (k + 1) = turnQ A B most a k (innQ A B most a q k).q := by rw [innQ, eg2]; rfl
      have hgoOn : ∀ q', turnQ A B most a k (innQ A B most a q k).q = .go q' → k < N2 := fun q' y => by
        rcases Nat.lt_or_ge k N2 with z | z
        · exact z
        · obtain rfl : k = N2 := by omega
          rcases hc2 with y1 | ⟨_, y2⟩
          · omega
          · rw [eT, y] at y2; cases y2
      have hleave : (turnQ A B most a k (innQ A B most a q k).q).isGo = false → k = N2 := fun y => by
        rcases Nat.lt_or_ge k N2 with z | z
        · have := hgo2 (k + 1) z
          rw [eT, y] at this; cases this
        · omega
      have eo2 : ∀ r, turnQ A B most a k (innQ A B most a q k).q = r → r.isGo = false → o2 = .rt (isD (resZ r)) := fun r y z => by
        have kN := hleave (by rw [y]; exact z)
        rw [show o2 = _ from if_neg (by omega), ← kN, eT, y]
      show k < N2 ∧ Turn _ _ (Gc (innQ A B most a q k).q a (.im (isD (.int (k : Int)))) (.im (isD (SqD true (wAt A k)))) (.im (isD (SqD true (wAt B k)))) .no) (Gc (innQ A B most a q (k + 1)).q a .no .no .no .no) ∨ k = N2 ∧ ∃ o', Ss _ _ (Gc (innQ A B most a q k).q a (.im (isD (.int (k : Int)))) (.im (isD (SqD true (wAt A k)))) (.im (isD (SqD true (wAt B k)))) .no) o' ∧ Lv o' o2
      rw [eT]
      have ha1 : a < (innQ A B most a q k).q.st.length := by omega
      generalize (innQ A B most a q k).q = q1 at hq1 ha1 hgoOn hleave eo2 ⊢
      obtain ⟨sm1, sm2⟩ := hq1.at ha1
      obtain ⟨r1, r2, r3, r4⟩ := hq1.sm _ sm1
      have hlen := hq1.len
      have hfew := hq1.few
      have w1 := hT.wA hkA
      have w2 := hT.wB hkA
      have hk1 := w1.2
      have hk2 := w2.2
      generalize hs : q1.st.getD a bg0 = s at sm1 sm2 r1 r2 r3 r4
      have hat : atI (pairQ true [] [] :: q1.st.tail.map stD) (a : Int) = some (pairQ true s.1 s.2) := by
        refine atI_nat ?_
        have e : pairQ true [] [] :: q1.st.tail.map stD = q1.st.map stD := by rw [hq1.cons]; rfl
        rw [e, List.getElem?_map, sm2]; rfl
      let Gd : Sl → Gm := fun x10 => Gc q1 a (.im (isD (.int (k : Int)))) (.im (isD (SqD true (wAt A k)))) (.im (isD (SqD true (wAt B k)))) x10
      have sb : Sv (tCallS (spF (S_behind K)) (fun _ => E) (tCons (tOp (rIx K) (tVar 3) (tVar 6)) (tCons (tVar 8) (tCons (tVar 9) tNil)))) (Gd .no) (isD (behD true (behF s.1 s.2 (wAt A k) (wAt B k)))) :=
        sv_call (S := S_behind K) (sa_im (sv_ixBL (n := 3) rfl (sv_var rfl) hat) (sa_im (sv_var rfl) (sa_im (sv_var rfl) sa_nil))) ⟨(true, s, wAt A k, wAt B k), ⟨by show s.1.length ≤ 100000; omega, by show s.2.length ≤ 100000; omega, by show (wAt A k).length ≤ 100000; omega, by show (wAt B k).length ≤ 100000; omega⟩, fun _ => ⟨r1, r2, w1.1, w2.1⟩⟩ rfl rfl
      cases hb : behF s.1 s.2 (wAt A k) (wAt B k) with
      | none =>
        rw [hb] at sb
        have et : turnQ A B most a k q1 = .go q1 := by unfold turnQ; rw [hs, hb]
        rw [et]
        refine .inl ⟨hgoOn _ et, .inr (ss_seq (ss_set sb) (ss_seqCt (ss_if1 (st_is (st_or (b := true) (c := true) (st_B (sv_isNb (d := .none) (sv_var rfl))) fun z => by cases z) rfl) (ss_ctLe ss_cont ?_))))⟩
        exact (by repeat first | exact Le.nil | refine Le.eq ?_ | refine Le.no ?_)
      | some p =>
        rw [hb] at sb
        obtain ⟨y1, y2⟩ := behF_in hb r1 r2 w1.1 w2.1
        have hps := behF_sum hb
        have hpl := behF_len hb
        have tm : St' (tOr (tB (tOp (fun x y H Q => y = .non ∧ Q (.bl (decide (x = .non))) H) (tVar 10) (tC .non))) (tB (tSXIn false P w K (tVar 10) (tVar 5)))) (Gd (.im (isD (pairQ true p.1 p.2)))) (decide (p ∈ q1.st.tail)) :=
          st_is (st_or (b := false) (c := decide (p ∈ q1.st.tail)) (st_B (sv_isNb (d := pairQ true p.1 p.2) (sv_var rfl))) fun _ => st_B (sv_is (sv_sxin (neg := false) (k := stKey p) (ks := ksQ q1) (m := q1.wy.length) (sv_pD (sv_var rfl)) (rx_ow rfl) (by omega)) (by show PyData.bool (memX (ksQ q1) (stKey p)) = _; rw [memQ hq1 y1 y2]))) (Bool.false_or _)
        by_cases c1 : p ∈ q1.st.tail
        · have et : turnQ A B most a k q1 = .go q1 := by unfold turnQ; rw [hs, hb]; exact if_pos c1
          rw [et]
          refine .inl ⟨hgoOn _ et, .inr (ss_seq (ss_set sb) (ss_seqCt (ss_if1 (st_is tm (decide_eq_true c1)) (ss_ctLe ss_cont ?_))))⟩
          exact (by repeat first | exact Le.nil | refine Le.eq ?_ | refine Le.no ?_)
        have tg : St' (tTest (tOp (rEqD K) (tVar 10) (tC (.ref aBG)))) (Gd (.im (isD (pairQ true p.1 p.2)))) (isBg p) :=
          st_is (st_test (sv_eqP (sv_pD (sv_var rfl)) bg (shaped_pair p.1 p.2) (shaped_pair [] []))) (eqv_bg y1 y2)
        by_cases c2 : p = bg0
        · have et : turnQ A B most a k q1 = .row q1 a k := by unfold turnQ; rw [hs, hb]; exact (if_neg c1).trans (if_pos c2)
          have kN := hleave (by rw [et]; rfl)
          rw [eo2 _ et rfl]
          have hway : (wayQ q1.wy a).length ≤ a := (way_back (fun i w h => (hq1.wk i w h).1) a a (Nat.le_refl _) (by omega)).2.2.2
          refine .inr ⟨kN, _, ss_seq (ss_set sb) (ss_seq (ss_if0 (st_is tm (decide_eq_false c1)) ss_next) (ss_seqRt (ss_if1 (st_is tg (decide_eq_true c2)) (ss_freeze (n := 4) rfl (ss_ret (sv_is (sv_tt (d := .str "row") (e := .tuple ((wayQ q1.wy a).map .int ++ [.int (k : Int)])) sv_str (sv_catT (sv_call (S := S_row_along) (sa_im (sv_var rfl) (sa_im (sv_var rfl) sa_nil)) ⟨(q1.wy, a), fun i w h => (hq1.wk i w h).1, by show a ≤ q1.wy.length; omega, by show q1.wy.length ≤ 100000; omega⟩ rfl rfl) (sv_tup (ds := [.int (k : Int)]) (sa_ims (sv_var rfl) sa_nil) (by show 1 ≤ sizeLine; decide)) (by rw [List.length_map]; show _ + 1 ≤ sizeLine; omega))) ?_)))))), .rt⟩
          show _ = PyData.tuple [.str "row", .tuple ((wayQ q1.wy a ++ [(k : Int)]).map .int)]
          rw [List.map_append]; rfl
        have c2' : isBg p = false := decide_eq_false c2
        have lk : Sv (tCB (rLenSX P w) (tCons (tVar 5) tNil)) (Gd (.im (isD (pairQ true p.1 p.2)))) (isD (.int (q1.wy.length : Int))) := sv_lenSX (rx_ow rfl)
        have tl : St' (tOr (tTest (tOp (rEqD K) (tCB (rLenSX P w) (tCons (tVar 5) tNil)) (tVar 1))) (tTest (tOp (rI0 fun i j => .bl (decide (j < i))) (tCallS (spF (S_size K)) (fun _ => E) (tCons (tVar 10) tNil)) (tC (.int 5000))))) (Gd (.im (isD (pairQ true p.1 p.2)))) (decide (q1.wy.length = most ∨ 5000 < p.1.length + p.2.length)) := by
          refine st_is (st_or (b := decide (q1.wy.length = most)) (c := decide (5000 < p.1.length + p.2.length)) (st_is (st_test (sv_eqI lk (sv_var rfl))) (decide_eq_decide.mpr ⟨fun z => by omega, fun z => by omega⟩)) fun _ => st_is (st_test (sv_cmp (g := fun i j => decide (j < i)) (sv_call (S := S_size K) (sa_im (sv_pD (sv_var rfl)) sa_nil) ⟨(true, p.1, p.2), by show p.1.length ≤ sizeLine; omega, by show p.2.length ≤ sizeLine; omega⟩ rfl rfl) sv_int)) (show decide ((5000 : Int) < ((p.1.length + p.2.length : Nat) : Int)) = _ from decide_eq_decide.mpr ⟨fun z => by omega, fun z => by omega⟩)) ?_
          rw [← Bool.decide_or]
        by_cases c3 : q1.wy.length = most ∨ 5000 < p.1.length + p.2.length
        · have et : turnQ A B most a k q1 = .opn q1 := by unfold turnQ; rw [hs, hb]; exact (if_neg c1).trans ((if_neg c2).trans (if_pos c3))
          have kN := hleave (by rw [et]; rfl)
          rw [eo2 _ et rfl]
          exact .inr ⟨kN, _, ss_seq (ss_set sb) (ss_seq (ss_if0 (st_is tm (decide_eq_false c1)) ss_next) (ss_seq (ss_if0 (st_is tg c2') ss_next) (ss_seqRt (ss_if1 (st_is tl (decide_eq_true c3)) (ss_ret (sv_tt (d := .str "open") (e := .int (q1.wy.length : Int)) sv_str lk)))))), .rt⟩
        have et : turnQ A B most a k q1 = .go ⟨q1.st ++ [p], q1.wy ++ [(a, k)]⟩ := by unfold turnQ; rw [hs, hb]; exact (if_neg c1).trans ((if_neg c2).trans (if_neg c3))
        rw [et]
        have e1 : (q1.st ++ [p]).tail = q1.st.tail ++ [p] := by rw [hq1.cons]; rfl
        have e2 : (q1.st ++ [p]).tail.map stD = q1.st.tail.map stD ++ [stD p] := by rw [e1, List.map_append]; rfl
        have e3 : waysD (q1.wy ++ [(a, k)]) = waysD q1.wy ++ [wyD (a, k)] := by unfold waysD; rw [List.map_append]; rfl
        have e4 : ksQ ⟨q1.st ++ [p], q1.wy ++ [(a, k)]⟩ = stKey p :: ksQ q1 := by unfold ksQ; rw [e1, List.map_append, List.reverse_append]; rfl
        have e5 : (q1.wy ++ [(a, k)]).length = q1.wy.length + 1 := by simp
        have hnew : stKey p ∉ ksQ q1 := fun z => by
          have := memQ hq1 y1 y2
          rw [memX_iff.mpr z, decide_eq_false c1] at this; cases this
        have ht : q1.st.tail.length = q1.wy.length := by rw [List.length_tail, hlen]; omega
        refine .inl ⟨hgoOn _ et, .inl (ss_seq (ss_set sb) (ss_seq (ss_if0 (st_is tm (decide_eq_false c1)) ss_next) (ss_seq (ss_if0 (st_is tg c2') ss_next) (ss_seq (ss_if0 (st_is tl (decide_eq_false c3)) ss_next) ?_))))⟩
        refine ss_seq (ss_sxadd (n := 5) (k := stKey p) (ks := ksQ q1) (m := q1.wy.length) rfl (sv_pD (sv_var rfl)) (by omega) hnew) (ss_seq (ss_appendBL (n := 3) (d := stD p) rfl (sv_var rfl) (by rw [List.length_map, ht]; omega)) ?_)
        show Ss _ _ _ (.nx [.im (isI cPr (pairF cBk m (wD A) m (wD B))), .im (isD (.int (most : Int))), .im (isD (.list (wps A B))), .ow (isBL K (pairQ true [] []) ((q1.st ++ [p]).tail.map stD)), .ow (isL (waysD (q1.wy ++ [(a, k)]))), .ow (sXo P w K (q1.wy ++ [(a, k)]).length (ksQ ⟨q1.st ++ [p], q1.wy ++ [(a, k)]⟩)), .im (isD (.int (a : Int))), .no, .no, .no, .no])
        rw [e2, e3, e4, e5]
        refine ss_nxLe (ss_append (n := 4) (ds := waysD q1.wy) (d := wyD (a, k)) rfl (sv_tt (sv_var rfl) (sv_var rfl)) (by unfold waysD; rw [List.length_cons, List.length_map]; omega)) (by repeat first | exact Le.nil | refine Le.eq ?_ | refine Le.no ?_)
    · rw [show o2 = _ from if_pos (by rw [e, wps_len])]
      have := e.trans wps_len
      subst this
      rfl
    · by_cases c : N2 = A.length
      · rw [show o2 = _ from if_pos c] at e
        cases e
        rw [show o3 = _ from if_pos c]
        show Ss _ _ _ (.nx (Gc (outQ A B most (a + 1)).q (a + 1) .no .no .no .no))
        rw [e1]
        exact ss_nxIs (ss_aug (n := 6) (i := (a : Int)) (j := 1) rfl sv_int) rfl
      · rw [show o2 = _ from if_neg c] at e; cases e
    · by_cases c : N2 = A.length
      · rw [show o2 = _ from if_pos c] at e; cases e
      · rw [show o2 = _ from if_neg c, show o3 = _ from if_neg c]
    · by_cases c : N2 = A.length
      · exact .inl ⟨_, if_pos c⟩
      · exact .inr ⟨_, if_neg c⟩
  · by_cases c : (outQ A B most N).q.st.length ≤ N
    · rw [show o = _ from if_pos c] at e
      cases e
      have ee : outQ A B most (most + 2) = .go (outQ A B most N).q := by
        rcases hend with ⟨_, y⟩ | ⟨y, _⟩
        · rw [y]; exact isGo_q (hgo N (Nat.le_refl _))
        · omega
      rw [ee]
      have hq := okq N (Nat.le_refl _)
      show Ss _ _ (Gc (outQ A B most N).q N .no .no .no .no) _
      generalize (outQ A B most N).q = q at hq ⊢
      have hfew := hq.few
      have ht : q.st.tail.length = q.wy.length := by rw [List.length_tail, hq.len]; omega
      refine ss_ret (sv_tt (d := .str "none") (e := .tuple (q.st.tail.map restQ)) sv_str (sv_tupleL (rl_svl (svl_is (svl_lcMap (K := K) (j := 10) (rl_svl (svl_tailBL (n := 3) rfl)) restF (Nat.le_of_ble_eq_true rfl) (by rw [List.length_map, ht]; omega) fun d hd => ?_) ?_))))
      · obtain ⟨s, hs, rfl⟩ := List.mem_map.mp hd
        obtain ⟨r1, r2, r3, r4⟩ := hq.sm s (List.mem_of_mem_tail hs)
        have hne : ¬ (s.1 = [] ∧ s.2 = []) := fun z => hq.nb (by have e : s = bg0 := Prod.ext z.1 z.2
                                                                 exact e ▸ hs)
        have e : restF (stD s) = restP s.1 s.2 := by
          show restQ (unsg (sg s.1), unsg (sg s.2)) = _
          rw [unsg_sg r1, unsg_sg r2]
          exact restQ_P r4
        rw [e]
        have e2 := restT_d (K := K) hne
        rw [← e2]
        exact sv_call (S := S_rest_signs K) (sa_im (sv_pD (sv_var rfl)) sa_nil) ⟨s, ⟨r1, by omega⟩, r2, by omega⟩ rfl rfl
      · rw [List.map_map]
        refine List.map_congr_left fun s hs => ?_
        obtain ⟨r1, r2, _⟩ := hq.sm s (List.mem_of_mem_tail hs)
        show restQ (unsg (sg s.1), unsg (sg s.2)) = restQ s
        rw [unsg_sg r1, unsg_sg r2]
    · rw [show o = _ from if_neg c] at e; cases e
  · by_cases c : (outQ A B most N).q.st.length ≤ N
    · rw [show o = _ from if_pos c] at e; cases e
    · rw [show o = _ from if_neg c]
      rcases hend with ⟨y, _⟩ | ⟨_, _, y⟩
      · exact absurd y c
      · rw [y]
  · by_cases c : (outQ A B most N).q.st.length ≤ N
    · exact .inl ⟨_, if_pos c⟩
    · exact .inr ⟨_, if_neg c⟩
end
end K61

namespace K61
open PySem L2 Evl Mini PyProof.Rows
/-! ### the state behind a row -/
def runL (A B : List (List Int)) : St2 → List Int → Option St2
  | s, [] => some s
  | s, k :: r => match behF s.1 s.2 (wAt A k) (wAt B k) with
    | none => none
    | some p => runL A B p r
theorem runL_snoc (A B : List (List Int)) : ∀ (r : List Int) (s : St2) (k : Int), runL A B s (r ++ [k]) = (runL A B s r).bind fun p => behF p.1 p.2 (wAt A k) (wAt B k)
  | [], s, k => by
    show (match behF s.1 s.2 (wAt A k) (wAt B k) with | none => none | some p => runL A B p []) = behF s.1 s.2 (wAt A k) (wAt B k)
    cases behF s.1 s.2 (wAt A k) (wAt B k) <;> rfl
  | j :: r, s, k => by
    show (match behF s.1 s.2 (wAt A j) (wAt B j) with | none => none | some p => runL A B p (r ++ [k])) = _
    show _ = Option.bind (match behF s.1 s.2 (wAt A j) (wAt B j) with | none => none | some p => runL A B p r) _
    cases behF s.1 s.2 (wAt A j) (wAt B j) with
    | none => rfl
    | some p => exact runL_snoc A B r p k
def InN (A : List (List Int)) (r : List Int) : Prop := ∀ k ∈ r, 0 ≤ k ∧ k < A.length
/-! ### rows in their order -/
def slt (x y : List Int) : Prop := x.length < y.length ∨ x.length = y.length ∧ HT.lexLt x y = true
def sle (x y : List Int) : Prop := x = y ∨ slt x y
theorem lex_irr : ∀ x : List Int, HT.lexLt x x = false
  | [] => rfl
  | a :: x => by rw [HT.lexLt_cons, if_pos rfl]; exact lex_irr x
theorem lex_trans : ∀ {x y z : List Int}, HT.lexLt x y = true → HT.lexLt y z = true → HT.lexLt x z = true
  | [], [], _, h, _ => by cases h
  | [], _ :: _, [], _, h => by cases h
  | [], _ :: _, _ :: _, _, _ => rfl
  | _ :: _, [], _, h, _ => by cases h
  | _ :: _, _ :: _, [], _, h => by cases h
  | a :: x, b :: y, c :: z, h1, h2 => by
    rw [HT.lexLt_cons] at h1 h2 ⊢
    by_cases e1 : a = b
    · rw [if_pos e1] at h1
      by_cases e2 : b = c
      · rw [if_pos e2] at h2; rw [if_pos (e1.trans e2)]; exact lex_trans h1 h2
      · rw [if_neg e2] at h2; rw [if_neg (fun q => e2 (e1 ▸ q)), e1]; exact h2
    · rw [if_neg e1] at h1
      have l1 := of_decide_eq_true h1
      by_cases e2 : b = c
      · rw [if_neg (fun q => e1 (q.trans e2.symm)), ← e2]; exact h1
      · rw [if_neg e2] at h2
        have l2 := of_decide_eq_true h2
        rw [if_neg (by omega)]; exact decide_eq_true (by omega)
theorem lex_total : ∀ {x y : List Int}, x.length = y.length → x = y ∨ HT.lexLt x y = true ∨ HT.lexLt y x = true
  | [], [], _ => .inl rfl
  | a :: x, b :: y, h => by
    rw [HT.lexLt_cons, HT.lexLt_cons]
    by_cases e : a = b
    · subst e
      rw [if_pos rfl, if_pos rfl]
      rcases lex_total (x := x) (y := y) (by simpa using h) with z | z | z
      · exact .inl (by rw [z])
      · exact .inr (.inl z)
      · exact .inr (.inr z)
    · rw [if_neg e, if_neg (Ne.symm e)]
      rcases Int.lt_or_gt_of_ne e with z | z
      · exact .inr (.inl (decide_eq_true z))
      · exact .inr (.inr (decide_eq_true z))
theorem lex_app : ∀ {x y : List Int} (u v : List Int), x.length = y.length → HT.lexLt x y = true → HT.lexLt (x ++ u) (y ++ v) = true
  | [], [], _, _, _, h => by cases h
  | a :: x, b :: y, u, v, hl, h => by
    rw [HT.lexLt_cons] at h
    show HT.lexLt (a :: (x ++ u)) (b :: (y ++ v)) = true
    rw [HT.lexLt_cons]
    by_cases e : a = b
    · rw [if_pos e] at h ⊢; exact lex_app u v (by simpa using hl) h
    · rw [if_neg e] at h ⊢; exact h
theorem lex_same : ∀ (x : List Int) (u v : List Int), HT.lexLt (x ++ u) (x ++ v) = HT.lexLt u v
  | [], _, _ => rfl
  | a :: x, u, v => by
    show HT.lexLt (a :: (x ++ u)) (a :: (x ++ v)) = _
    rw [HT.lexLt_cons, if_pos rfl]; exact lex_same x u v
theorem slt_irr {x : List Int} : ¬ slt x x := fun h => by
  rcases h with h | ⟨_, h⟩
  · omega
  · rw [lex_irr] at h; cases h
theorem slt_trans {x y z : List Int} (h1 : slt x y) (h2 : slt y z) : slt x z := by
  rcases h1 with a | ⟨a, b⟩ <;> rcases h2 with c | ⟨c, d⟩
  · exact .inl (by omega)
  · exact .inl (by omega)
  · exact .inl (by omega)
  · exact .inr ⟨by omega, lex_trans b d⟩
theorem sle_slt {x y z : List Int} (h1 : sle x y) (h2 : slt y z) : slt x z := by
  rcases h1 with rfl | h1
  · exact h2
  · exact slt_trans h1 h2
theorem slt_sle {x y z : List Int} (h1 : slt x y) (h2 : sle y z) : slt x z := by
  rcases h2 with rfl | h2
  · exact h1
  · exact slt_trans h1 h2
theorem sle_trans {x y z : List Int} (h1 : sle x y) (h2 : sle y z) : sle x z := by
  rcases h1 with rfl | h1
  · exact h2
  · exact .inr (slt_sle h1 h2)
theorem slt_total (x y : List Int) : sle x y ∨ slt y x := by
  rcases Nat.lt_trichotomy x.length y.length with z | z | z
  · exact .inl (.inr (.inl z))
  · rcases lex_total z with w | w | w
    · exact .inl (.inl w)
    · exact .inl (.inr (.inr ⟨z, w⟩))
    · exact .inr (.inr ⟨z.symm, w⟩)
  · exact .inr (.inl z)
theorem slt_snoc {x y : List Int} (h : slt x y) (a b : Int) : slt (x ++ [a]) (y ++ [b]) := by
  rcases h with h | ⟨h1, h2⟩
  · exact .inl (by simp; omega)
  · exact .inr ⟨by simp; omega, lex_app _ _ h1 h2⟩
theorem slt_last {x : List Int} {a b : Int} (h : a < b) : slt (x ++ [a]) (x ++ [b]) := .inr ⟨by simp, by
  rw [lex_same, HT.lexLt_cons, if_neg (by omega)]; exact decide_eq_true h⟩
theorem slt_snoc_iff {x : List Int} {a b : Int} (h : slt (x ++ [a]) (x ++ [b])) : a < b := by
  rcases h with h | ⟨_, h⟩
  · simp at h
  · rw [lex_same, HT.lexLt_cons] at h
    by_cases e : a = b
    · rw [if_pos e] at h; cases h
    · rw [if_neg e] at h; exact of_decide_eq_true h
theorem sle_snoc {x y : List Int} (h : sle x y) (a : Int) : sle (x ++ [a]) (y ++ [a]) := by
  rcases h with rfl | h
  · exact .inl rfl
  · exact .inr (slt_snoc h a a)
theorem slt_pre {x : List Int} {a : Int} : slt x (x ++ [a]) := .inl (by simp)
theorem sle_take (r : List Int) (t : Nat) : sle (r.take t) r := by
  by_cases h : r.length ≤ t
  · rw [List.take_of_length_le h]; exact .inl rfl
  · exact .inr (.inl (by rw [List.length_take]; omega))
/-! ### what the search keeps -/
theorem way_app {wy : List (Nat × Nat)} (hw : ∀ (i : Nat) (w : Nat × Nat), wy[i]? = some w → w.1 ≤ i) (w : Nat × Nat) : ∀ f i, i ≤ wy.length → wayF (wy ++ [w]) f i = wayF wy f i
  | 0, _, _ => rfl
  | _ + 1, 0, _ => rfl
  | f + 1, i + 1, h => by
    have e1 : wy[i]? = some (wy.getD i (0, 0)) := by rw [List.getD_eq_getElem?_getD, List.getElem?_eq_getElem (by omega)]; rfl
    have e : (wy ++ [w]).getD i (0, 0) = wy.getD i (0, 0) := by rw [List.getD_eq_getElem?_getD, List.getElem?_append_left (by omega), ← List.getD_eq_getElem?_getD]
    have := hw i _ e1
    rw [wayF, wayF, e, way_app hw w f _ (by omega)]
structure BI (A B : List (List Int)) (at_ k : Nat) (q : Qs) : Prop where
  run : ∀ i s, q.st[i]? = some s → runL A B bg0 (wayQ q.wy i) = some s ∧ InN A (wayQ q.wy i)
  mono : ∀ i j, i < j → j < q.st.length → slt (wayQ q.wy i) (wayQ q.wy j)
  front : ∀ (j : Nat) (w : Nat × Nat), q.wy[j]? = some w → w.1 < at_ ∨ w.1 = at_ ∧ w.2 < k
  done : ∀ i s (j : Nat) p, q.st[i]? = some s → j < A.length → (i < at_ ∨ i = at_ ∧ j < k) → behF s.1 s.2 (wAt A j) (wAt B j) = some p → p ≠ bg0 ∧ ∃ i', q.st[i']? = some p ∧ sle (wayQ q.wy i') (wayQ q.wy i ++ [(j : Int)])
theorem BI.zero {A B : List (List Int)} : BI A B 0 0 ⟨[bg0], []⟩ where
  run := fun i s h => by
    cases i with
    | zero => cases h; exact ⟨rfl, fun k hk => absurd hk List.not_mem_nil⟩
    | succ i => simp at h
  mono := fun i j h1 h2 => by simp at h2; omega
  front := fun j w h => by simp at h
  done := fun i s j p _ _ h _ => by omega
theorem BI.next {A B : List (List Int)} {a : Nat} {q : Qs} (h : BI A B a A.length q) (hk : ∀ (j : Nat) (w : Nat × Nat), q.wy[j]? = some w → w.2 < A.length) : BI A B (a + 1) 0 q where
  run := h.run
  mono := h.mono
  front := fun j w e => by rcases h.front j w e with z | z <;> omega
  done := fun i s j p e hj c hb => h.done i s j p e hj (by omega) hb
theorem BI.stay {A B : List (List Int)} {a : Nat} {q : Qs} (h : BI A B a 0 q) (hl : q.st.length ≤ a) : BI A B (a + 1) 0 q where
  run := h.run
  mono := h.mono
  front := fun j w e => by rcases h.front j w e with z | z <;> omega
  done := fun i s j p e hj c hb => by
    have := (List.getElem?_eq_some_iff.mp e).1
    exact h.done i s j p e hj (by omega) hb
/-- each row met stands ahead of the one that is asked now -/
theorem BI.ahead {A B : List (List Int)} {most a k : Nat} {q : Qs} (h : BI A B a k q) (hq : QOk A B most q) (ha : a < q.st.length) : ∀ i, i < q.st.length → slt (wayQ q.wy i) (wayQ q.wy a ++ [(k : Int)]) := fun i hi => by
  have hw := fun i w e => (hq.wk i w e).1
  have hl := hq.len
  cases i with
  | zero => exact .inl (by show ([] : List Int).length < _; simp)
  | succ i =>
    have e : q.wy[i]? = some (q.wy.getD i (0, 0)) := by rw [List.getD_eq_getElem?_getD, List.getElem?_eq_getElem (by omega)]; rfl
    rw [wayQ_succ hw e]
    rcases h.front i _ e with z | ⟨z, z2⟩
    · exact slt_snoc (h.mono _ a z ha) _ _
    · rw [z]; exact slt_last (by omega)
theorem BI.turn {A B : List (List Int)} {m : Int} {most a k : Nat} {q q' : Qs} (h : BI A B a k q) (hq : QOk A B most q) (hT : Two A B m) (hk : k < A.length) (ha : a < q.st.length) (e : turnQ A B most a k q = .go q') : BI A B a (k + 1) q' := by
  have hw := fun i w e => (hq.wk i w e).1
  have hl := hq.len
  obtain ⟨_, sa⟩ := hq.at ha
  unfold turnQ at e
  generalize hs : q.st.getD a bg0 = s at e sa
  cases hb : behF s.1 s.2 (wAt A k) (wAt B k) with
  | none =>
    rw [hb] at e; cases e
    refine { run := h.run, mono := h.mono, front := fun j w e => by rcases h.front j w e with z | z <;> omega, done := fun i s' j p e1 hj c hb' => ?_ }
    rcases Nat.lt_or_ge j k with z | z
    · exact h.done i s' j p e1 hj (by omega) hb'
    · rcases c with c | ⟨c, c2⟩
      · exact h.done i s' j p e1 hj (.inl c) hb'
      · obtain rfl : j = k := by omega
        subst c
        rw [sa] at e1; cases e1
        rw [hb] at hb'; cases hb'
  | some p =>
    rw [hb] at e
    dsimp only at e
    by_cases c1 : p ∈ q.st.tail
    · rw [if_pos c1] at e; cases e
      refine { run := h.run, mono := h.mono, front := fun j w e => by rcases h.front j w e with z | z <;> omega, done := fun i s' j p' e1 hj c hb' => ?_ }
      rcases Nat.lt_or_ge j k with z | z
      · exact h.done i s' j p' e1 hj (by omega) hb'
      · rcases c with c | ⟨c, c2⟩
        · exact h.done i s' j p' e1 hj (.inl c) hb'
        · obtain rfl : j = k := by omega
          subst c
          rw [sa] at e1; cases e1
          rw [hb] at hb'; cases hb'
          refine ⟨fun z => hq.nb (z ▸ c1), ?_⟩
          obtain ⟨i', hi'⟩ := List.getElem?_of_mem (List.mem_of_mem_tail c1)
          exact ⟨i', hi', .inr (h.ahead hq ha i' (List.getElem?_eq_some_iff.mp hi').1)⟩
    · rw [if_neg c1] at e
      by_cases c2 : p = bg0
      · rw [if_pos c2] at e; cases e
      · rw [if_neg c2] at e
        by_cases c3 : q.wy.length = most ∨ 5000 < p.1.length + p.2.length
        · rw [if_pos c3] at e; cases e
        · rw [if_neg c3] at e; cases e
          have old : ∀ i, i ≤ q.wy.length → wayQ (q.wy ++ [(a, k)]) i = wayQ q.wy i := fun i hi => way_app hw (a, k) i i hi
          have hw' : ∀ (i : Nat) (w : Nat × Nat), (q.wy ++ [(a, k)])[i]? = some w → w.1 ≤ i := fun i w e => by
            rcases Nat.lt_or_ge i q.wy.length with z | z
            · rw [List.getElem?_append_left z] at e; exact hw i w e
            · rw [List.getElem?_append_right z] at e
              have : i - q.wy.length = 0 := by
                cases y : i - q.wy.length with
                | zero => rfl
                | succ y' => rw [y] at e; simp at e
              rw [this] at e; cases e
              show a ≤ i; omega
          have new : wayQ (q.wy ++ [(a, k)]) q.st.length = wayQ q.wy a ++ [(k : Int)] := by
            rw [hl, wayQ_succ hw' (w := (a, k)) (by simp), old a (by omega)]
          have stq : ∀ i s', (q.st ++ [p])[i]? = some s' → (i < q.st.length ∧ q.st[i]? = some s') ∨ (i = q.st.length ∧ s' = p) := fun i s' e => by
            rcases Nat.lt_or_ge i q.st.length with z | z
            · rw [List.getElem?_append_left z] at e; exact .inl ⟨z, e⟩
            · rw [List.getElem?_append_right z] at e
              have : i - q.st.length = 0 := by
                cases y : i - q.st.length with
                | zero => rfl
                | succ y' => rw [y] at e; simp at e
              rw [this] at e; cases e
              exact .inr ⟨by omega, rfl⟩
          refine { run := fun i s' e1 => ?_, mono := fun i j h1 h2 => ?_, front := fun j w e1 => ?_, done := fun i s' j p' e1 hj c hb' => ?_ }
          · show runL A B bg0 (wayQ (q.wy ++ [(a, k)]) i) = some s' ∧ InN A (wayQ (q.wy ++ [(a, k)]) i)
            rcases stq i s' e1 with ⟨z, e2⟩ | ⟨z, rfl⟩
            · rw [old i (by omega)]; exact h.run i s' e2
            · rw [z, new, runL_snoc, (h.run a s sa).1]
              refine ⟨hb, fun v hv => ?_⟩
              rcases List.mem_append.mp hv with y | y
              · exact (h.run a s sa).2 v y
              · rw [List.mem_singleton] at y; omega
          · show slt (wayQ (q.wy ++ [(a, k)]) i) (wayQ (q.wy ++ [(a, k)]) j)
            have h2 : j < q.st.length + 1 := by simpa using h2
            rcases Nat.lt_or_ge j q.st.length with z | z
            · rw [old i (by omega), old j (by omega)]; exact h.mono i j h1 z
            · obtain rfl : j = q.st.length := by omega
              rw [new, old i (by omega)]
              exact h.ahead hq ha i h1
          · rcases Nat.lt_or_ge j q.wy.length with z | z
            · have e1 : (q.wy ++ [(a, k)])[j]? = some w := e1
              rw [List.getElem?_append_left z] at e1
              rcases h.front j w e1 with y | y <;> omega
            · have e1 : (q.wy ++ [(a, k)])[j]? = some w := e1
              rw [List.getElem?_append_right z] at e1
              have : j - q.wy.length = 0 := by
                cases y : j - q.wy.length with
                | zero => rfl
                | succ y' => rw [y] at e1; simp at e1
              rw [this] at e1; cases e1
              exact .inr ⟨rfl, Nat.lt_succ_self k⟩
          · show p' ≠ bg0 ∧ ∃ i', (q.st ++ [p])[i']? = some p' ∧ sle (wayQ (q.wy ++ [(a, k)]) i') (wayQ (q.wy ++ [(a, k)]) i ++ [(j : Int)])
            rcases stq i s' e1 with ⟨z, e2⟩ | ⟨z, rfl⟩
            · by_cases cc : i < a ∨ i = a ∧ j < k
              · obtain ⟨d1, i', d2, d3⟩ := h.done i s' j p' e2 hj cc hb'
                have hi' := (List.getElem?_eq_some_iff.mp d2).1
                exact ⟨d1, i', by rw [List.getElem?_append_left hi']; exact d2, by rw [old i (by omega), old i' (by omega)]; exact d3⟩
              · have ei : i = a := by omega
                have ej : j = k := by omega
                subst ei ej
                rw [sa] at e2; cases e2
                rw [hb] at hb'; cases hb'
                exact ⟨c2, q.st.length, by simp, by rw [new, old i (by omega)]; exact .inl rfl⟩
            · omega
theorem BI.inn {A B : List (List Int)} {m : Int} {most a : Nat} {q : Qs} (h : BI A B a 0 q) (hq : QOk A B most q) (hT : Two A B m) (ha : a < q.st.length) : ∀ k q', k ≤ A.length → innQ A B most a q k = .go q' → BI A B a k q'
  | 0, q', _, e => by cases e; exact h
  | k + 1, q', hk, e => by
    rw [innQ] at e
    cases c : innQ A B most a q k with
    | go q1 =>
      rw [c] at e
      obtain ⟨h1, h2⟩ := inn_ok hq hT ha k q1 (by omega) c
      exact (BI.inn h hq hT ha k q1 (by omega) c).turn h1 hT (by omega) (by omega) e
    | row q1 i1 k1 => rw [c] at e; cases e
    | opn n => rw [c] at e; cases e
theorem BI.out {A B : List (List Int)} {m : Int} {most : Nat} (hT : Two A B m) : ∀ i q, outQ A B most i = .go q → BI A B i 0 q
  | 0, q, e => by cases e; exact BI.zero
  | i + 1, q, e => by
    rw [outQ] at e
    cases c : outQ A B most i with
    | go q1 =>
      rw [c] at e
      dsimp only at e
      have h1 := out_ok hT i q1 c
      have h2 := BI.out hT i q1 c
      by_cases z : i < q1.st.length
      · rw [if_pos z] at e
        exact (h2.inn h1 hT z A.length q (Nat.le_refl _) e).next fun j w y => ((inn_ok h1 hT z A.length q (Nat.le_refl _) e).1.wk j w y).2
      · rw [if_neg z] at e; cases e; exact h2.stay (by omega)
    | row q1 i1 k1 => rw [c] at e; cases e
    | opn n => rw [c] at e; cases e
/-- the first beginning that is even -/
theorem first_even {A B : List (List Int)} {r : List Int} (hr : r ≠ []) (h : runL A B bg0 r = some bg0) : ∃ t, 1 ≤ t ∧ t ≤ r.length ∧ runL A B bg0 (r.take t) = some bg0 ∧ ∀ u, 1 ≤ u → u < t → runL A B bg0 (r.take u) ≠ some bg0 := by
  have hl : 1 ≤ r.length := List.length_pos_iff.mpr hr
  obtain ⟨t, h1, h2, h3⟩ := st_least (p := fun t => 1 ≤ t ∧ runL A B bg0 (r.take t) = some bg0) r.length ⟨hl, by rw [List.take_length]; exact h⟩
  exact ⟨t, h2.1, h1, h2.2, fun u u1 u2 y => h3 u u2 ⟨u1, y⟩⟩
theorem snoc_of {r : List Int} (h : r ≠ []) : ∃ r0 k, r = r0 ++ [k] := ⟨r.dropLast, r.getLast h, (List.dropLast_concat_getLast h).symm⟩
/-- what can come behind a row that stands ahead of the one that is asked -/
theorem BI.reach {A B : List (List Int)} {most a k : Nat} {q : Qs} (h : BI A B a k q) (hq : QOk A B most q) (ha : a < q.st.length) : ∀ (n : Nat) (r : List Int) (s : St2), r.length = n → InN A r → slt r (wayQ q.wy a ++ [(k : Int)]) → runL A B bg0 r = some s → (∀ u, 1 ≤ u → u ≤ r.length → runL A B bg0 (r.take u) ≠ some bg0) →
    (∃ i, q.st[i]? = some s ∧ sle (wayQ q.wy i) r) := fun n => by
  induction n with
  | zero =>
    intro r s hl _ _ hr _
    obtain rfl := List.eq_nil_of_length_eq_zero hl
    cases hr
    exact ⟨0, by rw [hq.cons]; rfl, .inl rfl⟩
  | succ n ih =>
    intro r s hl hn hlt hr hno
    obtain ⟨r0, j, rfl⟩ := snoc_of (r := r) (fun z => by rw [z] at hl; cases hl)
    have hl0 : r0.length = n := by simpa using hl
    rw [runL_snoc] at hr
    obtain ⟨s0, hs0, hb⟩ := Option.bind_eq_some_iff.mp hr
    obtain ⟨j0, j1⟩ := hn j (by simp)
    obtain ⟨jn, rfl⟩ := Int.eq_ofNat_of_zero_le j0
    obtain ⟨i, hi, hle⟩ := ih r0 s0 hl0 (fun v hv => hn v (List.mem_append_left _ hv)) (slt_trans slt_pre hlt) hs0 (fun u u1 u2 y => hno u u1 (by simp; omega) (by rw [List.take_append_of_le_length (by omega)]; exact y))
    have hpr : i < a ∨ i = a ∧ jn < k := by
      rcases Nat.lt_trichotomy i a with z | z | z
      · exact .inl z
      · subst z
        refine .inr ⟨rfl, ?_⟩
        rcases hle with e | e
        · rw [← e] at hlt; have := slt_snoc_iff hlt; omega
        · exact absurd (slt_trans (slt_snoc e _ _) hlt) slt_irr
      · exact absurd (slt_trans (slt_snoc (slt_sle (h.mono a i z (List.getElem?_eq_some_iff.mp hi).1) hle) k jn) hlt) slt_irr
    obtain ⟨_, i', d2, d3⟩ := h.done i s0 jn s hi (by omega) hpr hb
    exact ⟨i', d2, sle_trans d3 (sle_snoc hle _)⟩
/-- a row that is told is the first alike row -/
theorem BI.least {A B : List (List Int)} {most a k : Nat} {q : Qs} {s : St2} (h : BI A B a k q) (hq : QOk A B most q) (ha : q.st[a]? = some s) (hk : k < A.length) (hb : behF s.1 s.2 (wAt A k) (wAt B k) = some bg0) :
    runL A B bg0 (wayQ q.wy a ++ [(k : Int)]) = some bg0 ∧ InN A (wayQ q.wy a ++ [(k : Int)]) ∧ ∀ r, InN A r → r ≠ [] → runL A B bg0 r = some bg0 → sle (wayQ q.wy a ++ [(k : Int)]) r := by
  have hal := (List.getElem?_eq_some_iff.mp ha).1
  obtain ⟨w1, w2⟩ := h.run a s ha
  refine ⟨by rw [runL_snoc, w1]; exact hb, fun v hv => ?_, fun r hn hne hr => ?_⟩
  · rcases List.mem_append.mp hv with y | y
    · exact w2 v y
    · rw [List.mem_singleton] at y; omega
  · rcases slt_total (wayQ q.wy a ++ [(k : Int)]) r with z | z
    · exact z
    · exfalso
      obtain ⟨t, t1, t2, t3, t4⟩ := first_even hne hr
      have z2 := sle_slt (sle_take r t) z
      have hlt : (r.take t).length = t := by rw [List.length_take]; omega
      obtain ⟨r0, j, e⟩ := snoc_of (r := r.take t) (fun y => by rw [y] at hlt; simp at hlt; omega)
      have hl0 : r0.length + 1 = t := by rw [← hlt, e]; simp
      rw [e] at t3 z2
      rw [runL_snoc] at t3
      obtain ⟨s0, hs0, hb0⟩ := Option.bind_eq_some_iff.mp t3
      have hn' : InN A (r0 ++ [j]) := e ▸ fun v hv => hn v (List.mem_of_mem_take hv)
      obtain ⟨j0, j1⟩ := hn' j (by simp)
      obtain ⟨jn, rfl⟩ := Int.eq_ofNat_of_zero_le j0
      have hr0 : ∀ u, u ≤ r0.length → r0.take u = r.take u := fun u hu => by
        have : (r.take t).take u = r.take u := by rw [List.take_take, Nat.min_eq_left (by omega)]
        rw [← this, e, List.take_append_of_le_length hu]
      obtain ⟨i, hi, hle⟩ := h.reach hq hal r0.length r0 s0 rfl (fun v hv => hn' v (List.mem_append_left _ hv)) (slt_trans slt_pre z2) hs0 (fun u u1 u2 y => t4 u u1 (by omega) (by rw [← hr0 u u2]; exact y))
      have hpr : i < a ∨ i = a ∧ jn < k := by
        rcases Nat.lt_trichotomy i a with y | y | y
        · exact .inl y
        · subst y
          refine .inr ⟨rfl, ?_⟩
          rcases hle with e | e
          · rw [← e] at z2; have := slt_snoc_iff z2; omega
          · exact absurd (slt_trans (slt_snoc e _ _) z2) slt_irr
        · exact absurd (slt_trans (slt_snoc (slt_sle (h.mono a i y (List.getElem?_eq_some_iff.mp hi).1) hle) k jn) z2) slt_irr
      exact (h.done i s0 jn bg0 hi (by omega) hpr hb0).1 rfl
/-- where all is asked, no row is alike -/
theorem BI.all {A B : List (List Int)} {most a : Nat} {q : Qs} (h : BI A B a 0 q) (hq : QOk A B most q) (hl : q.st.length ≤ a) : ∀ (n : Nat) (r : List Int), r.length = n → InN A r → ∀ s, runL A B bg0 r = some s → s ∈ q.st ∧ (r ≠ [] → s ≠ bg0) := fun n => by
  induction n with
  | zero =>
    intro r hr _ s hs
    obtain rfl := List.eq_nil_of_length_eq_zero hr
    cases hs
    exact ⟨by rw [hq.cons]; exact List.mem_cons_self .., fun z => absurd rfl z⟩
  | succ n ih =>
    intro r hr hn s hs
    obtain ⟨r0, j, rfl⟩ := snoc_of (r := r) (fun z => by rw [z] at hr; cases hr)
    rw [runL_snoc] at hs
    obtain ⟨s0, hs0, hb⟩ := Option.bind_eq_some_iff.mp hs
    obtain ⟨j0, j1⟩ := hn j (by simp)
    obtain ⟨jn, rfl⟩ := Int.eq_ofNat_of_zero_le j0
    obtain ⟨m1, _⟩ := ih r0 (by simpa using hr) (fun v hv => hn v (List.mem_append_left _ hv)) s0 hs0
    obtain ⟨i, hi⟩ := List.getElem?_of_mem m1
    obtain ⟨d1, i', d2, _⟩ := h.done i s0 jn s hi (by omega) (.inl (by have := (List.getElem?_eq_some_iff.mp hi).1; omega)) hb
    exact ⟨List.mem_of_getElem? d2, fun _ => d1⟩
/-! ### what the search tells -/
theorem turn_row {A B : List (List Int)} {most a k : Nat} {q q' : Qs} {i j : Nat} (e : turnQ A B most a k q = .row q' i j) : q' = q ∧ i = a ∧ j = k ∧ behF (q.st.getD a bg0).1 (q.st.getD a bg0).2 (wAt A k) (wAt B k) = some bg0 := by
  unfold turnQ at e
  cases hb : behF (q.st.getD a bg0).1 (q.st.getD a bg0).2 (wAt A k) (wAt B k) with
  | none => rw [hb] at e; cases e
  | some p =>
    rw [hb] at e
    dsimp only at e
    by_cases c1 : p ∈ q.st.tail
    · rw [if_pos c1] at e; cases e
    · rw [if_neg c1] at e
      by_cases c2 : p = bg0
      · rw [if_pos c2] at e; cases e; exact ⟨rfl, rfl, rfl, by rw [c2]⟩
      · rw [if_neg c2] at e
        by_cases c3 : q.wy.length = most ∨ 5000 < p.1.length + p.2.length
        · rw [if_pos c3] at e; cases e
        · rw [if_neg c3] at e; cases e
theorem turn_opn {A B : List (List Int)} {most a k : Nat} {q q' : Qs} (e : turnQ A B most a k q = .opn q') : q' = q ∧ ∃ p, behF (q.st.getD a bg0).1 (q.st.getD a bg0).2 (wAt A k) (wAt B k) = some p ∧ (q.wy.length = most ∨ 5000 < p.1.length + p.2.length) := by
  unfold turnQ at e
  cases hb : behF (q.st.getD a bg0).1 (q.st.getD a bg0).2 (wAt A k) (wAt B k) with
  | none => rw [hb] at e; cases e
  | some p =>
    rw [hb] at e
    dsimp only at e
    by_cases c1 : p ∈ q.st.tail
    · rw [if_pos c1] at e; cases e
    · rw [if_neg c1] at e
      by_cases c2 : p = bg0
      · rw [if_pos c2] at e; cases e
      · rw [if_neg c2] at e
        by_cases c3 : q.wy.length = most ∨ 5000 < p.1.length + p.2.length
        · rw [if_pos c3] at e; cases e; exact ⟨rfl, p, rfl, c3⟩
        · rw [if_neg c3] at e; cases e
/-- how the inner loop leaves -/
theorem inn_leave {A B : List (List Int)} {most a : Nat} {q : Qs} : ∀ n r, innQ A B most a q n = r → r.isGo = false → ∃ k q1, k < n ∧ innQ A B most a q k = .go q1 ∧ turnQ A B most a k q1 = r
  | 0, r, e, h => by subst e; cases h
  | n + 1, r, e, h => by
    rw [innQ] at e
    cases c : innQ A B most a q n with
    | go q1 => rw [c] at e; exact ⟨n, q1, Nat.lt_succ_self n, c, e⟩
    | row q1 i1 k1 =>
      rw [c] at e
      obtain ⟨k, q2, h1, h2, h3⟩ := inn_leave n _ c rfl
      exact ⟨k, q2, by omega, h2, by rw [h3]; exact e⟩
    | opn n1 =>
      rw [c] at e
      obtain ⟨k, q2, h1, h2, h3⟩ := inn_leave n _ c rfl
      exact ⟨k, q2, by omega, h2, by rw [h3]; exact e⟩
theorem out_leave {A B : List (List Int)} {most : Nat} : ∀ n r, outQ A B most n = r → r.isGo = false → ∃ a q, a < n ∧ outQ A B most a = .go q ∧ a < q.st.length ∧ innQ A B most a q A.length = r
  | 0, r, e, h => by subst e; cases h
  | n + 1, r, e, h => by
    rw [outQ] at e
    cases c : outQ A B most n with
    | go q1 =>
      rw [c] at e
      dsimp only at e
      by_cases z : n < q1.st.length
      · rw [if_pos z] at e; exact ⟨n, q1, Nat.lt_succ_self n, c, z, e⟩
      · rw [if_neg z] at e; subst e; cases h
    | row q1 i1 k1 =>
      rw [c] at e
      obtain ⟨k, q2, h1, h2, h3, h4⟩ := out_leave n _ c rfl
      exact ⟨k, q2, by omega, h2, h3, by rw [h4]; exact e⟩
    | opn n1 =>
      rw [c] at e
      obtain ⟨k, q2, h1, h2, h3, h4⟩ := out_leave n _ c rfl
      exact ⟨k, q2, by omega, h2, h3, by rw [h4]; exact e⟩
theorem srch_row {A B : List (List Int)} {m : Int} {most n : Nat} {q : Qs} {i k : Nat} (hT : Two A B m) (e : outQ A B most n = .row q i k) :
    QOk A B most q ∧ i < q.st.length ∧ k < A.length ∧ runL A B bg0 (wayQ q.wy i ++ [(k : Int)]) = some bg0 ∧ InN A (wayQ q.wy i ++ [(k : Int)]) ∧ ∀ r, InN A r → r ≠ [] → runL A B bg0 r = some bg0 → sle (wayQ q.wy i ++ [(k : Int)]) r := by
  obtain ⟨a, q0, h1, h2, h3, h4⟩ := out_leave n _ e rfl
  obtain ⟨k1, q1, g1, g2, g3⟩ := inn_leave A.length _ h4 rfl
  obtain ⟨rfl, rfl, rfl, hb⟩ := turn_row g3
  have o1 := out_ok hT _ q0 h2
  have b1 := BI.out hT _ q0 h2
  obtain ⟨o2, o3⟩ := inn_ok o1 hT h3 k q (by omega) g2
  have b2 := b1.inn o1 hT h3 k q (by omega) g2
  have hi : i < q.st.length := by omega
  exact ⟨o2, hi, g1, b2.least o2 (o2.at hi).2 g1 hb⟩
theorem srch_none {A B : List (List Int)} {m : Int} {most : Nat} {q : Qs} (hT : Two A B m) (e : outQ A B most (most + 2) = .go q) : QOk A B most q ∧ ∀ r, InN A r → ∀ s, runL A B bg0 r = some s → s ∈ q.st ∧ (r ≠ [] → s ≠ bg0) := by
  have o1 := out_ok hT _ q e
  have b1 := BI.out hT _ q e
  have := o1.len
  have := o1.few
  exact ⟨o1, fun r hn s hs => b1.all o1 (by omega) r.length r rfl hn s hs⟩
/-- a list of rests that is told is closed -/
theorem srch_closed {A B : List (List Int)} {m : Int} {most : Nat} {q : Qs} (hT : Two A B m) (e : outQ A B most (most + 2) = .go q) {s p : St2} {j : Nat} (hs : s ∈ q.st) (hj : j < A.length) (hb : behF s.1 s.2 (wAt A j) (wAt B j) = some p) : p ∈ q.st.tail := by
  have o1 := out_ok hT _ q e
  have b1 := BI.out hT _ q e
  have h1 := o1.len
  have h2 := o1.few
  obtain ⟨i, hi⟩ := List.getElem?_of_mem hs
  have hil := (List.getElem?_eq_some_iff.mp hi).1
  obtain ⟨d1, i', d2, _⟩ := b1.done i s j p hi hj (.inl (by omega)) hb
  have := List.mem_of_getElem? d2
  rw [o1.cons] at this
  rcases List.mem_cons.mp this with z | z
  · exact absurd z d1
  · exact z
/-- rests stay small where words are -/
abbrev SmQ (W : Nat) (q : Qs) : Prop := ∀ i s, q.st[i]? = some s → s.1.length + s.2.length ≤ W * i
theorem small_turn {A B : List (List Int)} {most W a k : Nat} {q q' : Qs} (hW : ∀ k : Nat, k < A.length → (wAt A k).length ≤ W ∧ (wAt B k).length ≤ W) (hk : k < A.length) (ha : a < q.st.length) (h : SmQ W q) (e : turnQ A B most a k q = .go q') : SmQ W q' := by
  unfold turnQ at e
  have sa : q.st[a]? = some (q.st.getD a bg0) := by rw [List.getD_eq_getElem?_getD, List.getElem?_eq_getElem ha]; rfl
  generalize q.st.getD a bg0 = s at e sa
  cases hb : behF s.1 s.2 (wAt A k) (wAt B k) with
  | none => rw [hb] at e; cases e; exact h
  | some p =>
    rw [hb] at e
    dsimp only at e
    by_cases c1 : p ∈ q.st.tail
    · rw [if_pos c1] at e; cases e; exact h
    · rw [if_neg c1] at e
      by_cases c2 : p = bg0
      · rw [if_pos c2] at e; cases e
      · rw [if_neg c2] at e
        by_cases c3 : q.wy.length = most ∨ 5000 < p.1.length + p.2.length
        · rw [if_pos c3] at e; cases e
        · rw [if_neg c3] at e; cases e
          intro i s' hs
          have hs : (q.st ++ [p])[i]? = some s' := hs
          rcases Nat.lt_or_ge i q.st.length with z | z
          · rw [List.getElem?_append_left z] at hs; exact h i s' hs
          · rw [List.getElem?_append_right z] at hs
            have : i - q.st.length = 0 := by
              cases y : i - q.st.length with
              | zero => rfl
              | succ y' => rw [y] at hs; simp at hs
            rw [this] at hs; cases hs
            have h0 := h a s sa
            have h1 := behF_sum hb
            obtain ⟨w1, w2⟩ := hW k hk
            have h2 : W * (a + 1) ≤ W * i := Nat.mul_le_mul_left W (by omega)
            rw [Nat.mul_succ] at h2
            omega
theorem small_inn {A B : List (List Int)} {m : Int} {most W a : Nat} {q : Qs} (hT : Two A B m) (hW : ∀ k : Nat, k < A.length → (wAt A k).length ≤ W ∧ (wAt B k).length ≤ W) (ha : a < q.st.length) (hq : QOk A B most q) (h : SmQ W q) : ∀ k q', k ≤ A.length → innQ A B most a q k = .go q' → SmQ W q'
  | 0, q', _, e => by cases e; exact h
  | k + 1, q', hk, e => by
    rw [innQ] at e
    cases c : innQ A B most a q k with
    | go q2 =>
      rw [c] at e
      have hl := (inn_ok hq hT ha k q2 (by omega) c).2
      exact small_turn hW (by omega) (by omega) (small_inn hT hW ha hq h k q2 (by omega) c) e
    | row q1 i1 k1 => rw [c] at e; cases e
    | opn n => rw [c] at e; cases e
theorem small_out {A B : List (List Int)} {m : Int} {most W : Nat} (hT : Two A B m) (hW : ∀ k : Nat, k < A.length → (wAt A k).length ≤ W ∧ (wAt B k).length ≤ W) : ∀ n q, outQ A B most n = .go q → SmQ W q
  | 0, q, e => by
    intro i s hs
    cases e
    cases i with
    | zero => cases hs; exact Nat.zero_le _
    | succ i => simp at hs
  | n + 1, q, e => by
    rw [outQ] at e
    cases c : outQ A B most n with
    | go q2 =>
      rw [c] at e
      dsimp only at e
      by_cases z : n < q2.st.length
      · rw [if_pos z] at e; exact small_inn hT hW z (out_ok hT n q2 c) (small_out hT hW n q2 c) A.length q (Nat.le_refl _) e
      · rw [if_neg z] at e; cases e; exact small_out hT hW n _ c
    | row q1 i1 k1 => rw [c] at e; cases e
    | opn n => rw [c] at e; cases e
theorem srch_opn {A B : List (List Int)} {m : Int} {most W : Nat} {q : Qs} (hT : Two A B m) (hW : ∀ k : Nat, k < A.length → (wAt A k).length ≤ W ∧ (wAt B k).length ≤ W) (hs : W * (most + 1) ≤ 5000) {n : Nat} (e : outQ A B most n = .opn q) : q.wy.length = most := by
  obtain ⟨a, q0, h1, h2, h3, h4⟩ := out_leave n _ e rfl
  obtain ⟨k1, q1, g1, g2, g3⟩ := inn_leave A.length _ h4 rfl
  obtain ⟨rfl, p, hb, hc⟩ := turn_opn g3
  rcases hc with z | z
  · exact z
  · exfalso
    have o1 := out_ok hT _ q0 h2
    obtain ⟨o2, o3⟩ := inn_ok o1 hT h3 k1 q (by omega) g2
    have sm := small_inn hT hW h3 o1 (small_out hT hW _ q0 h2) k1 q (by omega) g2 a _ (o2.at (by omega)).2
    have hs2 := behF_sum hb
    obtain ⟨w1, w2⟩ := hW k1 g1
    have hl := o1.len
    have hf := o1.few
    have h5 : W * (a + 1) ≤ W * (most + 1) := Nat.mul_le_mul_left W (by omega)
    rw [Nat.mul_succ] at h5
    omega
end K61

namespace K61
open PySem L2 Evl Mini PyProof.Rows
def evnD : PyData := .tuple [.str "even", .tuple []]
def evD (d : PyData) : Bool := match d with
  | .tuple [_, s] => PyData.eqv s evnD
  | _ => false
theorem sd_even (s : St2) : (sdS s == "even") = isBg s := by
  obtain ⟨x, y⟩ := s
  unfold sdS isBg
  by_cases c : x = []
  · rw [if_neg (fun q => q c)]
    by_cases d : y = []
    · rw [if_neg (fun q => q d), c, d]; decide +kernel
    · rw [if_pos d, decide_eq_false (fun q => d (congrArg Prod.snd q))]; decide +kernel
  · rw [if_pos c, decide_eq_false (fun q => c (congrArg Prod.fst q))]; decide +kernel
theorem eqv_rest (s : St2) : PyData.eqv (restQ s) evnD = isBg s := by
  show PyData.eqv (.tuple [.str (sdS s), .tuple ((s.1 ++ s.2).map .int)]) (.tuple [.str "even", .tuple []]) = _
  simp only [PyData.eqv, PyData.eqvAll]
  rw [sd_even]
  cases z : isBg s with
  | false => rfl
  | true =>
    have : s = ([], []) := of_decide_eq_true z
    rw [this]; rfl
theorem shaped_rest (s : St2) : SeqAt.shaped (restQ s) = true := by
  have h1 := SeqAt.canLay_of_shaped (shaped_tints (s.1 ++ s.2))
  have h0 := shaped_tints (s.1 ++ s.2)
  unfold SeqAt.shaped at h0 ⊢
  rw [Bool.and_eq_true] at h0 ⊢
  have h2 := sd_ok s
  refine ⟨?_, decide_eq_true ?_⟩
  · show PyData.canLay0 (.tuple [.str (sdS s), .tuple ((s.1 ++ s.2).map .int)]) = true
    have h3 := h0.1
    rw [PyData.canLay0] at h3
    simp only [PyData.canLay0, PyData.canLayAll0, h2, h3, Bool.and_true, Bool.true_and]
  · have h4 := of_decide_eq_true h0.2
    have e : ∀ ns : List Int, PyData.depthAll (ns.map .int) = 0 := fun ns => by
      induction ns with
      | nil => rfl
      | cons n ns ih => simp [PyData.depthAll, PyData.depth, ih]
    have e2 : PyData.depth (.tuple ((s.1 ++ s.2).map .int)) = 1 := by rw [PyData.depth, e]
    show PyData.depth (.tuple [.str (sdS s), .tuple ((s.1 ++ s.2).map .int)]) ≤ _
    rw [PyData.depth, PyData.depthAll, PyData.depthAll, PyData.depthAll, e2, PyData.depth]
    decide
theorem shaped_evn : SeqAt.shaped evnD = true := shaped_rest ([], [])
def metD : Rz → PyData
  | .go q => .tuple [.str "none", .list (q.st.tail.map restQ)]
  | .row q _ _ => .tuple [.str "row", .list (q.st.tail.map restQ)]
  | .opn q => .tuple [.str "open", .list (q.st.tail.map restQ)]
theorem restQ_one {s : St2} (h : s.1 = [] ∨ s.2 = []) : s = (if sdS s = "first" then (s.1 ++ s.2, []) else ([], s.1 ++ s.2)) := by
  obtain ⟨x, y⟩ := s
  by_cases c : x = []
  · subst c
    rw [if_neg]
    · rfl
    · unfold sdS
      rw [if_neg (fun q => q rfl)]
      split <;> decide +kernel
  · have e : y = [] := h.resolve_left c
    subst e
    rw [if_pos (by unfold sdS; rw [if_pos c])]
    simp
theorem eqv_restQ {s t : St2} (hs : s.1 = [] ∨ s.2 = []) (ht : t.1 = [] ∨ t.2 = []) : PyData.eqv (restQ s) (restQ t) = decide (s = t) := by
  by_cases c : s = t
  · subst c
    rw [decide_eq_true rfl]
    show PyData.eqv (.tuple [.str (sdS s), .tuple ((s.1 ++ s.2).map .int)]) (.tuple [.str (sdS s), .tuple ((s.1 ++ s.2).map .int)]) = true
    simp only [PyData.eqv, PyData.eqvAll]
    have := eqv_tints (s.1 ++ s.2) (s.1 ++ s.2)
    rw [decide_eq_true rfl] at this
    simp only [PyData.eqv] at this
    rw [this]; simp
  · rw [decide_eq_false c]
    refine Bool.eq_false_iff.mpr fun z => c ?_
    have z : PyData.eqv (.tuple [.str (sdS s), .tuple ((s.1 ++ s.2).map .int)]) (.tuple [.str (sdS t), .tuple ((t.1 ++ t.2).map .int)]) = true := z
    have e2 := eqv_tints (s.1 ++ s.2) (t.1 ++ t.2)
    simp only [PyData.eqv, PyData.eqvAll] at z e2
    rw [e2] at z
    simp only [Bool.and_eq_true, beq_iff_eq, decide_eq_true_eq, Bool.and_true] at z
    rw [restQ_one hs, restQ_one ht, z.1, z.2]
theorem canLay_rests (L : List St2) : PyData.canLayAll0 (L.map restQ) = true := by
  induction L with
  | nil => rfl
  | cons s L ih =>
    show PyData.canLayAll0 (restQ s :: L.map restQ) = true
    rw [PyData.canLayAll0, ih, Bool.and_true]
    exact SeqAt.canLay_of_shaped (shaped_rest s)
theorem any_rests {L : List St2} {p : St2} (hL : ∀ s ∈ L, s.1 = [] ∨ s.2 = []) (hp : p.1 = [] ∨ p.2 = []) : ((L.map restQ).any fun z => PyData.eqv z (restQ p)) = decide (p ∈ L) := by
  have e : ((L.map restQ).any fun z => PyData.eqv z (restQ p)) = true ↔ p ∈ L := by
    rw [List.any_map, List.any_eq_true]
    constructor
    · rintro ⟨s, hs, h⟩
      have h : PyData.eqv (restQ s) (restQ p) = true := h
      rw [eqv_restQ (hL s hs) hp] at h
      exact of_decide_eq_true h ▸ hs
    · intro h
      refine ⟨p, h, ?_⟩
      show PyData.eqv (restQ p) (restQ p) = true
      rw [eqv_restQ hp hp, decide_eq_true rfl]
  by_cases c : p ∈ L
  · rw [e.mpr c, decide_eq_true c]
  · rw [decide_eq_false c]; exact Bool.eq_false_iff.mpr fun z => c (e.mp z)
theorem depth_rest (s : St2) : (restQ s).depth ≤ 10 := by
  have e : ∀ ns : List Int, PyData.depthAll (ns.map .int) = 0 := fun ns => by
    induction ns with
    | nil => rfl
    | cons n ns ih => simp [PyData.depthAll, PyData.depth, ih]
  have e2 : PyData.depth (.tuple ((s.1 ++ s.2).map .int)) = 1 := by rw [PyData.depth, e]
  show PyData.depth (.tuple [.str (sdS s), .tuple ((s.1 ++ s.2).map .int)]) ≤ _
  rw [PyData.depth, PyData.depthAll, PyData.depthAll, PyData.depthAll, e2, PyData.depth]
  decide
structure MtOk (A B : List (List Int)) (m : Int) (W most : Nat) : Prop where
  two : Two A B m
  sm : ∀ k : Nat, k < A.length → (wAt A k).length ≤ W ∧ (wAt B k).length ≤ W
  fit : W * (most + 1) ≤ 5000
  mo : most ≤ 5000
section
variable {P : Program} {w : World} {K : PySem.W.Frag} {mg : Str → Option Value} {base : Heap} {cAE cBB cBN cBR cTL cBk cPr aE0 aEV aBG : Addr}
/-! ### _law_met -/
def S_lmet : Fs := ⟨{x : (List (List Int) × List (List Int)) × Nat // ∃ m W, MtOk x.1.1 x.1.2 m W x.2}, 3, fun x => [.im (isD (.list (wD x.1.1.1))), .im (isD (.list (wD x.1.1.2))), .im (isD (.int (x.1.2 : Int)))], fun _ => rfl, fun x => .ok (isD (metD (outQ x.1.1.1 x.1.1.2 x.1.2 (x.1.2 + 2))))⟩
abbrev st__law_met : Stmt := top 41
theorem sc__law_met : FnScope ["first", "second", "most", "met", "waiting", "at", "number", "rest"] ["first", "second", "most"] (defScope st__law_met) := ⟨rfl, rfl, rfl, by decide +kernel, rfl, by decide +kernel, by decide +kernel⟩
theorem ok__law_met {f : Addr} {fd : FuncData} (T : Txt K mg cAE cBB cBN cBR cTL cBk cPr aE0 aEV aBG) (F__law_step : FnC P w K mg base 1 "_law_step" (spF (S_lstep))) (F : Fun K "_law_met" "_law_met" st__law_met f fd) : FnOk P w K mg base (L2.CX P w) 2 f fd ["first", "second", "most"] (spF (S_lmet)) := by
  refine fn_ok F sc__law_met rfl fun cdv A outer s H E hr => ?_
  have tk : Takes (cxD P w K mg base ["first", "second", "most", "met", "waiting", "at", "number", "rest"] "_law_met" st__law_met f cdv A outer s H E) (fun cls d _ H => E cls d H) := takes_of rfl rfl rfl rfl
  have hx := pxM tk
  have nd := sc__law_met.nd
  refine ⟨_, (pss_cons (ps_par (i := 3) (j := 4) rfl nd rfl rfl (by decide) rfl rfl (pa_cons (pe_lst pa_nil) (pa_cons (pe_lst (pa_cons (pe_tup (pa_cons pe_str (pa_cons (pe_tup pa_nil) pa_nil))) pa_nil)) pa_nil)) (by rfl))
 (pss_cons (ps_for (passes_of rfl) rfl (pi_range1 (by rfl) T.no_range (pa_cons (pe_op op_uAdd (pv 2) pe_int) pa_nil)) (pg_name (i := 5) nd rfl (Or.inl rfl)) (pss_cons (ps_if (pt_cmpR op_ge (pv 5) (pe_callB call_len (by rfl) T.no_len (by decide +kernel) (pa_cons (pv 4) pa_nil)) (nomark _)) (pss_one (ps_ret (pe_tup (pa_cons pe_str (pa_cons (pv 3) pa_nil))))) pss_nil)
 (pss_one (ps_for (passes_of rfl) rfl (pi_range1 (by rfl) T.no_range (pa_cons (pe_callB call_len (by rfl) T.no_len (by decide +kernel) (pa_cons (pv 0) pa_nil)) pa_nil)) (pg_name (i := 6) nd rfl (Or.inl rfl)) (pss_cons (ps_set (i := 7) nd rfl (Or.inl rfl) (pe_fn F__law_step hr hx (pa_cons (pv 0) (pa_cons (pv 1) (pa_cons (pe_ix ix_seq (pv 4) (pv 5) (fun _ _ => rfl)) (pa_cons (pv 6) pa_nil))))))
 (pss_cons (ps_if (pt_cmpR (op_eqD hr.units) (pv 7) (pe_tup (pa_cons pe_str (pa_cons (pe_tup pa_nil) pa_nil))) (nomark _)) (pss_one (ps_ret (pe_tup (pa_cons pe_str (pa_cons (pv 3) pa_nil))))) pss_nil)
 (pss_one (ps_if (PW.pt (pw_and (pt_cmpR op_notN (pv 7) pe_non (nomark _)) (pw_and1 (pt_cmpR (op_notInD hr.units) (pv 7) (pv 3) (by rfl))))) (pss_cons (ps_if (pt_cmpR (op_eqD hr.units) (pe_callB call_len (by rfl) T.no_len (by decide +kernel) (pa_cons (pv 3) pa_nil)) (pv 2) (nomark _)) (pss_one (ps_ret (pe_tup (pa_cons pe_str (pa_cons (pv 3) pa_nil))))) pss_nil)
 (pss_cons (ps_expr (pe_bm PySem.F.plainAttrs_list PySem.F.slot_list_append PySem.F.type_list_append mt_append (pv 3) (pa_cons (pv 7) pa_nil)))
 (pss_one (ps_expr (pe_bm PySem.F.plainAttrs_list PySem.F.slot_list_append PySem.F.type_list_append mt_append (pv 4) (pa_cons (pv 7) pa_nil)))))) pss_nil))))))))
 (pss_one (ps_ret (pe_tup (pa_cons pe_str (pa_cons (pv 3) pa_nil))))))), ?_⟩
  intro x
  obtain ⟨⟨⟨A, B⟩, most⟩, m, W, hM⟩ := x
  have hM : MtOk A B m W most := hM
  have hz : (sizeLine : Nat) = 16777216 := sizeLine_eq
  have hT := hM.two
  have hA : A.length ≤ 60 := hT.a.1
  have hAB := hT.len
  have hmost := hM.mo
  have eA : (wD A).length = A.length := by unfold wD; rw [List.length_map]
  obtain ⟨N, hN, hgo, hlt, hend⟩ := out_end hT (most := most)
  show Mini.Ans _ _ [.im (isD (.list (wD A))), .im (isD (.list (wD B))), .im (isD (.int (most : Int))), .no, .no, .no, .no, .no] (.ok (isD (metD (outQ A B most (most + 2)))))
  let Gc : Qs → Sl → Sl → Sl → Gm := fun q x5 x6 x7 => [.im (isD (.list (wD A))), .im (isD (.list (wD B))), .im (isD (.int (most : Int))), .ow (isL (q.st.tail.map restQ)), .ow (isL (q.st.map restQ)), x5, x6, x7]
  let Gi : Nat → Gm := fun a => Gc (outQ A B most a).q .no .no .no
  have evn : ∀ {G : Gm}, Sv (tTup (tCons (tC (.str "even")) (tCons (tTup tNil) tNil))) G (isD evnD) := sv_tt sv_str (sv_tup (ds := []) sa_nil (Nat.zero_le _))
  refine .ok (ss_seq (G1 := Gi 0) (ss_parLL (svl_lst (ds := []) sa_nil (Nat.zero_le _)) (svl_lst (ds := [evnD]) (sa_ims evn sa_nil) (by show 1 ≤ sizeLine; decide))) (ss_seqRt ?_))
  have okq : ∀ a, a ≤ N → QOk A B most (outQ A B most a).q := fun a ha => out_ok hT a _ (isGo_q (hgo a ha))
  refine ss_forR' (n := (most : Int) + 2) (sv_add (sv_var rfl) sv_int) (by omega) Gi N (by omega) (Le.refl _) (fun _ _ => Nat.le_of_ble_eq_true rfl) (fun a _ ha => ?_) fun e => by omega
  have hq := okq a ha
  have ego := isGo_q (hgo a ha)
  have hlen := hq.len
  have hfew := hq.few
  have tw : St' (tB (tOp (rI0 fun i j => .bl (decide (j ≤ i))) (tVar 5) (tCB (fun xs H Q => ∃ x n, xs = [x] ∧ LenV K x H n ∧ Q (.int n) H) (tCons (tVar 4) tNil)))) (Gc (outQ A B most a).q (.im (isD (.int (a : Int)))) .no .no) (decide ((outQ A B most a).q.st.length ≤ a)) :=
    st_is (st_B (sv_cmp (g := fun i j => decide (j ≤ i)) (sv_var rfl) (sv_is (sv_lenL (ds := (outQ A B most a).q.st.map restQ) (rl_ow rfl)) (by rw [List.length_map])))) (decide_eq_decide.mpr ⟨fun z => by omega, fun z => by omega⟩)
  by_cases c : (outQ A B most a).q.st.length ≤ a
  · have aN : a = N := by
      rcases Nat.lt_or_ge a N with y | y
      · have := hlt a y; omega
      · omega
    refine .inr ⟨aN, _, ss_seqRt (ss_if1 (st_is tw (decide_eq_true c)) (ss_freeze (n := 3) rfl (ss_ret (sv_is (sv_tt (d := .str "none") (e := .list ((outQ A B most a).q.st.tail.map restQ)) sv_str (sv_var rfl)) ?_)))), .rt⟩
    subst aN
    rcases hend with ⟨_, y⟩ | ⟨y, _⟩
    · rw [y, ego]; rfl
    · omega
  have hal : a < (outQ A B most a).q.st.length := by omega
  have e1 : outQ A B most (a + 1) = innQ A B most a (outQ A B most a).q A.length := by
    rw [outQ, ego]
    exact if_pos hal
  have hsm := small_out hT hM.sm a _ ego
  have hN' : a = N → (outQ A B most (a + 1)).isGo = false ∧ outQ A B most (most + 2) = outQ A B most (a + 1) := by
    rintro rfl
    rcases hend with ⟨y, _⟩ | ⟨_, y2, y3⟩
    · omega
    · exact ⟨y2, y3⟩
  show _ ∧ Turn _ _ (Gc (outQ A B most a).q (.im (isD (.int (a : Int)))) .no .no) _ ∨ _ ∧ ∃ o', Ss _ _ (Gc (outQ A B most a).q (.im (isD (.int (a : Int)))) .no .no) o' ∧ _
  generalize (outQ A B most a).q = q at hq hal e1 tw c hlen hfew hsm ⊢
  have hback : ∀ k j, j ≤ k → (innQ A B most a q k).isGo = true → (innQ A B most a q j).isGo = true := fun k j => by
    induction k with
    | zero => intro h1 h2; obtain rfl : j = 0 := by omega
              exact h2
    | succ k ih =>
      intro h1 h2
      rcases Nat.lt_or_ge j (k + 1) with y | y
      · exact ih (by omega) (inn_back h2)
      · obtain rfl : j = k + 1 := by omega
        exact h2
  have hleft : ∀ k, (innQ A B most a q k).isGo = false → ∀ j, innQ A B most a q (k + j) = innQ A B most a q k := fun k hk j => by
    induction j with
    | zero => rfl
    | succ j ih =>
      show innQ A B most a q (k + j + 1) = _
      rw [innQ, ih]
      cases c : innQ A B most a q k with
      | go q => rw [c] at hk; cases hk
      | row q i1 k1 => rfl
      | opn n => rfl
  obtain ⟨N2, hN2, hgo2, hc2⟩ : ∃ N2, N2 ≤ A.length ∧ (∀ k, k ≤ N2 → (innQ A B most a q k).isGo = true) ∧ (N2 = A.length ∨ N2 < A.length ∧ (innQ A B most a q (N2 + 1)).isGo = false) := by
    by_cases c : (innQ A B most a q A.length).isGo = true
    · exact ⟨A.length, Nat.le_refl _, fun k hk => hback _ k hk c, .inl rfl⟩
    · obtain ⟨n, n1, n2, n3⟩ := st_least (p := fun n => ¬ (innQ A B most a q n).isGo = true) A.length c
      cases n with
      | zero => exact absurd rfl n2
      | succ n => exact ⟨n, by omega, fun k hk => Classical.byContradiction fun z => n3 k (by omega) z, .inr ⟨by omega, Bool.eq_false_iff.mpr n2⟩⟩
  let o2 : Out := if N2 = A.length then .nx (Gi (a + 1)) else .rt (isD (metD (innQ A B most a q (N2 + 1))))
  suffices hS : Ss _ _ (Gc q (.im (isD (.int (a : Int)))) .no .no) o2 by
    by_cases c : N2 = A.length
    · rw [show o2 = .nx (Gi (a + 1)) from if_pos c] at hS
      refine .inl ⟨?_, .inl hS⟩
      rcases Nat.lt_or_ge a N with y | y
      · exact y
      · have y2 := (hN' (by omega)).1
        rw [e1, ← c, hgo2 N2 (Nat.le_refl _)] at y2; cases y2
    · rw [show o2 = _ from if_neg c] at hS
      rcases hc2 with y | ⟨y1, y2⟩
      · exact absurd y c
      have e3 : innQ A B most a q A.length = innQ A B most a q (N2 + 1) := by
        have := hleft (N2 + 1) y2 (A.length - (N2 + 1))
        rwa [show N2 + 1 + (A.length - (N2 + 1)) = A.length from by omega] at this
      have aN : a = N := by
        rcases Nat.lt_or_ge a N with y | y
        · have := hgo (a + 1) y
          rw [e1, e3, y2] at this; cases this
        · omega
      refine .inr ⟨aN, _, hS, ?_⟩
      rw [(hN' aN).2, e1, e3]
      exact .rt
  have lA : Sv (tCB (fun xs H Q => ∃ x n, xs = [x] ∧ LenV K x H n ∧ Q (.int n) H) (tCons (tVar 0) tNil)) (Gc q (.im (isD (.int (a : Int)))) .no .no) (isD (.int ((A.length : Nat) : Int))) := sv_is (sv_lenL (ds := wD A) (rl_sv (sv_var rfl))) (by rw [eA])
  let o1 : Out := if N2 = A.length then .nx (Gc (innQ A B most a q N2).q (.im (isD (.int (a : Int)))) .no .no) else .rt (isD (metD (innQ A B most a q (N2 + 1))))
  have wk : ∀ {tu : TS} {G : Gm}, Ss (fun _ => E) tu G o1 → Ss (fun _ => E) tu G o2 := fun {tu G} h => by
    by_cases c : N2 = A.length
    · rw [show o1 = _ from if_pos c] at h
      rw [show o2 = .nx (Gc (outQ A B most (a + 1)).q .no .no .no) from if_pos c, e1, ← c]
      exact ss_nxLe h (by repeat first | exact Le.nil | refine Le.eq ?_ | refine Le.no ?_)
    · rw [show o1 = _ from if_neg c] at h
      rw [show o2 = _ from if_neg c]; exact h
  refine ss_seq (ss_if0 (st_is tw (decide_eq_false c)) ss_next) (wk (ss_forR' (o := o1) (n := (A.length : Int)) lA (by omega) (fun k => Gc (innQ A B most a q k).q (.im (isD (.int (a : Int)))) .no .no) N2 (by omega) (Le.refl _) (fun _ _ => Nat.le_of_ble_eq_true rfl) (fun k hk1 hk => ?_) fun e => ?_))
  · have hkA : k < A.length := by omega
    have eg2 := isGo_q (hgo2 k hk)
    obtain ⟨hq1, hl1⟩ := inn_ok hq hT hal k _ (by omega) eg2
    have hsm1 := small_inn hT hM.sm hal hq hsm k _ (by omega) eg2
    have eT : innQ A B most a q (k + 1) = turnQ A B most a k (innQ A B most a q k).q := by rw [innQ, eg2]; rfl
    have hgoOn : ∀ q', turnQ A B most a k (innQ A B most a q k).q = .go q' → k < N2 := fun q' y => by
      rcases Nat.lt_or_ge k N2 with z | z
      · exact z
      · obtain rfl : k = N2 := by omega
        rcases hc2 with y1 | ⟨_, y2⟩
        · omega
        · rw [eT, y] at y2; cases y2
    have hleave : (turnQ A B most a k (innQ A B most a q k).q).isGo = false → k = N2 := fun y => by
      rcases Nat.lt_or_ge k N2 with z | z
      · have := hgo2 (k + 1) z
        rw [eT, y] at this; cases this
      · omega
    have eo2 : ∀ r, turnQ A B most a k (innQ A B most a q k).q = r → r.isGo = false → o1 = .rt (isD (metD r)) := fun r y z => by
      have kN := hleave (by rw [y]; exact z)
      rw [show o1 = _ from if_neg (by omega), ← kN, eT, y]
    show k < N2 ∧ Turn _ _ (Gc (innQ A B most a q k).q (.im (isD (.int (a : Int)))) (.im (isD (.int (k : Int)))) .no) (Gc (innQ A B most a q (k + 1)).q (.im (isD (.int (a : Int)))) .no .no) ∨ k = N2 ∧ ∃ o', Ss _ _ (Gc (innQ A B most a q k).q (.im (isD (.int (a : Int)))) (.im (isD (.int (k : Int)))) .no) o' ∧ Lv o' o1
    rw [eT]
    have ha1 : a < (innQ A B most a q k).q.st.length := by omega
    generalize (innQ A B most a q k).q = q1 at hq1 ha1 hgoOn hleave eo2 hsm1 ⊢
    obtain ⟨sm1, sm2⟩ := hq1.at ha1
    obtain ⟨r1, r2, r3, r4⟩ := hq1.sm _ sm1
    have hlen1 := hq1.len
    have hfew1 := hq1.few
    have w1 := hT.wA hkA
    have w2 := hT.wB hkA
    have hk3 := w1.2
    have hk4 := w2.2
    have hs5 := hsm1 a _ sm2
    have hW := hM.sm k hkA
    have hfit : W * (a + 1) ≤ 5000 := Nat.le_trans (Nat.mul_le_mul_left W (by omega)) hM.fit
    rw [Nat.mul_succ] at hfit
    generalize hs : q1.st.getD a bg0 = s at sm1 sm2 r1 r2 r3 r4 hs5
    have hat : atI (q1.st.map restQ) (a : Int) = some (restQ s) := atI_nat (by rw [List.getElem?_map, sm2]; rfl)
    let Gd : Sl → Gm := fun x7 => Gc q1 (.im (isD (.int (a : Int)))) (.im (isD (.int (k : Int)))) x7
    have sb : Sv (tCallS (spF S_lstep) (fun _ => E) (tCons (tVar 0) (tCons (tVar 1) (tCons (tOp (rIx K) (tVar 4) (tVar 5)) (tCons (tVar 6) tNil))))) (Gd .no) (isD (restO (behF s.1 s.2 (wAt A k) (wAt B k)))) :=
      sv_call (S := S_lstep) (sa_im (sv_var rfl) (sa_im (sv_var rfl) (sa_im (sv_ixL (rl_ow rfl) (sv_var rfl) hat) (sa_im (sv_var rfl) sa_nil)))) ⟨((A, B), s, k), ⟨r4, hkA, by show k < B.length; omega, ⟨by show s.1.length ≤ 100000; omega, by show s.2.length ≤ 100000; omega⟩, by show (wAt A k).length ≤ 100000; omega, by show (wAt B k).length ≤ 100000; omega⟩⟩ rfl rfl
    have ht : q1.st.tail.length = q1.wy.length := by rw [List.length_tail, hlen1]; omega
    have tE : ∀ {d : PyData} {b : Bool}, SeqAt.shaped d = true → PyData.eqv d evnD = b → St' (tTest (tOp (rEqD K) (tVar 7) (tTup (tCons (tC (.str "even")) (tCons (tTup tNil) tNil))))) (Gd (.im (isD d))) b := fun {d b} h1 h2 => st_is (st_test (sv_eq (sv_var rfl) evn h1 shaped_evn)) h2
    have one1 : ∀ s' ∈ q1.st.tail, s'.1 = [] ∨ s'.2 = [] := fun s' h => (hq1.sm s' (List.mem_of_mem_tail h)).2.2.2
    cases hb : behF s.1 s.2 (wAt A k) (wAt B k) with
    | none =>
      rw [hb] at sb
      have et : turnQ A B most a k q1 = .go q1 := by unfold turnQ; rw [hs, hb]
      rw [et]
      refine .inl ⟨hgoOn _ et, .inl (ss_seq (ss_set sb) (ss_seq (ss_if0 (tE (by decide +kernel) rfl) ss_next) (ss_if0 (st_is (st_and (b := false) (c := false) (st_B (sv_notNb (d := .none) (sv_var rfl))) fun z => by cases z) rfl) (ss_nxLe ss_next ?_))))⟩
      exact (by repeat first | exact Le.nil | refine Le.eq ?_ | refine Le.no ?_)
    | some p =>
      rw [hb] at sb
      obtain ⟨y1, y2⟩ := behF_in hb r1 r2 w1.1 w2.1
      have hps := behF_sum hb
      have hp1 := behF_one hb
      have eE : PyData.eqv (restQ p) evnD = isBg p := eqv_rest p
      by_cases c2 : p = bg0
      · have c1 : p ∉ q1.st.tail := fun z => hq1.nb (c2 ▸ z)
        have et : turnQ A B most a k q1 = .row q1 a k := by unfold turnQ; rw [hs, hb]; exact (if_neg c1).trans (if_pos c2)
        have kN := hleave (by rw [et]; rfl)
        rw [eo2 _ et rfl]
        exact .inr ⟨kN, _, ss_seq (ss_set sb) (ss_seqRt (ss_if1 (tE (shaped_rest p) (eE.trans (decide_eq_true c2))) (ss_freeze (n := 3) rfl (ss_ret (sv_tt (d := .str "row") (e := .list (q1.st.tail.map restQ)) sv_str (sv_var rfl)))))), .rt⟩
      have te := tE (shaped_rest p) (eE.trans (show isBg p = false from decide_eq_false c2))
      have tm : St' (tAnd (tB (tOp (fun x y H Q => y = .non ∧ Q (.bl (!decide (x = .non))) H) (tVar 7) (tC .non))) (tTest (tOp (rNotInD K) (tVar 7) (tVar 3)))) (Gd (.im (isD (restQ p)))) (!decide (p ∈ q1.st.tail)) :=
        st_is (st_and (b := true) (c := !decide (p ∈ q1.st.tail)) (st_B (sv_notNb (d := restQ p) (sv_var rfl))) fun _ => st_is (st_test (sv_notInD (sv_var rfl) (rl_ow rfl) (canLay_rests _) (SeqAt.canLay_of_shaped (shaped_rest p)) (depth_rest p))) (by rw [any_rests one1 hp1])) (Bool.true_and _)
      by_cases c1 : p ∈ q1.st.tail
      · have et : turnQ A B most a k q1 = .go q1 := by unfold turnQ; rw [hs, hb]; exact if_pos c1
        rw [et]
        refine .inl ⟨hgoOn _ et, .inl (ss_seq (ss_set sb) (ss_seq (ss_if0 te ss_next) (ss_if0 (st_is tm (by rw [decide_eq_true c1]; rfl)) (ss_nxLe ss_next ?_))))⟩
        exact (by repeat first | exact Le.nil | refine Le.eq ?_ | refine Le.no ?_)
      have tl : St' (tTest (tOp (rEqD K) (tCB (fun xs H Q => ∃ x n, xs = [x] ∧ LenV K x H n ∧ Q (.int n) H) (tCons (tVar 3) tNil)) (tVar 2))) (Gd (.im (isD (restQ p)))) (decide (q1.wy.length = most)) :=
        st_is (st_test (sv_eqI (sv_is (sv_lenL (ds := q1.st.tail.map restQ) (rl_ow rfl)) (by rw [List.length_map, ht])) (sv_var rfl))) (decide_eq_decide.mpr ⟨fun z => by omega, fun z => by omega⟩)
      by_cases c3 : q1.wy.length = most
      · have et : turnQ A B most a k q1 = .opn q1 := by unfold turnQ; rw [hs, hb]; exact (if_neg c1).trans ((if_neg c2).trans (if_pos (.inl c3)))
        have kN := hleave (by rw [et]; rfl)
        rw [eo2 _ et rfl]
        exact .inr ⟨kN, _, ss_seq (ss_set sb) (ss_seq (ss_if0 te ss_next) (ss_if1 (st_is tm (by rw [decide_eq_false c1]; rfl)) (ss_seqRt (ss_if1 (st_is tl (decide_eq_true c3)) (ss_freeze (n := 3) rfl (ss_ret (sv_tt (d := .str "open") (e := .list (q1.st.tail.map restQ)) sv_str (sv_var rfl)))))))), .rt⟩
      have et : turnQ A B most a k q1 = .go ⟨q1.st ++ [p], q1.wy ++ [(a, k)]⟩ := by unfold turnQ; rw [hs, hb]; exact (if_neg c1).trans ((if_neg c2).trans (if_neg (by omega)))
      rw [et]
      have e1 : (q1.st ++ [p]).tail = q1.st.tail ++ [p] := by rw [hq1.cons]; rfl
      have e2 : (q1.st ++ [p]).tail.map restQ = q1.st.tail.map restQ ++ [restQ p] := by rw [e1, List.map_append]; rfl
      have e3 : (q1.st ++ [p]).map restQ = q1.st.map restQ ++ [restQ p] := by rw [List.map_append]; rfl
      refine .inl ⟨hgoOn _ et, .inl (ss_seq (ss_set sb) (ss_seq (ss_if0 te ss_next) (ss_if1 (st_is tm (by rw [decide_eq_false c1]; rfl)) (ss_seq (ss_if0 (st_is tl (decide_eq_false c3)) ss_next) ?_))))⟩
      refine ss_seq (ss_append (n := 3) (ds := q1.st.tail.map restQ) (d := restQ p) rfl (sv_var rfl) (by rw [List.length_map, ht]; omega)) ?_
      show Ss _ _ _ (.nx [.im (isD (.list (wD A))), .im (isD (.list (wD B))), .im (isD (.int (most : Int))), .ow (isL ((q1.st ++ [p]).tail.map restQ)), .ow (isL ((q1.st ++ [p]).map restQ)), .im (isD (.int (a : Int))), .no, .no])
      rw [e2, e3]
      refine ss_nxLe (ss_append (n := 4) (ds := q1.st.map restQ) (d := restQ p) rfl (sv_var rfl) (by rw [List.length_map]; omega)) (by repeat first | exact Le.nil | refine Le.eq ?_ | refine Le.no ?_)
  · have e := e.trans (Int.toNat_natCast _)
    subst e
    exact if_pos rfl
end
end K61

namespace K61
open PySem L2 Evl Mini PyProof.Rows
/-! ### rows by length -/
abbrev I2 := List Int × St2
def l2D (r : I2) : PyData := .tuple [.tuple (r.1.map .int), restQ r.2]
def extA (A B : List (List Int)) (r : I2) (k : Nat) : List I2 := (stepsQ A B r.2 k).map fun q => (r.1 ++ [(q.1 : Int)], q.2)
def lvA (A B : List (List Int)) : Nat → List I2
  | 0 => [([], bg0)]
  | n + 1 => (lvA A B n).flatMap fun r => extA A B r A.length
def retF (A B : List (List Int)) (i : Nat) : Option PyData := if 300 < (lvA A B (i + 1)).length then some .none else match (lvA A B (i + 1)).filter fun r => isBg r.2 with
  | [] => none
  | r :: _ => some (.tuple (r.1.map .int))
def firstG (A B : List (List Int)) : Nat → Option PyData
  | 0 => none
  | i + 1 => match firstG A B i with
    | some d => some d
    | none => retF A B i
def firstD (A B : List (List Int)) (n : Nat) : PyData := (firstG A B n).getD (.tuple [])
theorem firstG_none {A B : List (List Int)} : ∀ n, (∀ j, j < n → retF A B j = none) → firstG A B n = none
  | 0, _ => rfl
  | n + 1, h => by rw [firstG, firstG_none n fun j hj => h j (by omega)]; exact h n (Nat.lt_succ_self n)
theorem firstG_some {A B : List (List Int)} {N : Nat} {d : PyData} (h : ∀ j, j < N → retF A B j = none) (e : retF A B N = some d) : ∀ n, N < n → firstG A B n = some d
  | 0, hn => absurd hn (Nat.not_lt_zero _)
  | n + 1, hn => by
    rcases Nat.lt_or_ge N n with z | z
    · rw [firstG, firstG_some h e n z]
    · obtain rfl : N = n := by omega
      rw [firstG, firstG_none N h]; exact e
theorem stepsQ_mem' {A B : List (List Int)} {s : St2} {n : Nat} {q : Nat × St2} (h : q ∈ stepsQ A B s n) : q.1 < n ∧ behF s.1 s.2 (wAt A q.1) (wAt B q.1) = some q.2 := by
  unfold stepsQ at h
  obtain ⟨k, hk, e⟩ := List.mem_filterMap.mp h
  obtain ⟨p, hp, rfl⟩ := Option.map_eq_some_iff.mp e
  exact ⟨List.mem_range.mp hk, hp⟩
theorem stepsQ_in' {A B : List (List Int)} {s p : St2} {n k : Nat} (hk : k < n) (h : behF s.1 s.2 (wAt A k) (wAt B k) = some p) : (k, p) ∈ stepsQ A B s n := by
  unfold stepsQ
  exact List.mem_filterMap.mpr ⟨k, List.mem_range.mpr hk, by rw [h]; rfl⟩
theorem lvA_run {A B : List (List Int)} : ∀ i, ∀ r ∈ lvA A B i, runL A B bg0 r.1 = some r.2 ∧ r.1.length = i ∧ InN A r.1
  | 0, r, hr => by
    obtain rfl := List.mem_singleton.mp hr
    exact ⟨rfl, rfl, fun k hk => absurd hk List.not_mem_nil⟩
  | i + 1, r, hr => by
    obtain ⟨r0, h0, hr⟩ := List.mem_flatMap.mp hr
    obtain ⟨q, hq, rfl⟩ := List.mem_map.mp hr
    obtain ⟨a, b, c⟩ := lvA_run i r0 h0
    obtain ⟨hk, hb⟩ := stepsQ_mem' hq
    refine ⟨by rw [runL_snoc, a]; exact hb, by simp [b], fun k hk' => ?_⟩
    rcases List.mem_append.mp hk' with z | z
    · exact c k z
    · rw [List.mem_singleton] at z; omega
theorem lvA_in {A B : List (List Int)} : ∀ (i : Nat) (r : List Int) (s : St2), r.length = i → InN A r → runL A B bg0 r = some s → (r, s) ∈ lvA A B i
  | 0, r, s, hl, _, h => by
    obtain rfl := List.eq_nil_of_length_eq_zero hl
    cases h
    exact List.mem_singleton.mpr rfl
  | i + 1, r, s, hl, hn, h => by
    obtain ⟨r0, k, rfl⟩ := snoc_of (r := r) (fun z => by rw [z] at hl; cases hl)
    have hl0 : r0.length = i := by simpa using hl
    rw [runL_snoc] at h
    obtain ⟨p, hp, h2⟩ := Option.bind_eq_some_iff.mp h
    have hm := lvA_in i r0 p hl0 (fun j hj => hn j (List.mem_append_left _ hj)) hp
    obtain ⟨k0, k1⟩ := hn k (by simp)
    obtain ⟨m, rfl⟩ := Int.eq_ofNat_of_zero_le k0
    exact List.mem_flatMap.mpr ⟨(r0, p), hm, List.mem_map.mpr ⟨(m, s), stepsQ_in' (by omega) h2, rfl⟩⟩
theorem stepsQ_up (A B : List (List Int)) (s : St2) (n : Nat) : (stepsQ A B s n).Pairwise fun p q => p.1 < q.1 := by
  unfold stepsQ
  rw [List.pairwise_filterMap]
  refine List.Pairwise.imp (fun {a b} hab => ?_) List.pairwise_lt_range
  intro x hx y hy
  obtain ⟨p, _, rfl⟩ := Option.map_eq_some_iff.mp hx
  obtain ⟨p', _, rfl⟩ := Option.map_eq_some_iff.mp hy
  exact hab
/-- the rows of a length stand in their order -/
theorem lvA_up {A B : List (List Int)} : ∀ i, (lvA A B i).Pairwise fun p q => slt p.1 q.1
  | 0 => List.pairwise_singleton _ _
  | i + 1 => by
    show ((lvA A B i).flatMap _).Pairwise _
    have hlen := fun r hr => (lvA_run (A := A) (B := B) i r hr).2.1
    rw [List.pairwise_flatMap]
    refine ⟨fun r _ => ?_, ?_⟩
    · unfold extA
      rw [List.pairwise_map]
      exact (stepsQ_up A B r.2 A.length).imp fun {a b} h => slt_last (by show ((a.1 : Nat) : Int) < (b.1 : Nat); omega)
    · refine (lvA_up i).imp fun {r r'} h x hx y hy => ?_
      obtain ⟨q, _, rfl⟩ := List.mem_map.mp hx
      obtain ⟨q', _, rfl⟩ := List.mem_map.mp hy
      exact slt_snoc h _ _
theorem lvA_small {A B : List (List Int)} {W : Nat} (hW : ∀ k : Nat, k < A.length → (wAt A k).length ≤ W ∧ (wAt B k).length ≤ W) : ∀ i, ∀ r ∈ lvA A B i, r.2.1.length + r.2.2.length ≤ W * i ∧ (r.2.1 = [] ∨ r.2.2 = [])
  | 0, r, hr => by obtain rfl := List.mem_singleton.mp hr; exact ⟨Nat.zero_le _, .inl rfl⟩
  | i + 1, r, hr => by
    obtain ⟨r0, h0, hr⟩ := List.mem_flatMap.mp hr
    obtain ⟨q, hq, rfl⟩ := List.mem_map.mp hr
    obtain ⟨hk, hb⟩ := stepsQ_mem' hq
    have h1 := (lvA_small hW i r0 h0).1
    have h2 := behF_sum hb
    obtain ⟨w1, w2⟩ := hW _ hk
    refine ⟨?_, behF_one hb⟩
    show q.2.1.length + q.2.2.length ≤ W * (i + 1)
    rw [Nat.mul_succ]; omega
theorem extA_len (A B : List (List Int)) (r : I2) (k : Nat) : (extA A B r k).length ≤ k := by
  unfold extA; rw [List.length_map]; exact stepsQ_len ..
theorem flat_take {A B : List (List Int)} {R : List I2} (hA : A.length ≤ 60) (j : Nat) : ((R.take j).flatMap fun r => extA A B r A.length).length ≤ R.length * 60 := by
  have h : ∀ R : List I2, (R.flatMap fun r => extA A B r A.length).length ≤ R.length * 60 := fun R => by
    induction R with
    | nil => exact Nat.le_refl _
    | cons r R ih =>
      have := extA_len A B r A.length
      rw [List.flatMap_cons, List.length_append, List.length_cons]
      omega
  have h1 := h (R.take j)
  have h2 : (R.take j).length ≤ R.length := by rw [List.length_take]; omega
  omega
def evD2 (d : PyData) : Bool := match d with
  | .tuple [_, s] => PyData.eqv s evnD
  | _ => false
def fst2' (d : PyData) : PyData := match d with
  | .tuple [r, _] => r
  | _ => .none
theorem filt_lv2 (R : List I2) : ((R.map l2D).filter evD2).map fst2' = (R.filter fun r => isBg r.2).map fun r => PyData.tuple (r.1.map .int) := by
  induction R with
  | nil => rfl
  | cons r R ih =>
    have e : evD2 (l2D r) = isBg r.2 := eqv_rest r.2
    rw [List.map_cons]
    cases z : isBg r.2 with
    | true => rw [List.filter_cons_of_pos (by rw [e]; exact z), List.filter_cons_of_pos (p := fun r : I2 => isBg r.2) z, List.map_cons, ih]; rfl
    | false => rw [List.filter_cons_of_neg (by rw [e, z]; exact Bool.false_ne_true), List.filter_cons_of_neg (p := fun r : I2 => isBg r.2) (by show ¬ isBg r.2 = true; rw [z]; exact Bool.false_ne_true), ih]
section
variable {P : Program} {w : World} {K : PySem.W.Frag} {mg : Str → Option Value} {base : Heap} {cAE cBB cBN cBR cTL cBk cPr aE0 aEV aBG : Addr}
/-! ### _law_first -/
def S_lfirst : Fs := ⟨{x : (List (List Int) × List (List Int)) × Nat // ∃ m W, Two x.1.1 x.1.2 m ∧ (∀ k : Nat, k < x.1.1.length → (wAt x.1.1 k).length ≤ W ∧ (wAt x.1.2 k).length ≤ W) ∧ W * (x.2 + 1) ≤ 90000 ∧ W ≤ 90000 ∧ x.2 ≤ 6000}, 3, fun x => [.im (isD (.list (wD x.1.1.1))), .im (isD (.list (wD x.1.1.2))), .im (isD (.int (x.1.2 : Int)))], fun _ => rfl, fun x => .ok (isD (firstD x.1.1.1 x.1.1.2 x.1.2))⟩
abbrev st__law_first : Stmt := top 42
theorem sc__law_first : FnScope ["first", "second", "length", "level", "k", "longer", "row", "rest", "number", "after", "alike"] ["first", "second", "length"] (defScope st__law_first) := ⟨rfl, rfl, rfl, by decide +kernel, rfl, by decide +kernel, by decide +kernel⟩
theorem ok__law_first {f : Addr} {fd : FuncData} (T : Txt K mg cAE cBB cBN cBR cTL cBk cPr aE0 aEV aBG) (F__law_step : FnC P w K mg base 1 "_law_step" (spF (S_lstep))) (F : Fun K "_law_first" "_law_first" st__law_first f fd) : FnOk P w K mg base (L2.CX P w) 2 f fd ["first", "second", "length"] (spF (S_lfirst)) := by
  refine fn_ok F sc__law_first rfl fun cdv A outer s H E hr => ?_
  have tk : Takes (cxD P w K mg base ["first", "second", "length", "level", "k", "longer", "row", "rest", "number", "after", "alike"] "_law_first" st__law_first f cdv A outer s H E) (fun cls d _ H => E cls d H) := takes_of rfl rfl rfl rfl
  have hx := pxM tk
  have nd := sc__law_first.nd
  refine ⟨_, (pss_cons (ps_set (i := 3) nd rfl (Or.inl rfl) (pe_lst (pa_cons (pe_tup (pa_cons (pe_tup pa_nil) (pa_cons (pe_tup (pa_cons pe_str (pa_cons (pe_tup pa_nil) pa_nil))) pa_nil))) pa_nil)))
 (pss_cons (ps_for (passes_of rfl) rfl (pi_range1 (by rfl) T.no_range (pa_cons (pv 2) pa_nil)) (pg_name (i := 4) nd rfl (Or.inl rfl)) (pss_cons (ps_set (i := 5) nd rfl (Or.inl rfl) (pe_lst pa_nil))
 (pss_cons (ps_for (passes_of rfl) rfl (pi_list (pv 3)) (pg_tup rfl (pgs_cons (pg_name (i := 6) nd rfl (Or.inl rfl)) (pgs_cons (pg_name (i := 7) nd rfl (Or.inl rfl)) pgs_nil))) (pss_one (ps_for (passes_of rfl) rfl (pi_range1 (by rfl) T.no_range (pa_cons (pe_callB call_len (by rfl) T.no_len (by decide +kernel) (pa_cons (pv 0) pa_nil)) pa_nil)) (pg_name (i := 8) nd rfl (Or.inl rfl)) (pss_cons (ps_set (i := 9) nd rfl (Or.inl rfl) (pe_fn F__law_step hr hx (pa_cons (pv 0) (pa_cons (pv 1) (pa_cons (pv 7) (pa_cons (pv 8) pa_nil))))))
 (pss_one (ps_if (pt_cmpR op_notN (pv 9) pe_non (nomark _)) (pss_one (ps_expr (pe_bm PySem.F.plainAttrs_list PySem.F.slot_list_append PySem.F.type_list_append mt_append (pv 5) (pa_cons (pe_tup (pa_cons (pe_op op_uAdd (pv 6) (pe_tup (pa_cons (pv 8) pa_nil))) (pa_cons (pv 9) pa_nil))) pa_nil)))) pss_nil))))))
 (pss_cons (ps_if (pt_cmpR op_gt (pe_callB call_len (by rfl) T.no_len (by decide +kernel) (pa_cons (pv 5) pa_nil)) pe_int (nomark _)) (pss_one (ps_ret pe_non)) pss_nil)
 (pss_cons (ps_set (i := 3) nd rfl (Or.inl rfl) (pv 5))
 (pss_cons (ps_setLc (i := 10) rfl nd rfl rfl (sw_true rfl rfl rfl (by decide +kernel)) (own := [("row", 6), ("rest", 7)]) (g := (gTup K 2 (gCons (gName 6) (gCons (gName 7) gNil)))) (pi_list (pv 3)) (blkOk_by (N := ["first", "second", "length", "level", "k", "longer", "row", "rest", "number", "after", "alike"]) (sc := defScope st__law_first) (by decide +kernel)) (fun _ _ _ _ _ => (pg_tupK (K := K) rfl (pgs_cons (pg_name (i := 6) nd rfl (Or.inl rfl)) (pgs_cons (pg_name (i := 7) nd rfl (Or.inl rfl)) pgs_nil)))) (fun _ _ _ _ _ => (pts_one (pt_cmpR (r := rEqD K) (op_eqD hr.units) (pv 7) (pe_tup (pa_cons pe_str (pa_cons (pe_tup pa_nil) pa_nil))) (nomark _)))) (fun _ _ _ _ _ => (pv 6)))
 (pss_one (ps_if (pt_cmpR op_gt (pe_callB call_len (by rfl) T.no_len (by decide +kernel) (pa_cons (pv 10) pa_nil)) pe_int (nomark _)) (pss_one (ps_ret (pe_ix ix_seq (pv 10) pe_int (fun _ _ => rfl)))) pss_nil))))))))
 (pss_one (ps_ret (pe_tup pa_nil))))), ?_⟩
  intro x
  obtain ⟨⟨⟨A, B⟩, n⟩, m, W, hT, hW, hfit, hW9, hn⟩ := x
  have hT : Two A B m := hT
  have hW : ∀ k : Nat, k < A.length → (wAt A k).length ≤ W ∧ (wAt B k).length ≤ W := hW
  have hfit : W * (n + 1) ≤ 90000 := hfit
  have hn : n ≤ 6000 := hn
  have hz : (sizeLine : Nat) = 16777216 := sizeLine_eq
  have hl := hT.len
  have hA : A.length ≤ 60 := hT.a.1
  have lA : (wD A).length = A.length := by unfold wD; rw [List.length_map]
  show Mini.Ans _ _ [.im (isD (.list (wD A))), .im (isD (.list (wD B))), .im (isD (.int (n : Int))), .no, .no, .no, .no, .no, .no, .no, .no] (.ok (isD (firstD A B n)))
  let Gc : Sl → Sl → Sl → Sl → Sl → Sl → Sl → Sl → Gm := fun x3 x4 x5 x6 x7 x8 x9 x10 => [.im (isD (.list (wD A))), .im (isD (.list (wD B))), .im (isD (.int (n : Int))), x3, x4, x5, x6, x7, x8, x9, x10]
  let Gi : Nat → Gm := fun i => Gc (.im (isD (.list ((lvA A B i).map l2D)))) .no .no .no .no .no .no .no
  obtain ⟨N, hN, hc, hpre⟩ : ∃ N, N ≤ n ∧ (N = n ∨ retF A B N ≠ none) ∧ ∀ j, j < N → retF A B j = none := by
    obtain ⟨N, h1, h2, h3⟩ := st_least (p := fun i => i = n ∨ retF A B i ≠ none) n (.inl rfl)
    exact ⟨N, h1, h2, fun j hj => Classical.byContradiction fun y => h3 j hj (.inr y)⟩
  have evn : ∀ {G : Gm}, Sv (tTup (tCons (tC (.str "even")) (tCons (tTup tNil) tNil))) G (isD evnD) := sv_tt sv_str (sv_tup (ds := []) sa_nil (Nat.zero_le _))
  have few : ∀ i, i ≤ N → (lvA A B i).length ≤ 300 := fun i hi => by
    cases i with
    | zero => exact Nat.le_of_ble_eq_true rfl
    | succ i =>
      have := hpre i (by omega)
      unfold retF at this
      by_cases c : 300 < (lvA A B (i + 1)).length
      · rw [if_pos c] at this; cases this
      · omega
  let o : Out := if N = n then .nx (Gi N) else .rt (isD (firstD A B n))
  refine .ok (ss_seq (ss_set (P := isD (.list [l2D ([], bg0)])) (sv_svl (svl_lst (ds := [l2D ([], bg0)]) (sa_ims (sv_tt (e := evnD) (sv_tup (ds := []) sa_nil (Nat.zero_le _)) evn) sa_nil) (by show 1 ≤ sizeLine; omega)))) (ss_seqO (o := o) (ss_forR' (n := (n : Int)) (j := 4) (sv_var rfl) (by omega) Gi N (by omega) (Le.refl _) (fun _ _ => Nat.le_of_ble_eq_true rfl) (fun i hi hiN => ?_) fun e => ?_) (fun G1 e => ?_) (fun ⟨P1, e⟩ => ?_) ?_))
  · have hlen := few i hiN
    have hok := lvA_run (A := A) (B := B) i
    have hsm := lvA_small (A := A) (B := B) hW i
    have hi : i < n := by omega
    have hWi : W * (i + 1) ≤ W * (n + 1) := Nat.mul_le_mul_left W (by omega)
    rw [Nat.mul_succ] at hWi
    show (i < N ∧ Turn _ _ (Gc (.im (isD (.list ((lvA A B i).map l2D)))) (.im (isD (.int (i : Int)))) .no .no .no .no .no .no) (Gi (i + 1))) ∨ (i = N ∧ ∃ o', Ss _ _ (Gc (.im (isD (.list ((lvA A B i).map l2D)))) (.im (isD (.int (i : Int)))) .no .no .no .no .no .no) o' ∧ Lv o' o)
    have eN : lvA A B (i + 1) = (lvA A B i).flatMap fun r => extA A B r A.length := rfl
    have eret : retF A B i = (if 300 < (lvA A B (i + 1)).length then some .none else match (lvA A B (i + 1)).filter fun r => isBg r.2 with | [] => none | r :: _ => some (.tuple (r.1.map .int))) := rfl
    let Gj : Nat → Gm := fun j => Gc (.im (isD (.list ((lvA A B i).map l2D)))) (.im (isD (.int (i : Int)))) (.ow (isL (((((lvA A B i).take j).flatMap fun r => extA A B r A.length)).map l2D))) .no .no .no .no .no
    have tL : ∀ {L : List I2}, St' (tB (tOp (rI0 fun i j => .bl (decide (j < i))) (tCB (fun xs H Q => ∃ x n, xs = [x] ∧ LenV K x H n ∧ Q (.int n) H) (tCons (tVar 5) tNil)) (tC (.int 300)))) (Gc (.im (isD (.list ((lvA A B i).map l2D)))) (.im (isD (.int (i : Int)))) (.ow (isL (L.map l2D))) .no .no .no .no .no) (decide (300 < L.length)) := fun {L} =>
      st_is (st_B (sv_cmp (g := fun i j => decide (j < i)) (sv_lenL (ds := L.map l2D) (rl_ow rfl)) sv_int)) (decide_eq_decide.mpr (by rw [List.length_map]; omega))
    let o2 : Out := match retF A B i with
      | none => .nx (Gi (i + 1))
      | some d => .rt (isD d)
    suffices hS : Ss _ _ (Gc (.im (isD (.list ((lvA A B i).map l2D)))) (.im (isD (.int (i : Int)))) .no .no .no .no .no .no) o2 by
      cases z : retF A B i with
      | none =>
        rw [show o2 = .nx (Gi (i + 1)) from by show (match retF A B i with | none => Out.nx (Gi (i + 1)) | some d => .rt (isD d)) = _; rw [z]] at hS
        refine .inl ⟨?_, .inl hS⟩
        rcases Nat.lt_or_ge i N with y | y
        · exact y
        · obtain rfl : i = N := by omega
          rcases hc with y | y
          · omega
          · exact absurd z y
      | some d =>
        rw [show o2 = .rt (isD d) from by show (match retF A B i with | none => Out.nx (Gi (i + 1)) | some d => .rt (isD d)) = _; rw [z]] at hS
        have iN : i = N := by
          rcases Nat.lt_or_ge i N with y | y
          · have := hpre i y; rw [z] at this; cases this
          · omega
        refine .inr ⟨iN, _, hS, ?_⟩
        subst iN
        have eo : o = .rt (isD d) := by
          rw [show o = _ from if_neg (by omega)]
          unfold firstD
          rw [firstG_some hpre z n hi]; rfl
        rw [eo]
        exact .rt
    refine ss_seq (ss_setL (svl_lst (ds := []) sa_nil (Nat.zero_le _))) (ss_seq (G1 := Gj ((lvA A B i).map l2D).length) (ss_forLg (n := 11) (js := [6] ++ [7]) (sv_var rfl) (set2 6 7) Gj ((lvA A B i).map l2D).length (Nat.le_refl _) (Le.refl _) (fun _ _ => rfl) (fun d hd => ?_) (fun j d hd hj => ?_) (.inl ⟨rfl, rfl⟩)) ?_)
    · obtain ⟨r, _, rfl⟩ := List.mem_map.mp hd
      exact tg_set2 (by decide) (by decide)
    · have hj : j < (lvA A B i).length := by rw [List.length_map] at hj; exact hj
      rw [List.getElem?_map, List.getElem?_eq_getElem hj] at hd
      have hr : (lvA A B i)[j]? = some (lvA A B i)[j] := List.getElem?_eq_getElem hj
      generalize (lvA A B i)[j] = r at hd hr
      cases hd
      have hm := List.mem_of_getElem? hr
      obtain ⟨_, hrl, _⟩ := hok r hm
      obtain ⟨hs5, ho1⟩ := hsm r hm
      have hlj := flat_take (A := A) (B := B) (R := lvA A B i) hA j
      refine .inl ?_
      have etk : ((lvA A B i).take (j + 1)).flatMap (fun r => extA A B r A.length) = ((lvA A B i).take j).flatMap (fun r => extA A B r A.length) ++ extA A B r A.length := by
        rw [List.take_succ, hr, List.flatMap_append]; simp
      show Ss _ _ (Gc (.im (isD (.list ((lvA A B i).map l2D)))) (.im (isD (.int (i : Int)))) (.ow (isL ((((lvA A B i).take j).flatMap fun r => extA A B r A.length).map l2D))) (.im (isD (.tuple (r.1.map .int)))) (.im (isD (restQ r.2))) .no .no .no) (.nx (Gc (.im (isD (.list ((lvA A B i).map l2D)))) (.im (isD (.int (i : Int)))) (.ow (isL ((((lvA A B i).take (j + 1)).flatMap fun r => extA A B r A.length).map l2D))) .no .no .no .no .no))
      rw [etk]
      generalize ((lvA A B i).take j).flatMap (fun r => extA A B r A.length) = F0 at hlj ⊢
      let Gk : Nat → Gm := fun k => Gc (.im (isD (.list ((lvA A B i).map l2D)))) (.im (isD (.int (i : Int)))) (.ow (isL ((F0 ++ extA A B r k).map l2D))) (.im (isD (.tuple (r.1.map .int)))) (.im (isD (restQ r.2))) .no .no .no
      have g0 : Le (Gc (.im (isD (.list ((lvA A B i).map l2D)))) (.im (isD (.int (i : Int)))) (.ow (isL (F0.map l2D))) (.im (isD (.tuple (r.1.map .int)))) (.im (isD (restQ r.2))) .no .no .no) (Gk 0) := by
        show Le _ (Gc _ _ (.ow (isL ((F0 ++ []).map l2D))) _ _ _ _ _)
        rw [List.append_nil]; exact Le.refl _
      refine ss_nxLe (G1 := Gk A.length) (ss_forR (n := (A.length : Int)) (j := 8) (sv_is (sv_lenL (ds := wD A) (rl_sv (sv_var rfl))) (by rw [lA])) (by omega) Gk A.length (by omega) g0 (fun _ _ => Nat.le_of_ble_eq_true rfl) (fun k hk => ?_) (.inl ⟨by omega, rfl⟩)) ?_
      · obtain ⟨s1, s2⟩ := hW k hk
        have hW1 : W ≤ 90000 := hW9
        refine .inl ?_
        show Ss _ _ (Gc (.im (isD (.list ((lvA A B i).map l2D)))) (.im (isD (.int (i : Int)))) (.ow (isL ((F0 ++ extA A B r k).map l2D))) (.im (isD (.tuple (r.1.map .int)))) (.im (isD (restQ r.2))) (.im (isD (.int (k : Int)))) .no .no) (.nx (Gc (.im (isD (.list ((lvA A B i).map l2D)))) (.im (isD (.int (i : Int)))) (.ow (isL ((F0 ++ extA A B r (k + 1)).map l2D))) (.im (isD (.tuple (r.1.map .int)))) (.im (isD (restQ r.2))) .no .no .no))
        refine ss_seq (ss_set (P := isD (restO (behF r.2.1 r.2.2 (wAt A k) (wAt B k)))) (sv_call (S := S_lstep) (sa_im (sv_var rfl) (sa_im (sv_var rfl) (sa_im (sv_var rfl) (sa_im (sv_var rfl) sa_nil)))) ⟨((A, B), r.2, k), ho1, hk, by show k < B.length; omega, ⟨by show r.2.1.length ≤ 100000; omega, by show r.2.2.length ≤ 100000; omega⟩, by show (wAt A k).length ≤ 100000; omega, by show (wAt B k).length ≤ 100000; omega⟩ rfl rfl)) ?_
        cases hb : behF r.2.1 r.2.2 (wAt A k) (wAt B k) with
        | none =>
          have e : extA A B r (k + 1) = extA A B r k := by unfold extA; rw [stepsQ_none hb]
          rw [e]
          exact ss_if0 (st_is (st_B (sv_notNb (d := .none) (sv_var rfl))) rfl) (ss_nxLe ss_next (by repeat first | exact Le.nil | refine Le.eq ?_ | refine Le.no ?_))
        | some p =>
          have e : extA A B r (k + 1) = extA A B r k ++ [(r.1 ++ [(k : Int)], p)] := by unfold extA; rw [stepsQ_some hb, List.map_append]; rfl
          rw [e, ← List.append_assoc]
          have hek := extA_len A B r k
          refine ss_if1 (st_is (st_B (sv_notNb (d := restQ p) (sv_var rfl))) rfl) (ss_nxLe (G1 := Gc (.im (isD (.list ((lvA A B i).map l2D)))) (.im (isD (.int (i : Int)))) (.ow (isL (((F0 ++ extA A B r k) ++ [(r.1 ++ [(k : Int)], p)]).map l2D))) (.im (isD (.tuple (r.1.map .int)))) (.im (isD (restQ r.2))) (.im (isD (.int (k : Int)))) (.im (isD (restQ p))) .no) ?_ (by repeat first | exact Le.nil | refine Le.eq ?_ | refine Le.no ?_))
          show Ss _ _ _ (.nx [.im (isD (.list (wD A))), .im (isD (.list (wD B))), .im (isD (.int (n : Int))), .im (isD (.list ((lvA A B i).map l2D))), .im (isD (.int (i : Int))), .ow (isL (((F0 ++ extA A B r k) ++ [(r.1 ++ [(k : Int)], p)]).map l2D)), .im (isD (.tuple (r.1.map .int))), .im (isD (restQ r.2)), .im (isD (.int (k : Int))), .im (isD (restQ p)), .no])
          have em : ((F0 ++ extA A B r k) ++ [(r.1 ++ [(k : Int)], p)]).map l2D = (F0 ++ extA A B r k).map l2D ++ [l2D (r.1 ++ [(k : Int)], p)] := by rw [List.map_append]; rfl
          rw [em]
          refine ss_append (n := 5) (ds := (F0 ++ extA A B r k).map l2D) (d := l2D (r.1 ++ [(k : Int)], p)) rfl (sv_tt (d := .tuple ((r.1 ++ [(k : Int)]).map .int)) (e := restQ p) (sv_is (sv_catT (ds := r.1.map .int) (es := [.int (k : Int)]) (sv_var rfl) (sv_tup (ds := [.int (k : Int)]) (sa_ims (sv_var rfl) sa_nil) (by show 1 ≤ sizeLine; omega)) (by rw [List.length_map]; show r.1.length + 1 ≤ sizeLine; omega)) (by rw [List.map_append]; rfl)) (sv_var rfl)) (by rw [List.length_map, List.length_append]; omega)
      · show Le (Gc _ _ (.ow (isL ((F0 ++ extA A B r A.length).map l2D))) _ _ _ _ _) (Gc _ _ (.ow (isL ((F0 ++ extA A B r A.length).map l2D))) _ _ _ _ _)
        exact (by repeat first | exact Le.nil | refine Le.eq ?_ | refine Le.no ?_)
    · have ej : Gj ((lvA A B i).map l2D).length = Gc (.im (isD (.list ((lvA A B i).map l2D)))) (.im (isD (.int (i : Int)))) (.ow (isL ((lvA A B (i + 1)).map l2D))) .no .no .no .no .no := by
        show Gc _ _ (.ow (isL ((((lvA A B i).take ((lvA A B i).map l2D).length).flatMap fun r => extA A B r A.length).map l2D))) _ _ _ _ _ = _
        rw [List.length_map, List.take_length]; rfl
      rw [ej]
      by_cases c2 : 300 < (lvA A B (i + 1)).length
      · have er : retF A B i = some .none := by rw [eret, if_pos c2]
        rw [show o2 = .rt (isD .none) from by show (match retF A B i with | none => Out.nx (Gi (i + 1)) | some d => .rt (isD d)) = _; rw [er]]
        exact ss_seqRt (ss_if1 (st_is tL (decide_eq_true c2)) (ss_ret sv_non))
      rw [if_neg c2] at eret
      have hlL := hsm
      refine ss_seq (ss_if0 (st_is tL (decide_eq_false c2)) ss_next) (ss_freeze (n := 5) rfl (ss_seq (ss_set (P := isD (.list ((lvA A B (i + 1)).map l2D))) (sv_var rfl)) ?_))
      have eG : o2 = (match retF A B i with | none => Out.nx (Gi (i + 1)) | some d => .rt (isD d)) := rfl
      rw [eG, eret]
      show Ss _ _ _ (match (match (lvA A B (i + 1)).filter fun r => isBg r.2 with | [] => none | r :: _ => some (PyData.tuple (r.1.map .int))) with | none => Out.nx (Gc (.im (isD (.list ((lvA A B (i + 1)).map l2D)))) .no .no .no .no .no .no .no) | some d => .rt (isD d))
      generalize lvA A B (i + 1) = L at c2 ⊢
      refine ss_seq (ss_set (P := isD (.list ((L.filter fun r => isBg r.2).map fun r => PyData.tuple (r.1.map .int)))) (sv_svl (svl_is (svl_lcG (vs := [6, 7]) (js := [6] ++ [7]) (ds := L.map l2D) (rl_sv (sv_var rfl)) (set2 6 7) evD2 fst2' (by rw [List.length_map]; omega) (fun d hd => ?_) (by decide) (fun d hd => ?_) fun d hd _ => ?_) (filt_lv2 L)))) ?_
      · obtain ⟨r, _, rfl⟩ := List.mem_map.mp hd
        exact tg_set2 (Nat.le_of_ble_eq_true rfl) (Nat.le_of_ble_eq_true rfl)
      · obtain ⟨r, _, rfl⟩ := List.mem_map.mp hd
        exact st_test (sv_eq (sv_var rfl) evn (shaped_rest _) shaped_evn)
      · obtain ⟨r, _, rfl⟩ := List.mem_map.mp hd
        exact sv_var rfl
      · have tl : ∀ {G : Gm} {ds : List PyData}, G[10]? = some (.im (isD (.list ds))) → St' (tB (tOp (rI0 fun i j => .bl (decide (j < i))) (tCB (fun xs H Q => ∃ x n, xs = [x] ∧ LenV K x H n ∧ Q (.int n) H) (tCons (tVar 10) tNil)) (tC (.int 0)))) G (decide (0 < ds.length)) := fun {G ds} h =>
          st_is (st_B (sv_cmp (g := fun i j => decide (j < i)) (sv_lenL (ds := ds) (rl_sv (sv_var h))) sv_int)) (decide_eq_decide.mpr (by omega))
        cases ez : L.filter fun r => isBg r.2 with
        | nil => exact ss_if0 (st_is (tl rfl) rfl) (ss_nxLe ss_next (by repeat first | exact Le.nil | refine Le.eq ?_ | refine Le.no ?_))
        | cons r R => exact ss_if1 (st_is (tl rfl) (decide_eq_true (by simp))) (ss_ret (sv_ixL (rl_sv (sv_var rfl)) sv_int (atI_nat (j := 0) rfl)))
  · exact if_pos (by omega)
  · by_cases c : N = n
    · rw [show o = _ from if_pos c] at e
      cases e
      unfold firstD
      rw [firstG_none n (c ▸ hpre)]
      exact ss_ret (sv_tup (ds := []) sa_nil (Nat.zero_le _))
    · rw [show o = _ from if_neg c] at e; cases e
  · by_cases c : N = n
    · rw [show o = _ from if_pos c] at e; cases e
    · exact (if_neg c).symm
  · by_cases c : N = n
    · exact .inl ⟨_, if_pos c⟩
    · exact .inr ⟨_, if_neg c⟩
end
end K61

namespace K61
open PySem L2 Evl Mini PyProof.Rows
/-! ### _law_is_alike -/
def readF (W : List (List Int)) (r : List Int) : List Int := r.flatMap (wAt W)
theorem readF_snoc (W : List (List Int)) (r : List Int) (k : Int) : readF W (r ++ [k]) = readF W r ++ wAt W k := by unfold readF; rw [List.flatMap_append]; simp
def alikeB (A B : List (List Int)) (r : List Int) : Bool := decide (0 < r.length) && decide (readF A r = readF B r)
theorem readF_len {A : List (List Int)} {W : Nat} (hW : ∀ k : Nat, k < A.length → (wAt A k).length ≤ W) : ∀ {r : List Int}, InN A r → (readF A r).length ≤ W * r.length := fun {r} => by
  induction r with
  | nil => exact fun _ => Nat.zero_le _
  | cons k r ih =>
    intro h
    obtain ⟨k0, k1⟩ := h k (List.mem_cons_self ..)
    obtain ⟨n, rfl⟩ := Int.eq_ofNat_of_zero_le k0
    have h1 := ih fun v hv => h v (List.mem_cons_of_mem _ hv)
    have h2 := hW n (by omega)
    show (wAt A (n : Int) ++ readF A r).length ≤ _
    rw [List.length_append, List.length_cons, Nat.mul_succ]
    omega
section
variable {P : Program} {w : World} {K : PySem.W.Frag} {mg : Str → Option Value} {base : Heap} {cAE cBB cBN cBR cTL cBk cPr aE0 aEV aBG : Addr}
def S_lalike : Fs := ⟨{x : (List (List Int) × List (List Int)) × List Int // ∃ W : Nat, (∀ k : Nat, k < x.1.1.length → (wAt x.1.1 k).length ≤ W ∧ (wAt x.1.2 k).length ≤ W) ∧ x.1.1.length = x.1.2.length ∧ InN x.1.1 x.2 ∧ W * x.2.length ≤ 1000000 ∧ x.2.length ≤ 100000}, 3, fun x => [.im (isD (.list (wD x.1.1.1))), .im (isD (.list (wD x.1.1.2))), .im (isD (.tuple (x.1.2.map .int)))], fun _ => rfl, fun x => .ok (isD (.bool (alikeB x.1.1.1 x.1.1.2 x.1.2)))⟩
abbrev st__law_is_alike : Stmt := top 43
theorem sc__law_is_alike : FnScope ["first", "second", "row", "one", "two", "number"] ["first", "second", "row"] (defScope st__law_is_alike) := ⟨rfl, rfl, rfl, by decide +kernel, rfl, by decide +kernel, by decide +kernel⟩
theorem ok__law_is_alike {f : Addr} {fd : FuncData} (T : Txt K mg cAE cBB cBN cBR cTL cBk cPr aE0 aEV aBG)  (F : Fun K "_law_is_alike" "_law_is_alike" st__law_is_alike f fd) : FnOk P w K mg base (L2.CX P w) 1 f fd ["first", "second", "row"] (spF (S_lalike)) := by
  refine fn_ok F sc__law_is_alike rfl fun cdv A outer s H E hr => ?_
  have tk : Takes (cxD P w K mg base ["first", "second", "row", "one", "two", "number"] "_law_is_alike" st__law_is_alike f cdv A outer s H E) (fun cls d _ H => E cls d H) := takes_of rfl rfl rfl rfl
  have hx := pxM tk
  have nd := sc__law_is_alike.nd
  refine ⟨_, (pss_cons (ps_asg (pe_tup (pa_cons (pe_tup pa_nil) (pa_cons (pe_tup pa_nil) pa_nil))) (pg_tup rfl (pgs_cons (pg_name (i := 3) nd rfl (Or.inl rfl)) (pgs_cons (pg_name (i := 4) nd rfl (Or.inl rfl)) pgs_nil))))
 (pss_cons (ps_for (passes_of rfl) rfl (pi_tup (pv 2)) (pg_name (i := 5) nd rfl (Or.inl rfl)) (pss_one (ps_par (i := 3) (j := 4) rfl nd rfl rfl (by decide) rfl rfl (pa_cons (pe_op op_uAdd (pv 3) (pe_ix ix_seq (pv 0) (pv 5) (fun _ _ => rfl))) (pa_cons (pe_op op_uAdd (pv 4) (pe_ix ix_seq (pv 1) (pv 5) (fun _ _ => rfl))) pa_nil)) (by rfl))))
 (pss_one (ps_ret (pe_and (pe_cmpR op_gt (pe_callB call_len (by rfl) T.no_len (by decide +kernel) (pa_cons (pv 2) pa_nil)) pe_int (nomark _)) (pe_one (pe_cmpR (op_eqD hr.units) (pv 3) (pv 4) (nomark _)))))))), ?_⟩
  intro x
  obtain ⟨⟨⟨A, B⟩, r⟩, W, hW, hl, hn, hf, hr⟩ := x
  have hW : ∀ k : Nat, k < A.length → (wAt A k).length ≤ W ∧ (wAt B k).length ≤ W := hW
  have hl : A.length = B.length := hl
  have hn : InN A r := hn
  have hf : W * r.length ≤ 1000000 := hf
  have hr : r.length ≤ 100000 := hr
  have hz : (sizeLine : Nat) = 16777216 := sizeLine_eq
  show Mini.Ans _ _ [.im (isD (.list (wD A))), .im (isD (.list (wD B))), .im (isD (.tuple (r.map .int))), .no, .no, .no] (.ok (isD (.bool (alikeB A B r))))
  let Gc : List Int → List Int → Sl → Gm := fun u v x5 => [.im (isD (.list (wD A))), .im (isD (.list (wD B))), .im (isD (.tuple (r.map .int))), .im (isD (.tuple (u.map .int))), .im (isD (.tuple (v.map .int))), x5]
  let Gi : Nat → Gm := fun i => Gc (readF A (r.take i)) (readF B (r.take i)) .no
  have e0 : ∀ {G : Gm}, Sv (tTup tNil) G (isD (.tuple [])) := sv_tup (ds := []) sa_nil (Nat.zero_le _)
  refine .ok (ss_seq (G1 := Gi 0) (ss_tupN [3, 4] (sn_im e0 (sn_im e0 sn_nil))) (ss_seq (G1 := Gi (r.map PyData.int).length) (ss_forT (sv_var rfl) Gi (r.map PyData.int).length (Nat.le_refl _) (Le.refl _) (fun _ _ => Nat.le_of_ble_eq_true rfl) (fun i d hd hi => ?_) (.inl ⟨rfl, rfl⟩)) ?_))
  · have hi : i < r.length := by rw [List.length_map] at hi; exact hi
    have hk : r[i]? = some r[i] := List.getElem?_eq_getElem hi
    rw [List.getElem?_map, hk] at hd
    generalize r[i] = k at hd hk
    cases hd
    have hm := List.mem_of_getElem? hk
    obtain ⟨k0, k1⟩ := hn k hm
    obtain ⟨n, rfl⟩ := Int.eq_ofNat_of_zero_le k0
    have hnA : n < A.length := by omega
    obtain ⟨w1, w2⟩ := hW n hnA
    have et : r.take (i + 1) = r.take i ++ [(n : Int)] := by rw [List.take_succ, hk]; rfl
    have hIn : InN A (r.take i) := fun v hv => hn v (List.mem_of_mem_take hv)
    have lt : (r.take i).length ≤ i := by rw [List.length_take]; omega
    have l1 : (readF A (r.take i)).length ≤ 1000000 := Nat.le_trans (readF_len (fun k hk => (hW k hk).1) hIn) (Nat.le_trans (Nat.mul_le_mul_left W (by omega : (r.take i).length ≤ r.length)) hf)
    have l2 : (readF B (r.take i)).length ≤ 1000000 := Nat.le_trans (readF_len (A := B) (fun k hk => (hW k (by omega)).2) (fun v hv => by have := hIn v hv; omega)) (Nat.le_trans (Nat.mul_le_mul_left W (by omega : (r.take i).length ≤ r.length)) hf)
    have hW1 : W ≤ 1000000 := Nat.le_trans (Nat.le_mul_of_pos_right W (by omega)) hf
    refine .inl ?_
    show Ss _ _ (Gc (readF A (r.take i)) (readF B (r.take i)) (.im (isD (.int (n : Int))))) (.nx (Gc (readF A (r.take (i + 1))) (readF B (r.take (i + 1))) .no))
    rw [et, readF_snoc, readF_snoc]
    have aA : atI (wD A) (n : Int) = some (.tuple ((wAt A n).map .int)) := atI_nat (by rw [wD_get hnA]; rfl)
    have aB : atI (wD B) (n : Int) = some (.tuple ((wAt B n).map .int)) := atI_nat (by rw [wD_get (by omega)]; rfl)
    refine ss_nxLe (ss_par (sv_is (sv_catT (ds := (readF A (r.take i)).map .int) (es := (wAt A n).map .int) (sv_var rfl) (sv_ixL (rl_sv (sv_var rfl)) (sv_var rfl) aA) (by rw [List.length_map, List.length_map]; omega)) (by rw [← List.map_append])) (sv_is (sv_catT (ds := (readF B (r.take i)).map .int) (es := (wAt B n).map .int) (sv_var rfl) (sv_ixL (rl_sv (sv_var rfl)) (sv_var rfl) aB) (by rw [List.length_map, List.length_map]; omega)) (by rw [← List.map_append]))) (by repeat first | exact Le.nil | refine Le.eq ?_ | refine Le.no ?_)
  · have e : Gi (r.map PyData.int).length = Gc (readF A r) (readF B r) .no := by
      show Gc (readF A (r.take (r.map PyData.int).length)) (readF B (r.take (r.map PyData.int).length)) .no = _
      rw [List.length_map, List.take_length]
    rw [e]
    refine ss_ret (sv_and (b := decide (0 < r.length)) (c := decide (readF A r = readF B r)) (sv_is (sv_cmp (g := fun i j => decide (j < i)) (sv_lenT (ds := r.map .int) (sv_var rfl)) sv_int) ?_) fun _ => sv_is (sv_eq (d := .tuple ((readF A r).map .int)) (e := .tuple ((readF B r).map .int)) (sv_var rfl) (sv_var rfl) (shaped_tints _) (shaped_tints _)) (by rw [eqv_tints]))
    rw [List.length_map]
    show PyData.bool (decide ((0 : Int) < (r.length : Int))) = _
    congr 1
    exact decide_eq_decide.mpr ⟨fun z => by omega, fun z => by omega⟩
end
end K61

namespace K61
open PySem L2 Evl Mini PyProof.Rows
/-! ### a greater number changes only what was open -/
def Rz.isOpn : Rz → Bool
  | .opn _ => true
  | _ => false
theorem turn_more {A B : List (List Int)} {most mo2 a k : Nat} {q : Qs} (h : most ≤ mo2) (hf : q.wy.length ≤ most) (e : (turnQ A B most a k q).isOpn = false) : turnQ A B mo2 a k q = turnQ A B most a k q := by
  unfold turnQ at e ⊢
  cases hb : behF (q.st.getD a bg0).1 (q.st.getD a bg0).2 (wAt A k) (wAt B k) with
  | none => rfl
  | some p =>
    rw [hb] at e
    dsimp only at e ⊢
    by_cases c1 : p ∈ q.st.tail
    · rw [if_pos c1, if_pos c1]
    · rw [if_neg c1] at e ⊢
      rw [if_neg c1]
      by_cases c2 : p = bg0
      · rw [if_pos c2, if_pos c2]
      · rw [if_neg c2] at e ⊢
        rw [if_neg c2]
        by_cases c3 : q.wy.length = most ∨ 5000 < p.1.length + p.2.length
        · rw [if_pos c3] at e; cases e
        · rw [if_neg c3, if_neg (fun z => c3 (z.imp (fun y => by omega) id))]
theorem inn_more {A B : List (List Int)} {m : Int} {most mo2 a : Nat} {q : Qs} (hT : Two A B m) (h : most ≤ mo2) (hq : QOk A B most q) (ha : a < q.st.length) : ∀ k, k ≤ A.length → (innQ A B most a q k).isOpn = false → innQ A B mo2 a q k = innQ A B most a q k
  | 0, _, _ => rfl
  | k + 1, hk, e => by
    rw [innQ] at e
    rw [innQ, innQ]
    cases c : innQ A B most a q k with
    | go q2 =>
      rw [c] at e
      rw [inn_more hT h hq ha k (by omega) (by rw [c]; rfl), c]
      exact turn_more h (inn_ok hq hT ha k q2 (by omega) c).1.few e
    | row q1 i1 k1 => rw [inn_more hT h hq ha k (by omega) (by rw [c]; rfl), c]
    | opn n => rw [c] at e; cases e
theorem out_more {A B : List (List Int)} {m : Int} {most mo2 : Nat} (hT : Two A B m) (h : most ≤ mo2) : ∀ n, (outQ A B most n).isOpn = false → outQ A B mo2 n = outQ A B most n
  | 0, _ => rfl
  | n + 1, e => by
    rw [outQ] at e
    rw [outQ, outQ]
    cases c : outQ A B most n with
    | go q2 =>
      rw [c] at e
      rw [out_more hT h n (by rw [c]; rfl), c]
      dsimp only at e ⊢
      by_cases z : n < q2.st.length
      · rw [if_pos z] at e ⊢
        rw [if_pos z]
        exact inn_more hT h (out_ok hT n q2 c) z A.length (Nat.le_refl _) e
      · rw [if_neg z, if_neg z]
    | row q1 i1 k1 => rw [out_more hT h n (by rw [c]; rfl), c]
    | opn n1 => rw [c] at e; cases e
theorem out_on {A B : List (List Int)} {m : Int} {most : Nat} (hT : Two A B m) : ∀ j, outQ A B most (most + 2 + j) = outQ A B most (most + 2)
  | 0 => rfl
  | j + 1 => by
    show outQ A B most (most + 2 + j + 1) = _
    rw [outQ, out_on hT j]
    cases c : outQ A B most (most + 2) with
    | go q =>
      have o := out_ok hT _ q c
      have := o.len
      have := o.few
      dsimp only
      rw [if_neg (by omega)]
    | row q1 i1 k1 => rfl
    | opn n1 => rfl
theorem srch_more {A B : List (List Int)} {m : Int} {most mo2 : Nat} (hT : Two A B m) (h : most ≤ mo2) (e : (outQ A B most (most + 2)).isOpn = false) : outQ A B mo2 (mo2 + 2) = outQ A B most (most + 2) := by
  have e1 := out_on (most := most) hT (mo2 - most)
  rw [show most + 2 + (mo2 - most) = mo2 + 2 from by omega] at e1
  rw [out_more hT h (mo2 + 2) (by rw [e1]; exact e), e1]
/-! ### texts -/
theorem behF_text {x y f g : List Int} {p : St2} (h : behF x y f g = some p) : ∃ c, x ++ f = c ++ p.1 ∧ y ++ g = c ++ p.2 := by
  unfold behF at h
  split at h
  · rename_i z
    cases h
    exact ⟨_, (List.take_append_drop _ _).symm, by rw [z]; exact (List.take_append_drop _ _).symm⟩
  · cases h
theorem runL_text {A B : List (List Int)} : ∀ (r : List Int) (s p : St2), runL A B s r = some p → ∃ c, s.1 ++ readF A r = c ++ p.1 ∧ s.2 ++ readF B r = c ++ p.2
  | [], s, p, h => by
    cases h
    exact ⟨[], by simp [readF], by simp [readF]⟩
  | k :: r, s, p, h => by
    rw [runL] at h
    cases c : behF s.1 s.2 (wAt A k) (wAt B k) with
    | none => rw [c] at h; cases h
    | some u =>
      rw [c] at h
      obtain ⟨c1, a1, a2⟩ := behF_text c
      obtain ⟨c2, b1, b2⟩ := runL_text r u p h
      refine ⟨c1 ++ c2, ?_, ?_⟩
      · show s.1 ++ (wAt A k ++ readF A r) = _
        rw [← List.append_assoc, a1, List.append_assoc, b1, List.append_assoc]
      · show s.2 ++ (wAt B k ++ readF B r) = _
        rw [← List.append_assoc, a2, List.append_assoc, b2, List.append_assoc]
theorem runL_alike {A B : List (List Int)} {r : List Int} (h : runL A B bg0 r = some bg0) : readF A r = readF B r := by
  obtain ⟨c, h1, h2⟩ := runL_text r bg0 bg0 h
  have h1 : readF A r = c ++ [] := h1
  have h2 : readF B r = c ++ [] := h2
  rw [h1, h2]
/-- texts that go together have a state -/
theorem behF_of {x y f g : List Int} {a b : List Int} (h : (x ++ f) ++ a = (y ++ g) ++ b) : ∃ p, behF x y f g = some p := by
  have key : ∀ u v : List Int, u ++ a = v ++ b → u.take (min u.length v.length) = v.take (min u.length v.length) := fun u v e => by
    have e := congrArg (List.take (min u.length v.length)) e
    rwa [List.take_append_of_le_length (by omega), List.take_append_of_le_length (by omega)] at e
  unfold behF
  exact ⟨_, if_pos (key _ _ h)⟩
theorem runL_of {A B : List (List Int)} : ∀ (r : List Int) (s : St2), s.1 ++ readF A r = s.2 ++ readF B r → (s.1 = [] ∨ s.2 = []) → runL A B s r = some bg0
  | [], s, h, ho => by
    have h : s.1 ++ [] = s.2 ++ [] := h
    rw [List.append_nil, List.append_nil] at h
    obtain ⟨x, y⟩ := s
    have h : x = y := h
    subst h
    have e : x = [] := ho.elim id id
    subst e
    rfl
  | k :: r, s, h, _ => by
    have h : s.1 ++ (wAt A k ++ readF A r) = s.2 ++ (wAt B k ++ readF B r) := h
    rw [← List.append_assoc, ← List.append_assoc] at h
    obtain ⟨p, hp⟩ := behF_of h
    rw [runL, hp]
    obtain ⟨c, a1, a2⟩ := behF_text hp
    refine runL_of r p ?_ (behF_one hp)
    rw [a1, a2, List.append_assoc, List.append_assoc] at h
    exact List.append_cancel_left h
theorem alike_runL {A B : List (List Int)} {r : List Int} (h : readF A r = readF B r) : runL A B bg0 r = some bg0 := runL_of r bg0 h (.inl rfl)
/-- what the law's first row is, where one row is known to be the first -/
theorem firstG_from {A B : List (List Int)} : ∀ n d, firstG A B n = some d → ∃ N, N < n ∧ retF A B N = some d ∧ firstG A B N = none
  | 0, d, h => by cases h
  | n + 1, d, h => by
    rw [firstG] at h
    cases c : firstG A B n with
    | none => rw [c] at h; exact ⟨n, Nat.lt_succ_self n, h, c⟩
    | some d2 =>
      rw [c] at h
      cases h
      obtain ⟨N, h1, h2, h3⟩ := firstG_from n _ c
      exact ⟨N, by omega, h2, h3⟩
theorem retF_row {A B : List (List Int)} {N : Nat} {d : PyData} (h : retF A B N = some d) : d = .none ∨ ∃ r, (r, bg0) ∈ lvA A B (N + 1) ∧ d = .tuple (r.map .int) ∧ ∀ r', (r', bg0) ∈ lvA A B (N + 1) → sle r r' := by
  unfold retF at h
  by_cases c : 300 < (lvA A B (N + 1)).length
  · rw [if_pos c] at h; cases h; exact .inl rfl
  · rw [if_neg c] at h
    cases e : (lvA A B (N + 1)).filter fun r => isBg r.2 with
    | nil => rw [e] at h; cases h
    | cons r R =>
      rw [e] at h
      cases h
      have hm : r ∈ (lvA A B (N + 1)).filter fun r => isBg r.2 := by rw [e]; exact List.mem_cons_self ..
      obtain ⟨m1, m2⟩ := List.mem_filter.mp hm
      have m2 : r.2 = bg0 := of_decide_eq_true m2
      refine .inr ⟨r.1, by rw [← m2]; exact m1, rfl, fun r' hr' => ?_⟩
      have hp := (lvA_up (A := A) (B := B) (N + 1)).sublist (List.filter_sublist (p := fun r : I2 => isBg r.2))
      rw [e, List.pairwise_cons] at hp
      have hm' : (r', bg0) ∈ (lvA A B (N + 1)).filter fun r => isBg r.2 := List.mem_filter.mpr ⟨hr', decide_eq_true rfl⟩
      rw [e] at hm'
      rcases List.mem_cons.mp hm' with z | z
      · rw [← z]; exact .inl rfl
      · exact .inr (hp.1 _ z)
theorem firstD_row {A B : List (List Int)} {R : List Int} (h1 : runL A B bg0 R = some bg0) (h2 : InN A R) (hne : R ≠ []) (h3 : ∀ r, InN A r → r ≠ [] → runL A B bg0 r = some bg0 → sle R r) : firstD A B R.length = .tuple (R.map .int) ∨ firstD A B R.length = .none := by
  obtain ⟨n, hn⟩ : ∃ n, R.length = n + 1 := ⟨R.length - 1, by have := List.length_pos_iff.mpr hne; omega⟩
  have hin : (R, bg0) ∈ lvA A B (n + 1) := lvA_in (n + 1) R bg0 hn h2 h1
  unfold firstD
  cases c : firstG A B R.length with
  | none =>
    exfalso
    rw [hn, firstG] at c
    cases c2 : firstG A B n with
    | some d => rw [c2] at c; cases c
    | none =>
      rw [c2] at c
      have c : retF A B n = none := c
      unfold retF at c
      by_cases z : 300 < (lvA A B (n + 1)).length
      · rw [if_pos z] at c; cases c
      · rw [if_neg z] at c
        have hm : (R, bg0) ∈ (lvA A B (n + 1)).filter fun r => isBg r.2 := List.mem_filter.mpr ⟨hin, decide_eq_true rfl⟩
        cases e : (lvA A B (n + 1)).filter fun r => isBg r.2 with
        | nil => rw [e] at hm; cases hm
        | cons r L => rw [e] at c; cases c
  | some d =>
    obtain ⟨N, g1, g2, g3⟩ := firstG_from _ _ c
    rcases retF_row g2 with z | ⟨r, m1, m2, m3⟩
    · exact .inr (by rw [z]; rfl)
    · left
      obtain ⟨a1, a2, a3⟩ := lvA_run (N + 1) _ m1
      have le := h3 r a3 (fun y => by rw [y] at a2; cases a2) a1
      have a2 : r.length = N + 1 := a2
      have eN : N = n := by
        rcases le with y | y | ⟨y, _⟩
        · rw [y] at hn; omega
        · omega
        · omega
      subst eN
      have le2 := m3 R hin
      have er : r = R := by
        rcases le with y | y
        · exact y.symm
        · rcases le2 with w | w
          · exact w
          · exact absurd (slt_trans y w) slt_irr
      show d = _
      rw [m2, er]
theorem firstD_no {A B : List (List Int)} (h : ∀ r, InN A r → r ≠ [] → runL A B bg0 r ≠ some bg0) (n : Nat) : firstD A B n = .tuple [] ∨ firstD A B n = .none := by
  unfold firstD
  cases c : firstG A B n with
  | none => exact .inl rfl
  | some d =>
    obtain ⟨N, g1, g2, g3⟩ := firstG_from _ _ c
    rcases retF_row g2 with z | ⟨r, m1, m2, m3⟩
    · exact .inr (by rw [z]; rfl)
    · obtain ⟨a1, a2, a3⟩ := lvA_run (N + 1) _ m1
      exact absurd a1 (h r a3 fun y => by rw [y] at a2; cases a2)
end K61

namespace K61
open PySem L2 Evl Mini PyProof.Rows
theorem eqv_same {d : PyData} (h : SeqAt.shaped d = true) : PyData.eqv d d = true := SeqAt.eqv_refl d (SeqAt.canLay_of_shaped h)
/-! ### what search tells, as data -/
def reD : Rz → PyData
  | .go q => .tuple (q.st.tail.map restQ)
  | .row q i k => .tuple ((wayQ q.wy i ++ [(k : Int)]).map .int)
  | .opn q => .int (q.wy.length : Int)
def wdD : Rz → Str
  | .go _ => "none"
  | .row _ _ _ => "row"
  | .opn _ => "open"
def mtD : Rz → PyData
  | .go q => .list (q.st.tail.map restQ)
  | .row q _ _ => .list (q.st.tail.map restQ)
  | .opn q => .list (q.st.tail.map restQ)
theorem resZ_eq (r : Rz) : resZ r = .tuple [.str (wdD r), reD r] := by cases r <;> rfl
theorem metD_eq (r : Rz) : metD r = .tuple [.str (wdD r), mtD r] := by cases r <;> rfl
theorem wd_ok (r : Rz) : PyData.strOk (wdD r) = true := by
  cases r with
  | go _ => show PyData.strOk "none" = true; decide +kernel
  | row _ _ _ => show PyData.strOk "row" = true; decide +kernel
  | opn _ => show PyData.strOk "open" = true; decide +kernel
theorem depth_rests (L : List St2) : PyData.depthAll (L.map restQ) ≤ 10 := by
  induction L with
  | nil => exact Nat.zero_le _
  | cons s L ih =>
    show PyData.depthAll (restQ s :: L.map restQ) ≤ 10
    rw [PyData.depthAll]
    have := depth_rest s
    omega
theorem reD_can (r : Rz) : (reD r).canLay0 = true ∧ (reD r).depth ≤ 11 := by
  cases r with
  | go q =>
    show (PyData.tuple (q.st.tail.map restQ)).canLay0 = true ∧ (PyData.tuple (q.st.tail.map restQ)).depth ≤ 11
    rw [PyData.canLay0, PyData.depth]
    exact ⟨canLay_rests _, by have := depth_rests q.st.tail; omega⟩
  | row q i k =>
    have h := shaped_tints (wayQ q.wy i ++ [(k : Int)])
    unfold SeqAt.shaped at h
    rw [Bool.and_eq_true] at h
    refine ⟨h.1, ?_⟩
    have e : ∀ ns : List Int, PyData.depthAll (ns.map .int) = 0 := fun ns => by
      induction ns with
      | nil => rfl
      | cons n ns ih => simp [PyData.depthAll, PyData.depth, ih]
    show (PyData.tuple ((wayQ q.wy i ++ [(k : Int)]).map .int)).depth ≤ 11
    rw [PyData.depth, e]; decide
  | opn q => exact ⟨rfl, by show PyData.depth (.int _) ≤ 11; rw [PyData.depth]; decide⟩
theorem reD_sh (r : Rz) : SeqAt.shaped (reD r) = true := by
  obtain ⟨a, b⟩ := reD_can r
  unfold SeqAt.shaped
  rw [Bool.and_eq_true]
  exact ⟨a, decide_eq_true (by omega)⟩
theorem resZ_sh (r : Rz) : SeqAt.shaped (resZ r) = true := by
  obtain ⟨a, b⟩ := reD_can r
  rw [resZ_eq]
  unfold SeqAt.shaped
  rw [Bool.and_eq_true]
  refine ⟨?_, decide_eq_true ?_⟩
  · show PyData.canLay0 (.tuple [.str (wdD r), reD r]) = true
    have := wd_ok r
    simp only [PyData.canLay0, PyData.canLayAll0, this, a, Bool.and_true, Bool.true_and]
  · show PyData.depth (.tuple [.str (wdD r), reD r]) ≤ _
    rw [PyData.depth, PyData.depthAll, PyData.depthAll, PyData.depthAll, PyData.depth]
    omega
def setW (W : List (List Int)) (j : Nat) (w : List Int) : List (List Int) := W.set j w
theorem wD_set (W : List (List Int)) (j : Nat) (w : List Int) : (wD W).set j (.tuple (w.map .int)) = wD (W.set j w) := by
  unfold wD; rw [List.map_set]
theorem ixN_mod {n : Nat} {i : Int} (h0 : 0 ≤ i) (h1 : i < n) : ixN n i = some i.toNat := by
  unfold ixN; simp [h0, h1]
section
variable {P : Program} {w : World} {K : PySem.W.Frag} {mg : Str → Option Value} {base : Heap} {cAE cBB cBN cBR cTL cBk cPr aE0 aEV aBG : Addr}
/-! ### the law -/
def S_law (K : PySem.W.Frag) : Fs := ⟨{x : List Int // x.length ≤ 63}, 1, fun x => [.im (isS K x.1)], fun _ => rfl, fun _ => .ok (isD (.bool true))⟩
abbrev st_law : Stmt := top 44
theorem sc_law : FnScope ["script", "draws", "size", "letters", "most", "first", "second", "pair", "told", "value", "word", "met", "more"] ["script"] (defScope st_law) := ⟨rfl, rfl, rfl, by decide +kernel, rfl, by decide +kernel, by decide +kernel⟩
theorem ok_law {f : Addr} {fd : FuncData} (T : Txt K mg cAE cBB cBN cBR cTL cBk cPr aE0 aEV aBG) (F__law_draws : FnC P w K mg base 1 "_law_draws" (spF (S_law_draws K))) (F__law_words : FnC P w K mg base 1 "_law_words" (spF (S_lwords))) (K_Pair : MkC P w K mg base 1 cPr "Pair" (spN cPr (S_Pair cBk cBB))) (K_Book : MkC P w K mg base 4 cBk "Book" (spN cBk (S_Book cBB))) (F_search : FnC P w K mg base 6 "search" (spF (S_search cBk cPr cBB cBN))) (F__law_met : FnC P w K mg base 2 "_law_met" (spF (S_lmet))) (F__law_is_alike : FnC P w K mg base 1 "_law_is_alike" (spF (S_lalike))) (F__law_first : FnC P w K mg base 2 "_law_first" (spF (S_lfirst))) (F : Fun K "law" "law" st_law f fd) : FnOk P w K mg base (L2.CX P w) 7 f fd ["script"] (spF (S_law K)) := by
  refine fn_ok F sc_law rfl fun cdv A outer s H E hr => ?_
  have tk : Takes (cxD P w K mg base ["script", "draws", "size", "letters", "most", "first", "second", "pair", "told", "value", "word", "met", "more"] "law" st_law f cdv A outer s H E) (fun cls d _ H => E cls d H) := takes_of rfl rfl rfl rfl
  have hx := pxM tk
  have nd := sc_law.nd
  refine ⟨_, (pss_cons (ps_set (i := 1) nd rfl (Or.inl rfl) (pe_fn F__law_draws hr hx (pa_cons (pv 0) (pa_cons pe_int pa_nil))))
 (pss_cons (ps_par (i := 2) (j := 3) rfl nd rfl rfl (by decide) rfl rfl (pa_cons (pe_op op_uAdd pe_int (pe_op op_mod (pe_callTy call_int1 (by rfl) T.no_int (by decide +kernel) (pa_cons (pe_ix ix_seq (pv 1) pe_int (fun _ _ => rfl)) pa_nil)) pe_int)) (pa_cons (pe_op op_uAdd pe_int (pe_op op_mod (pe_callTy call_int1 (by rfl) T.no_int (by decide +kernel) (pa_cons (pe_ix ix_seq (pv 1) pe_int (fun _ _ => rfl)) pa_nil)) pe_int)) pa_nil)) (by rfl))
 (pss_cons (ps_set (i := 4) nd rfl (Or.inl rfl) (pe_op op_uAdd pe_int (pe_op op_mod (pe_callTy call_int1 (by rfl) T.no_int (by decide +kernel) (pa_cons (pe_ix ix_seq (pv 1) pe_int (fun _ _ => rfl)) pa_nil)) (pe_ix ix_seq (pe_lst (pa_cons pe_int (pa_cons pe_int (pa_cons pe_int pa_nil)))) (pe_op op_uMul (pe_callTy call_int1 (by rfl) T.no_int (by decide +kernel) (pa_cons (pe_cmpR (op_eqD hr.units) (pe_op op_mod (pe_callTy call_int1 (by rfl) T.no_int (by decide +kernel) (pa_cons (pe_ix ix_seq (pv 1) pe_int (fun _ _ => rfl)) pa_nil)) pe_int) pe_int (nomark _)) pa_nil)) pe_int) (fun _ _ => rfl)))))
 (pss_cons (ps_par (i := 5) (j := 6) rfl nd rfl rfl (by decide) rfl rfl (pa_cons (pe_fn F__law_words hr hx (pa_cons (pv 1) (pa_cons (pv 2) (pa_cons (pv 3) (pa_cons pe_int pa_nil))))) (pa_cons (pe_fn F__law_words hr hx (pa_cons (pe_slice sl_uSl (pv 1) (po_some pe_int) po_none) (pa_cons (pv 2) (pa_cons (pv 3) (pa_cons pe_int pa_nil))))) pa_nil)) (by rfl))
 (pss_cons (ps_if (pt_cmpR (op_eqD hr.units) (pe_op op_mod (pe_callTy call_int1 (by rfl) T.no_int (by decide +kernel) (pa_cons (pe_ix ix_seq (pv 1) pe_int (fun _ _ => rfl)) pa_nil)) pe_int) pe_int (nomark _)) (pss_one (ps_asg (pe_ix ix_seq (pv 5) (pe_op op_mod (pe_callTy call_int1 (by rfl) T.no_int (by decide +kernel) (pa_cons (pe_ix ix_seq (pv 1) pe_int (fun _ _ => rfl)) pa_nil)) (pv 2)) (fun _ _ => rfl)) (pg_sub (pv 6) (pe_op op_mod (pe_callTy call_int1 (by rfl) T.no_int (by decide +kernel) (pa_cons (pe_ix ix_seq (pv 1) pe_int (fun _ _ => rfl)) pa_nil)) (pv 2)) set_list))) pss_nil)
 (pss_cons (ps_set (i := 7) nd rfl (Or.inl rfl) (pe_mk K_Pair hr hx (pa_cons (pe_mk K_Book hr hx (pa_cons (pv 3) (pa_cons (pe_callTy call_list_of (by rfl) T.no_list (by decide +kernel) (pa_cons (pv 5) pa_nil)) pa_nil))) (pa_cons (pe_mk K_Book hr hx (pa_cons (pv 3) (pa_cons (pe_callTy call_list_of (by rfl) T.no_list (by decide +kernel) (pa_cons (pv 6) pa_nil)) pa_nil))) pa_nil))))
 (pss_cons (ps_asg (pe_fn F_search hr hx (pa_cons (pv 7) (pa_cons (pv 4) pa_nil))) (pg_tup rfl (pgs_cons (pg_name (i := 8) nd rfl (Or.inl rfl)) (pgs_cons (pg_name (i := 9) nd rfl (Or.inl rfl)) pgs_nil))))
 (pss_cons (ps_asg (pe_fn F__law_met hr hx (pa_cons (pv 5) (pa_cons (pv 6) (pa_cons (pv 4) pa_nil)))) (pg_tup rfl (pgs_cons (pg_name (i := 10) nd rfl (Or.inl rfl)) (pgs_cons (pg_name (i := 11) nd rfl (Or.inl rfl)) pgs_nil))))
 (pss_cons (ps_if (pt_cmpR (op_neD hr.units) (pv 8) (pv 10) (nomark _)) (pss_one (ps_ret pe_bl)) pss_nil)
 (pss_cons (ps_if (pt_cmpR (op_eqD hr.units) (pv 8) pe_str (nomark _)) (pss_one (ps_if (PW.pt (pw_or (pt_not (pt_val (pe_fn F__law_is_alike hr hx (pa_cons (pv 5) (pa_cons (pv 6) (pa_cons (pv 9) pa_nil)))))) (pw_or1 (pt_cmpR (op_notInDT hr.units) (pe_fn F__law_first hr hx (pa_cons (pv 5) (pa_cons (pv 6) (pa_cons (pe_callB call_len (by rfl) T.no_len (by decide +kernel) (pa_cons (pv 9) pa_nil)) pa_nil)))) (pe_tup (pa_cons (pv 9) (pa_cons pe_non pa_nil))) (by rfl))))) (pss_one (ps_ret pe_bl)) pss_nil)) (pss_one (ps_if (pt_cmpR (op_eqD hr.units) (pv 8) pe_str (nomark _)) (pss_one (ps_if (PW.pt (pw_or (pt_cmpR (op_neD hr.units) (pv 9) (pe_tupleOf (by rfl) T.no_tuple (pv 11)) (nomark _)) (pw_or1 (pt_cmpR (op_notInDT hr.units) (pe_fn F__law_first hr hx (pa_cons (pv 5) (pa_cons (pv 6) (pa_cons pe_int pa_nil)))) (pe_tup (pa_cons (pe_tup pa_nil) (pa_cons pe_non pa_nil))) (by rfl))))) (pss_one (ps_ret pe_bl)) pss_nil)) (pss_one (ps_if (PW.pt (pw_or (pt_cmpR (op_neD hr.units) (pv 9) (pe_callB call_len (by rfl) T.no_len (by decide +kernel) (pa_cons (pv 11) pa_nil)) (nomark _)) (pw_or1 (pt_cmpR (op_neD hr.units) (pv 9) (pv 4) (nomark _))))) (pss_one (ps_ret pe_bl)) pss_nil)))))
 (pss_cons (ps_set (i := 12) nd rfl (Or.inl rfl) (pe_fn F_search hr hx (pa_cons (pv 7) (pa_cons (pe_op op_uAdd (pv 4) pe_int) pa_nil))))
 (pss_one (ps_ret (pe_or (pe_cmpR (op_eqD hr.units) (pv 8) pe_str (nomark _)) (pe_one (pe_cmpR (op_eqD hr.units) (pv 12) (pe_tup (pa_cons (pv 8) (pa_cons (pv 9) pa_nil))) (nomark _))))))))))))))))), ?_⟩
  intro x
  obtain ⟨ns, hns⟩ := x
  have hns : ns.length ≤ 63 := hns
  have hz : (sizeLine : Nat) = 16777216 := sizeLine_eq
  refine .ok ?_
  have hDl : (drawsF ns 110).length = 110 := drawsF_len (by decide)
  have hDr : ∀ k, Dr (atD (drawsF ns 110) k) := atD_dr (drawsF_dr (by decide))
  refine ss_seq (ss_set (P := isD (.list ((drawsF ns 110).map .int))) (sv_svl (svl_call (S := S_law_draws K) (sa_im (sv_var rfl) (sa_im sv_int sa_nil)) ⟨(ns, 110), hns, by show (0 : Int) ≤ 110; decide, by show (110 : Int) ≤ 1000; decide⟩ rfl rfl))) ?_
  generalize drawsF ns 110 = D at hDl hDr ⊢
  have dr : ∀ {G : Gm} {te : TE} {k : Nat}, G[1]? = some (.im (isD (.list (D.map .int)))) → k < 110 → Sv te G (isD (.int (k : Int))) → Sv (tCB cInt (tCons (tOp (rIx K) (tVar 1) te) tNil)) G (isD (.int (atD D k))) := fun {G te k} h hk ht => sv_int1 (sv_ixL (i := ((k : Nat) : Int)) (rl_sv (sv_var h)) ht (atI_ints (ds := D) (k := k) (by omega)))
  refine ss_seq (ss_par (sv_add sv_int (sv_mod (dr (k := 100) rfl (by omega) sv_int) sv_int (by decide))) (sv_add sv_int (sv_mod (dr (k := 101) rfl (by omega) sv_int) sv_int (by decide)))) ?_
  have hs0 : 1 ≤ 1 + atD D 100 % 5 := by have := Int.emod_nonneg (atD D 100) (show (5 : Int) ≠ 0 by decide); omega
  have hs1 : 1 + atD D 100 % 5 ≤ 5 := by have := Int.emod_lt_of_pos (atD D 100) (show (0 : Int) < 5 by decide); omega
  have hl0 : 1 ≤ 1 + atD D 101 % 3 := by have := Int.emod_nonneg (atD D 101) (show (3 : Int) ≠ 0 by decide); omega
  have hl1 : 1 + atD D 101 % 3 ≤ 3 := by have := Int.emod_lt_of_pos (atD D 101) (show (0 : Int) < 3 by decide); omega
  generalize 1 + atD D 100 % 5 = size at hs0 hs1 ⊢
  generalize 1 + atD D 101 % 3 = m at hl0 hl1 ⊢
  have mo : ∀ (k : Nat) {c : Int}, 0 < c → 0 ≤ atD D k % c ∧ atD D k % c < c := fun k {c} h => ⟨Int.emod_nonneg _ (by omega), Int.emod_lt_of_pos _ h⟩
  obtain ⟨most, hm1, hm2, hms⟩ : ∃ most : Int, 1 ≤ most ∧ most ≤ 400 ∧ most = 1 + atD D 102 % (if atD D 103 % 8 = 0 then 400 else 60) := by
    refine ⟨_, ?_, ?_, rfl⟩
    · split
      · have := (mo 102 (c := 400) (by decide)).1; omega
      · have := (mo 102 (c := 60) (by decide)).1; omega
    · split
      · have := (mo 102 (c := 400) (by decide)).2; omega
      · have := (mo 102 (c := 60) (by decide)).2; omega
  have hix : atI [PyData.int 60, .int 60, .int 400] ((if decide (atD D 103 % 8 = 0) = true then 1 else 0) * 2) = some (.int (if atD D 103 % 8 = 0 then 400 else 60)) := by
    by_cases c : atD D 103 % 8 = 0
    · simp only [c, decide_true, if_true]; exact atI_nat (j := 2) rfl
    · simp only [c, decide_false, if_false]; exact atI_nat (j := 0) rfl
  refine ss_seq (ss_set (P := isD (.int most)) (sv_is (sv_add sv_int (sv_mod (dr (k := 102) rfl (by omega) sv_int) (sv_ixL (rl_svl (svl_lst (ds := [.int 60, .int 60, .int 400]) (sa_ims sv_int (sa_ims sv_int (sa_ims sv_int sa_nil))) (by show 3 ≤ sizeLine; decide))) (sv_mul (sv_intB (sv_eqI (sv_mod (dr (k := 103) rfl (by omega) sv_int) sv_int (by decide)) sv_int)) sv_int (.inr ⟨by decide, by decide⟩)) hix) (by split <;> decide))) (by rw [hms]))) ?_
  clear hix
  have wl : ∀ (D : List Int), GoodW (wordsL D size m 4) m ∧ ∀ w ∈ wordsL D size m 4, w.length ≤ 4 := fun D => by
    have w : ∀ w ∈ wordsL D size m 4, 1 ≤ w.length ∧ w.length ≤ 4 ∧ ∀ v ∈ w, 0 ≤ v ∧ v < m := fun w hw => by
      obtain ⟨k, _, rfl⟩ := List.mem_map.mp hw
      exact wordL_ok hl0 (by decide) (by decide)
    exact ⟨⟨by rw [wordsL_len]; omega, fun x hx => by obtain ⟨a, b, c⟩ := w x hx; exact ⟨a, by omega, c⟩⟩, fun x hx => (w x hx).2.1⟩
  refine ss_seq (ss_parLL (ds := wD (wordsL D size m 4)) (es := wD (wordsL (D.drop 40) size m 4)) (svl_call (S := S_lwords) (sa_im (sv_var rfl) (sa_im (sv_var rfl) (sa_im (sv_var rfl) (sa_im sv_int sa_nil)))) ⟨(D, size, m, 4), hl0, ⟨by show (1 : Int) ≤ 4; decide, by show (4 : Int) ≤ 4; decide⟩, ⟨by show 0 ≤ size; omega, by show size ≤ 10; omega⟩, by show 8 * size ≤ (D.length : Int); omega⟩ rfl rfl)
    (svl_call (S := S_lwords) (sa_im (P := isD (.list ((D.drop 40).map .int))) (sv_svl (svl_is (svl_slice (ds := D.map .int) (rl_sv (sv_var rfl)) (so_some (i := ((40 : Nat) : Int)) sv_int) so_none) (by rw [cut_drop _ (by omega), Int.toNat_natCast, List.map_drop]))) (sa_im (sv_var rfl) (sa_im (sv_var rfl) (sa_im sv_int sa_nil)))) ⟨(D.drop 40, size, m, 4), hl0, ⟨by show (1 : Int) ≤ 4; decide, by show (4 : Int) ≤ 4; decide⟩, ⟨by show 0 ≤ size; omega, by show size ≤ 10; omega⟩, by show 8 * size ≤ ((D.drop 40).length : Int); rw [List.length_drop]; omega⟩ rfl rfl)) ?_
  obtain ⟨gF, sF⟩ := wl D
  obtain ⟨gS, sS⟩ := wl (D.drop 40)
  have lF : ((wordsL D size m 4).length : Int) = size := by rw [wordsL_len]; omega
  have lS : ((wordsL (D.drop 40) size m 4).length : Int) = size := by rw [wordsL_len]; omega
  generalize wordsL D size m 4 = F at gF sF lF ⊢
  generalize wordsL (D.drop 40) size m 4 = S0 at gS sS lS ⊢
  have h5 := mo 105 (c := size) (by omega)
  have h6 := mo 106 (c := size) (by omega)
  let Gx : List (List Int) → Sl → Sl → Sl → Sl → Sl → Sl → Gm := fun S x7 x8 x9 x10 x11 x12 => [.im (isS K ns), .im (isD (.list (D.map .int))), .im (isD (.int size)), .im (isD (.int m)), .im (isD (.int most)), .ow (isL (wD F)), .ow (isL (wD S)), x7, x8, x9, x10, x11, x12]
  have good : ∃ S, GoodW S m ∧ (∀ w ∈ S, w.length ≤ 4) ∧ S.length = F.length ∧ S = if decide (atD D 104 % 3 = 0) = true then S0.set (atD D 105 % size).toNat (wAt F (atD D 106 % size)) else S0 := by
    refine ⟨_, ?_, ?_, ?_, rfl⟩
    · split
      · have hw := wAt_ok gF h6.1 (by omega)
        exact ⟨by rw [List.length_set]; exact gS.1, fun w hw' => by
          rcases List.mem_or_eq_of_mem_set hw' with z | z
          · exact gS.2 w z
          · rw [z]; exact hw⟩
      · exact gS
    · intro w hw
      split at hw
      · rcases List.mem_or_eq_of_mem_set hw with z | z
        · exact sS w z
        · rw [z]
          have hn : (atD D 106 % size).toNat < F.length := by omega
          have e : wAt F (atD D 106 % size) = F[(atD D 106 % size).toNat] := by unfold wAt; rw [List.getD_eq_getElem?_getD, List.getElem?_eq_getElem hn]; rfl
          rw [e]; exact sF _ (List.getElem_mem hn)
      · exact sS w hw
    · split
      · rw [List.length_set]; omega
      · omega
  obtain ⟨S, gS', sS', lS', eS⟩ := good
  refine ss_seq (G1 := Gx S .no .no .no .no .no .no) (ss_if (b := decide (atD D 104 % 3 = 0)) (st_test (sv_eqI (sv_mod (dr (k := 104) rfl (by omega) sv_int) sv_int (by decide)) sv_int)) (fun z => ?_) fun z => ?_) ?_
  · rw [if_pos z] at eS
    show Ss _ _ (Gx S0 .no .no .no .no .no .no) _
    rw [eS]
    show Ss _ _ _ (.nx [.im (isS K ns), .im (isD (.list (D.map .int))), .im (isD (.int size)), .im (isD (.int m)), .im (isD (.int most)), .ow (isL (wD F)), .ow (isL (wD (S0.set (atD D 105 % size).toNat (wAt F (atD D 106 % size))))), .no, .no, .no, .no, .no, .no])
    rw [← wD_set]
    have hF : atI (wD F) (atD D 106 % size) = some (.tuple ((wAt F (atD D 106 % size)).map .int)) := by
      have e : (((atD D 106 % size).toNat : Nat) : Int) = atD D 106 % size := by omega
      rw [← e]
      exact atI_nat (by rw [e]; exact wD_get (by omega))
    exact ss_setItem (n := 6) rfl (sv_ixL (rl_ow rfl) (sv_mod (dr (k := 106) rfl (by omega) sv_int) (sv_var rfl) (by omega)) hF) (sv_mod (dr (k := 105) rfl (by omega) sv_int) (sv_var rfl) (by omega)) (ixN_mod h5.1 (by unfold wD; rw [List.length_map]; omega))
  · rw [if_neg (by rw [z]; exact Bool.false_ne_true)] at eS
    rw [eS]
    exact ss_next
  clear eS
  obtain ⟨mn, rfl⟩ := Int.eq_ofNat_of_zero_le (show 0 ≤ most by omega)
  have hmn : mn ≤ 400 := by omega
  have hT : Two F S m := ⟨gF, gS', by omega, by omega⟩
  have wl4 : ∀ {W : List (List Int)}, (∀ w ∈ W, w.length ≤ 4) → ∀ k : Nat, (wAt W k).length ≤ 4 := fun {W} h k => by
    unfold wAt
    rw [List.getD_eq_getElem?_getD]
    cases e : W[((k : Nat) : Int).toNat]? with
    | none => exact Nat.zero_le _
    | some w => exact h w (List.mem_of_getElem? e)
  have hW : ∀ k : Nat, k < F.length → (wAt F k).length ≤ 4 ∧ (wAt S k).length ≤ 4 := fun k _ => ⟨wl4 sF k, wl4 sS' k⟩
  have mkB : ∀ {G : Gm} {a b : TE} {W : List (List Int)}, Sv a G (isD (.int m)) → Sv b G (isD (.list (wD W))) → GoodW W m → Sv (tMk cBk (spN cBk (S_Book cBB)) (fun _ => E) (tCons a (tCons b tNil))) G (isI cBk (bookF (.int m) (wD W))) := fun {G a b W} h h' hW =>
    sv_mk (S := S_Book cBB) (sa_im h (sa_im h' sa_nil)) ⟨(.int m, .inl (.list (wD W))), hW.fits⟩ rfl (res_good _ rfl rfl (good_wD (by omega) (by omega) hW))
  let Pr : Ty := isI cPr (pairF cBk m (wD F) m (wD S))
  let Gy : Sl → Sl → Sl → Sl → Sl → Gm := fun x8 x9 x10 x11 x12 => [.im (isS K ns), .im (isD (.list (D.map .int))), .im (isD (.int size)), .im (isD (.int m)), .im (isD (.int (mn : Int))), .im (isD (.list (wD F))), .im (isD (.list (wD S))), .im Pr, x8, x9, x10, x11, x12]
  refine ss_freeze (n := 5) rfl (ss_freeze (n := 6) rfl (ss_seq (G1 := Gy .no .no .no .no .no) (ss_set (P := Pr) (sv_mk (S := S_Pair cBk cBB) (sa_im (mkB (sv_var rfl) (sv_svl (svl_list (rl_sv (sv_var rfl)))) gF) (sa_im (mkB (sv_var rfl) (sv_svl (svl_list (rl_sv (sv_var rfl)))) gS') sa_nil)) ((m, wD F), (m, wD S)) rfl (if_pos rfl))) ?_))
  have sr : ∀ {G : Gm} {te : TE} {k : Nat}, G[7]? = some (.im Pr) → Sv te G (isD (.int (k : Int))) → 1 ≤ k → k ≤ 5000 → Sv (tCallS (spF (S_search cBk cPr cBB cBN)) (fun _ => E) (tCons (tVar 7) (tCons te tNil))) G (isD (resZ (outQ F S k (k + 2)))) := fun {G te k} h7 ht h1 h2 =>
    sv_call (S := S_search cBk cPr cBB cBN) (sa_im (sv_var h7) (sa_im ht sa_nil)) ⟨((m, F, S), .int (k : Int)), gF, gS', by show m ≤ 60; omega⟩ rfl (by
      show resS cBB cBN F S (.int (k : Int)) = _
      unfold resS
      rw [if_pos hT.len, if_pos]
      · rfl
      · rw [Bool.and_eq_true]
        refine ⟨(belowB_int _ _).mpr ⟨by omega, by omega⟩, ?_⟩
        show (!decide ((k : Int) = 0)) = true
        rw [decide_eq_false (by omega)]; rfl)
  have hM : MtOk F S m 4 mn := ⟨hT, hW, by omega, by omega⟩
  obtain ⟨Z, hZ⟩ : ∃ Z, outQ F S mn (mn + 2) = Z := ⟨_, rfl⟩
  obtain ⟨Z2, hZ2⟩ : ∃ Z2, outQ F S (mn + 40) (mn + 40 + 2) = Z2 := ⟨_, rfl⟩
  have hmore : Z.isOpn = false → Z2 = Z := fun h => by rw [← hZ2, ← hZ]; exact srch_more hT (by omega) (by rw [hZ]; exact h)
  refine ss_seq (ss_unpT2 (d1 := .str (wdD Z)) (d2 := reD Z) (sv_is (sr rfl (sv_var rfl) (by omega) (by omega)) (by rw [hZ, resZ_eq]))) ?_
  refine ss_seq (ss_unpT2 (d1 := .str (wdD Z)) (d2 := mtD Z) (sv_is (sv_call (S := S_lmet) (sa_im (sv_var rfl) (sa_im (sv_var rfl) (sa_im (sv_var rfl) sa_nil))) ⟨((F, S), mn), m, 4, hM⟩ rfl rfl) (by show metD (outQ F S mn (mn + 2)) = _; rw [hZ, metD_eq]))) ?_
  have shw : SeqAt.shaped (.str (wdD Z)) = true := shS (wd_ok Z)
  refine ss_seq (ss_if0 (st_is (st_test (sv_ne (d := .str (wdD Z)) (e := .str (wdD Z)) (sv_var rfl) (sv_var rfl) shw shw)) (by rw [eqv_same shw]; rfl)) ss_next) ?_
  have te : ∀ {G : Gm} {w : Str} {b : Bool}, PyData.strOk w = true → G[8]? = some (.im (isD (.str (wdD Z)))) → (wdD Z == w) = b → St' (tTest (tOp (rEqD K) (tVar 8) (tC (.str w)))) G b := fun {G w b} hw h8 e => st_is (st_test (sv_eq (d := .str (wdD Z)) (e := .str w) (sv_var h8) sv_str shw (shS hw))) (by rw [PyData.eqv]; exact e)
  have endO : ∀ {G : Gm}, G[8]? = some (.im (isD (.str (wdD Z)))) → G[9]? = some (.im (isD (reD Z))) → G[12]? = some (.im (isD (resZ Z2))) → Sv (tOrV (tOp (rEqD K) (tVar 8) (tC (.str "open"))) (tOp (rEqD K) (tVar 12) (tTup (tCons (tVar 8) (tCons (tVar 9) tNil))))) G (isD (.bool true)) := fun {G} h8 h9 h12 => by
    by_cases c : Z.isOpn = true
    · have e : wdD Z = "open" := by cases Z <;> first | rfl | cases c
      exact sv_is (sv_or (b := true) (c := true) (sv_is (sv_eq (d := .str (wdD Z)) (e := .str "open") (sv_var h8) sv_str shw (shS (by decide +kernel))) (by rw [e]; rfl)) fun z => by cases z) rfl
    · have c : Z.isOpn = false := by simpa using c
      have e : (wdD Z == "open") = false := by cases Z with
        | go _ => show (("none" : Str) == "open") = false; decide +kernel
        | row _ _ _ => show (("row" : Str) == "open") = false; decide +kernel
        | opn _ => cases c
      refine sv_is (sv_or (b := false) (c := true) (sv_is (sv_eq (d := .str (wdD Z)) (e := .str "open") (sv_var h8) sv_str shw (shS (by decide +kernel))) (by rw [PyData.eqv, e])) fun _ => sv_is (sv_eq (d := resZ Z2) (e := .tuple [.str (wdD Z), reD Z]) (sv_var h12) (sv_tt (sv_var h8) (sv_var h9)) (resZ_sh Z2) (by rw [← resZ_eq]; exact resZ_sh Z)) (by rw [hmore c, resZ_eq, eqv_same (by rw [← resZ_eq]; exact resZ_sh Z)])) rfl
  have fin : ∀ {x10 x11 : Sl}, Ss (fun _ => E) (tSeq (tAsg (tCallS (spF (S_search cBk cPr cBB cBN)) (fun _ => E) (tCons (tVar 7) (tCons (tOp (uAdd K) (tVar 4) (tC (.int 40))) tNil))) (gName 12)) (tRet (tOrV (tOp (rEqD K) (tVar 8) (tC (.str "open"))) (tOp (rEqD K) (tVar 12) (tTup (tCons (tVar 8) (tCons (tVar 9) tNil))))))) (Gy (.im (isD (.str (wdD Z)))) (.im (isD (reD Z))) x10 x11 .no) (.rt (isD (.bool true))) := fun {x10 x11} =>
    ss_seq (ss_set (P := isD (resZ Z2)) (sv_is (sr (k := mn + 40) rfl (sv_is (sv_add (sv_var rfl) sv_int) (by rw [Int.natCast_add]; rfl)) (by omega) (by omega)) (by rw [hZ2]))) (ss_ret (endO rfl rfl rfl))
  have fst : ∀ {G : Gm} {te : TE} {n : Nat}, G[5]? = some (.im (isD (.list (wD F)))) → G[6]? = some (.im (isD (.list (wD S)))) → Sv te G (isD (.int (n : Int))) → n ≤ 6000 → Sv (tCallS (spF S_lfirst) (fun _ => E) (tCons (tVar 5) (tCons (tVar 6) (tCons te tNil)))) G (isD (firstD F S n)) := fun {G te n} h5 h6 ht hn =>
    sv_call (S := S_lfirst) (sa_im (sv_var h5) (sa_im (sv_var h6) (sa_im ht sa_nil))) ⟨((F, S), n), m, 4, hT, hW, by show 4 * (n + 1) ≤ 90000; omega, by show 4 ≤ 90000; decide, by show n ≤ 6000; omega⟩ rfl rfl
  have nin : ∀ {G : Gm} {ta tb : TE} {d v : PyData}, Sv ta G (isD d) → Sv tb G (isD v) → SeqAt.shaped v = true → (d = v ∨ d = .none) → v.depth ≤ 10 → St' (tTest (tOp (rInDT K true) ta (tTup (tCons tb (tCons (tC .non) tNil))))) G false := fun {G ta tb d v} ha hb hv hd hdp => by
    have hc : v.canLay0 = true := SeqAt.canLay_of_shaped hv
    have hdc : d.canLay0 = true ∧ d.depth ≤ 10 := by
      rcases hd with rfl | rfl
      · exact ⟨hc, hdp⟩
      · exact ⟨rfl, by rw [PyData.depth]; decide⟩
    refine st_is (st_test (sv_inDT (neg := true) (d := d) (ds := [v, .none]) (sv_pD ha) (sv_pD (sv_tup (ds := [v, .none]) (sa_ims hb (sa_ims sv_non sa_nil)) (by show 2 ≤ sizeLine; decide))) ?_ hdc.1 hdc.2)) ?_
    · simp [PyData.canLayAll0, hc, PyData.canLay0]
    · show (!(PyData.eqv v d || (PyData.eqv .none d || false))) = false
      rcases hd with rfl | rfl
      · rw [eqv_same hv]; rfl
      · rw [show PyData.eqv .none .none = true from rfl]; simp
  have dT : ∀ ns : List Int, (PyData.tuple (ns.map .int)).depth ≤ 10 := fun ns => by
    have e : PyData.depthAll (ns.map .int) = 0 := by
      induction ns with
      | nil => rfl
      | cons n ns ih => simp [PyData.depthAll, PyData.depth, ih]
    rw [PyData.depth, e]; decide
  cases Z with
  | row q i k =>
    obtain ⟨o1, o2, o3, r1, r2, r3⟩ := srch_row hT hZ
    have hlen : (wayQ q.wy i ++ [(k : Int)]).length ≤ 402 := by
      have := (way_back (fun i w h => (o1.wk i w h).1) i i (Nat.le_refl _) (by have := o1.len; omega)).2.2.2
      have h2 : (wayQ q.wy i).length ≤ i := this
      have := o1.len
      have := o1.few
      rw [List.length_append]
      show (wayQ q.wy i).length + 1 ≤ 402
      omega
    have hne : wayQ q.wy i ++ [(k : Int)] ≠ [] := by simp
    have erd : reD (.row q i k) = .tuple ((wayQ q.wy i ++ [(k : Int)]).map .int) := rfl
    rw [erd] at fin ⊢
    generalize wayQ q.wy i ++ [(k : Int)] = R at hlen hne r1 r2 r3 fin ⊢
    have hal : alikeB F S R = true := by
      unfold alikeB
      rw [decide_eq_true (List.length_pos_iff.mpr hne), decide_eq_true (runL_alike r1)]; rfl
    refine ss_seq (ss_if1 (te (by decide +kernel) rfl (by show (("row" : Str) == "row") = true; decide +kernel)) (ss_if0 (st_is (st_or (b := false) (c := false) (st_is (st_not (st_B (sv_call (S := S_lalike) (sa_im (sv_var rfl) (sa_im (sv_var rfl) (sa_im (sv_var rfl) sa_nil))) ⟨((F, S), R), 4, hW, hT.len, r2, by show 4 * R.length ≤ 1000000; omega, by show R.length ≤ 100000; omega⟩ rfl rfl))) (by show (!alikeB F S R) = false; rw [hal]; rfl)) fun _ => nin (fst rfl rfl (sv_is (sv_lenT (ds := R.map .int) (sv_var rfl)) (by rw [List.length_map])) (by omega)) (sv_var rfl) (shaped_tints R) (firstD_row r1 r2 hne r3) (dT R)) rfl) ss_next)) fin
  | go q =>
    obtain ⟨o1, r1⟩ := srch_none hT hZ
    have hno : ∀ r, InN F r → r ≠ [] → runL F S bg0 r ≠ some bg0 := fun r hr hne h => (r1 r hr bg0 h).2 hne rfl
    have sh := reD_sh (.go q)
    refine ss_seq (ss_if0 (te (by decide +kernel) rfl (by show (("none" : Str) == "row") = false; decide +kernel)) (ss_if1 (te (by decide +kernel) rfl (by show (("none" : Str) == "none") = true; decide +kernel)) (ss_if0 (st_is (st_or (b := false) (c := false) (st_is (st_test (sv_ne (d := reD (.go q)) (e := reD (.go q)) (sv_var rfl) (sv_tupleL (ds := q.st.tail.map restQ) (rl_sv (sv_var rfl))) sh sh)) (by rw [eqv_same sh]; rfl)) fun _ => nin (fst (n := 12) rfl rfl sv_int (by decide)) (sv_tup (ds := []) sa_nil (Nat.zero_le _)) (shaped_tints []) (firstD_no hno 12) (dT [])) rfl) ss_next))) fin
  | opn q =>
    have e := srch_opn hT hW (by omega) hZ
    have hl : q.st.tail.length = mn := by
      obtain ⟨a, q0, h1, h2, h3, h4⟩ := out_leave _ _ hZ rfl
      obtain ⟨k1, q1, g1, g2, g3⟩ := inn_leave F.length _ h4 rfl
      obtain ⟨rfl, _⟩ := turn_opn g3
      have := (inn_ok (out_ok hT _ q0 h2) hT h3 k1 q (by omega) g2).1.len
      rw [List.length_tail, this]; omega
    refine ss_seq (ss_if0 (te (by decide +kernel) rfl (by show (("open" : Str) == "row") = false; decide +kernel)) (ss_if0 (te (by decide +kernel) rfl (by show (("open" : Str) == "none") = false; decide +kernel)) (ss_if0 (st_is (st_or (b := false) (c := false) (st_is (st_test (sv_neI (i := (q.wy.length : Int)) (j := (q.wy.length : Int)) (sv_var rfl) (sv_is (sv_lenL (ds := q.st.tail.map restQ) (rl_sv (sv_var rfl))) (by rw [List.length_map, hl, e])))) (by simp)) fun _ => st_is (st_test (sv_neI (i := (q.wy.length : Int)) (j := (mn : Int)) (sv_var rfl) (sv_var rfl))) (by rw [e]; simp)) rfl) ss_next))) fin
end
end K61

namespace K61
open PySem L2 Evl Mini PyProof.Rows
theorem all_mk {l : PySem.W.OpenLaw} {w : World} {K : PySem.W.Frag} {h : Heap} {mg : Str → Option Value} {fa : Addr} {cAE cBB cBN cBR cTL cBk cPr aE0 aEV aBG : Addr} {f_law_draws f_law_words fPair_init fis_count fis_below fare_below f_is_word f_are_words fBook_init fPair_is_even f_check_books fsigns_of fBook_word f_word_pair f_word_pairs f_behind f_size f_row_along fword_of f_rest f_rest_of_signs fsearch f_law_step f_law_met f_law_is_alike f_law_first flaw : Addr} (X : K.In h) (G : h.Ns mainGlobals mg) (hfa : mg "law" = some (.ref fa))
    {od_law_draws an_law_draws od_law_words an_law_words odPair_init anPair_init odis_count anis_count odis_below anis_below odare_below anare_below od_is_word an_is_word od_are_words an_are_words odBook_init anBook_init odPair_is_even anPair_is_even od_check_books an_check_books odsigns_of ansigns_of odBook_word anBook_word od_word_pair an_word_pair od_word_pairs an_word_pairs od_behind an_behind od_size an_size od_row_along an_row_along odword_of anword_of od_rest an_rest od_rest_of_signs an_rest_of_signs odsearch ansearch od_law_step an_law_step od_law_met an_law_met od_law_is_alike an_law_is_alike od_law_first an_law_first odlaw anlaw : Option Addr} {sl_law_draws sl_law_words slPair_init slis_count slis_below slare_below sl_is_word sl_are_words slBook_init slPair_is_even sl_check_books slsigns_of slBook_word sl_word_pair sl_word_pairs sl_behind sl_size sl_row_along slword_of sl_rest sl_rest_of_signs slsearch sl_law_step sl_law_met sl_law_is_alike sl_law_first sllaw : Array (Option Value)} {oc_law_draws kV_law_draws dc_law_draws pm_law_draws cd_law_draws ct_law_draws oc_law_words kV_law_words dc_law_words pm_law_words cd_law_words ct_law_words ocPair_init kVPair_init dcPair_init pmPair_init cdPair_init ctPair_init ocis_count kVis_count dcis_count pmis_count cdis_count ctis_count ocis_below kVis_below dcis_below pmis_below cdis_below ctis_below ocare_below kVare_below dcare_below pmare_below cdare_below ctare_below oc_is_word kV_is_word dc_is_word pm_is_word cd_is_word ct_is_word oc_are_words kV_are_words dc_are_words pm_are_words cd_are_words ct_are_words ocBook_init kVBook_init dcBook_init pmBook_init cdBook_init ctBook_init ocPair_is_even kVPair_is_even dcPair_is_even pmPair_is_even cdPair_is_even ctPair_is_even oc_check_books kV_check_books dc_check_books pm_check_books cd_check_books ct_check_books ocsigns_of kVsigns_of dcsigns_of pmsigns_of cdsigns_of ctsigns_of ocBook_word kVBook_word dcBook_word pmBook_word cdBook_word ctBook_word oc_word_pair kV_word_pair dc_word_pair pm_word_pair cd_word_pair ct_word_pair oc_word_pairs kV_word_pairs dc_word_pairs pm_word_pairs cd_word_pairs ct_word_pairs oc_behind kV_behind dc_behind pm_behind cd_behind ct_behind oc_size kV_size dc_size pm_size cd_size ct_size oc_row_along kV_row_along dc_row_along pm_row_along cd_row_along ct_row_along ocword_of kVword_of dcword_of pmword_of cdword_of ctword_of oc_rest kV_rest dc_rest pm_rest cd_rest ct_rest oc_rest_of_signs kV_rest_of_signs dc_rest_of_signs pm_rest_of_signs cd_rest_of_signs ct_rest_of_signs ocsearch kVsearch dcsearch pmsearch cdsearch ctsearch oc_law_step kV_law_step dc_law_step pm_law_step cd_law_step ct_law_step oc_law_met kV_law_met dc_law_met pm_law_met cd_law_met ct_law_met oc_law_is_alike kV_law_is_alike dc_law_is_alike pm_law_is_alike cd_law_is_alike ct_law_is_alike oc_law_first kV_law_first dc_law_first pm_law_first cd_law_first ct_law_first oclaw kVlaw dclaw pmlaw cdlaw ctlaw : Value}
    {t_c_MOST_LETTERS t_c_MOST_WORDS t_c_LONGEST_WORD t_c_MOST_FOUND t_c_SIGNS : _}
    {t_aEV0 : Tok} {t_aBG0 t_aBG1 : Tok} {n_aE0 : Nat} {s_aE0 : Array (Option Value)} {n_aEV : Nat} {s_aEV : Array (Option Value)} {n_aBG : Nat} {s_aBG : Array (Option Value)} (l_aE0 : K.lookup aE0 = some ⟨.type "tuple", none, .seq #[] n_aE0, s_aE0⟩)
    (g_aEV : PySem.W.nsIn K mainGlobals "EVEN" = some (some (.ref aEV)))
    (l_aEV : K.lookup aEV = some ⟨.type "tuple", none, .seq #[.str "even" t_aEV0, .ref aE0] n_aEV, s_aEV⟩)
    (g_aBG : PySem.W.nsIn K mainGlobals "BEGIN" = some (some (.ref aBG)))
    (l_aBG : K.lookup aBG = some ⟨.type "tuple", none, .seq #[.str "" t_aBG0, .str "" t_aBG1] n_aBG, s_aBG⟩)
    (a_cAE : PySem.W.nsIn K mainGlobals "AlikeError" = some (some (.ref cAE)))
    (a_cBB : PySem.W.nsIn K mainGlobals "BadBook" = some (some (.ref cBB)))
    (a_cBN : PySem.W.nsIn K mainGlobals "BadNumber" = some (some (.ref cBN)))
    (a_cBR : PySem.W.nsIn K mainGlobals "BadRow" = some (some (.ref cBR)))
    (a_cTL : PySem.W.nsIn K mainGlobals "TooLong" = some (some (.ref cTL)))
    (a_cBk : PySem.W.nsIn K mainGlobals "Book" = some (some (.ref cBk)))
    (a_cPr : PySem.W.nsIn K mainGlobals "Pair" = some (some (.ref cPr)))
    (k_c_MOST_LETTERS : PySem.W.nsIn K mainGlobals "MOST_LETTERS" = some (some (.int 60 t_c_MOST_LETTERS)))
    (k_c_MOST_WORDS : PySem.W.nsIn K mainGlobals "MOST_WORDS" = some (some (.int 60 t_c_MOST_WORDS)))
    (k_c_LONGEST_WORD : PySem.W.nsIn K mainGlobals "LONGEST_WORD" = some (some (.int 5000 t_c_LONGEST_WORD)))
    (k_c_MOST_FOUND : PySem.W.nsIn K mainGlobals "MOST_FOUND" = some (some (.int 5000 t_c_MOST_FOUND)))
    (k_c_SIGNS : PySem.W.nsIn K mainGlobals "SIGNS" = some (some (.str "0123456789ABCDEFGHIJKLMNOPQRSTUVWXYZabcdefghijklmnopqrstuvwx" t_c_SIGNS)))
    (z_isinstance : PySem.W.nsIn K mainGlobals "isinstance" = some none)
    (z_int : PySem.W.nsIn K mainGlobals "int" = some none)
    (z_bool : PySem.W.nsIn K mainGlobals "bool" = some none)
    (z_tuple : PySem.W.nsIn K mainGlobals "tuple" = some none)
    (z_list : PySem.W.nsIn K mainGlobals "list" = some none)
    (z_all : PySem.W.nsIn K mainGlobals "all" = some none)
    (z_any : PySem.W.nsIn K mainGlobals "any" = some none)
    (z_len : PySem.W.nsIn K mainGlobals "len" = some none)
    (z_abs : PySem.W.nsIn K mainGlobals "abs" = some none)
    (z_range : PySem.W.nsIn K mainGlobals "range" = some none)
    (z_min : PySem.W.nsIn K mainGlobals "min" = some none)
    (z_max : PySem.W.nsIn K mainGlobals "max" = some none)
    (z_enumerate : PySem.W.nsIn K mainGlobals "enumerate" = some none)
    (z_sum : PySem.W.nsIn K mainGlobals "sum" = some none)
    (z_set : PySem.W.nsIn K mainGlobals "set" = some none)
    (x_cAE : PySem.W.excIn K cAE veT "ValueError.__new__" = true)
    (p_cAE : PySem.W.keepIn K (.ref cAE) = true)
    (b_cAE : PySem.W.subIn K (.ref cAE) (.type "BaseException") = some true)
    (t_cAE : PySem.W.typeIn K (.ref cAE) = some (.type "type"))
    (x_cBB : PySem.W.excIn K cBB veT "ValueError.__new__" = true)
    (p_cBB : PySem.W.keepIn K (.ref cBB) = true)
    (b_cBB : PySem.W.subIn K (.ref cBB) (.type "BaseException") = some true)
    (t_cBB : PySem.W.typeIn K (.ref cBB) = some (.type "type"))
    (x_cBN : PySem.W.excIn K cBN veT "ValueError.__new__" = true)
    (p_cBN : PySem.W.keepIn K (.ref cBN) = true)
    (b_cBN : PySem.W.subIn K (.ref cBN) (.type "BaseException") = some true)
    (t_cBN : PySem.W.typeIn K (.ref cBN) = some (.type "type"))
    (x_cBR : PySem.W.excIn K cBR veT "ValueError.__new__" = true)
    (p_cBR : PySem.W.keepIn K (.ref cBR) = true)
    (b_cBR : PySem.W.subIn K (.ref cBR) (.type "BaseException") = some true)
    (t_cBR : PySem.W.typeIn K (.ref cBR) = some (.type "type"))
    (x_cTL : PySem.W.excIn K cTL veT "ValueError.__new__" = true)
    (p_cTL : PySem.W.keepIn K (.ref cTL) = true)
    (b_cTL : PySem.W.subIn K (.ref cTL) (.type "BaseException") = some true)
    (t_cTL : PySem.W.typeIn K (.ref cTL) = some (.type "type"))
    (pg_cBk : PySem.W.plainGet K cBk Str.empty = true)
    (hd_cBk : PySem.W.hasDictIn K cBk = true)
    (po_cBk : PySem.W.plainOver K cBk = true)
    (sa_cBk : PySem.W.findIn K (.ref cBk) "__setattr__" = some (some (.builtin "object.__setattr__")))
    (mk_cBk : PySem.W.makesIn K cBk = true)
    (kc_cBk : PySem.W.keepIn K (.ref cBk) = true)
    (pg_cPr : PySem.W.plainGet K cPr Str.empty = true)
    (hd_cPr : PySem.W.hasDictIn K cPr = true)
    (po_cPr : PySem.W.plainOver K cPr = true)
    (sa_cPr : PySem.W.findIn K (.ref cPr) "__setattr__" = some (some (.builtin "object.__setattr__")))
    (mk_cPr : PySem.W.makesIn K cPr = true)
    (kc_cPr : PySem.W.keepIn K (.ref cPr) = true)
    (n_n_cBk_letters : PySem.W.findIn K (.ref cBk) "letters" = some none)
    (n_n_cBk_size : PySem.W.findIn K (.ref cBk) "size" = some none)
    (n_n_cBk__words : PySem.W.findIn K (.ref cBk) "_words" = some none)
    (n_n_cPr_first : PySem.W.findIn K (.ref cPr) "first" = some none)
    (n_n_cPr_second : PySem.W.findIn K (.ref cPr) "second" = some none)
    (n_n_cPr_letters : PySem.W.findIn K (.ref cPr) "letters" = some none)
    (a_law_draws : PySem.W.nsIn K mainGlobals "_law_draws" = some (some (.ref f_law_draws)))
    (l_law_draws : K.lookup f_law_draws = some ⟨oc_law_draws, od_law_draws, .func (PySem.W.fnOf "_law_draws" "_law_draws" (defArgs st__law_draws) (defBody st__law_draws) (defScope st__law_draws) .none kV_law_draws dc_law_draws pm_law_draws an_law_draws cd_law_draws ct_law_draws), sl_law_draws⟩)
    (c_law_draws : PySem.W.codeIn K cd_law_draws "_law_draws" = true)
    (p_law_draws : PySem.W.keepIn K (.ref f_law_draws) = true)
    (a_law_words : PySem.W.nsIn K mainGlobals "_law_words" = some (some (.ref f_law_words)))
    (l_law_words : K.lookup f_law_words = some ⟨oc_law_words, od_law_words, .func (PySem.W.fnOf "_law_words" "_law_words" (defArgs st__law_words) (defBody st__law_words) (defScope st__law_words) .none kV_law_words dc_law_words pm_law_words an_law_words cd_law_words ct_law_words), sl_law_words⟩)
    (c_law_words : PySem.W.codeIn K cd_law_words "_law_words" = true)
    (p_law_words : PySem.W.keepIn K (.ref f_law_words) = true)
    (aPair_init : PySem.W.findIn K (.ref cPr) "__init__" = some (some (.ref fPair_init)))
    (iPair_init : PySem.W.isFn K (.ref fPair_init) = true)
    (lPair_init : K.lookup fPair_init = some ⟨ocPair_init, odPair_init, .func (PySem.W.fnOf "__init__" "Pair.__init__" (defArgs st_Pair_init) (defBody st_Pair_init) (defScope st_Pair_init) .none kVPair_init dcPair_init pmPair_init anPair_init cdPair_init ctPair_init), slPair_init⟩)
    (cPair_init : PySem.W.codeIn K cdPair_init "Pair.__init__" = true)
    (pPair_init : PySem.W.keepIn K (.ref fPair_init) = true)
    (ais_count : PySem.W.nsIn K mainGlobals "is_count" = some (some (.ref fis_count)))
    (lis_count : K.lookup fis_count = some ⟨ocis_count, odis_count, .func (PySem.W.fnOf "is_count" "is_count" (defArgs st_is_count) (defBody st_is_count) (defScope st_is_count) .none kVis_count dcis_count pmis_count anis_count cdis_count ctis_count), slis_count⟩)
    (cis_count : PySem.W.codeIn K cdis_count "is_count" = true)
    (pis_count : PySem.W.keepIn K (.ref fis_count) = true)
    (ais_below : PySem.W.nsIn K mainGlobals "is_below" = some (some (.ref fis_below)))
    (lis_below : K.lookup fis_below = some ⟨ocis_below, odis_below, .func (PySem.W.fnOf "is_below" "is_below" (defArgs st_is_below) (defBody st_is_below) (defScope st_is_below) .none kVis_below dcis_below pmis_below anis_below cdis_below ctis_below), slis_below⟩)
    (cis_below : PySem.W.codeIn K cdis_below "is_below" = true)
    (pis_below : PySem.W.keepIn K (.ref fis_below) = true)
    (aare_below : PySem.W.nsIn K mainGlobals "are_below" = some (some (.ref fare_below)))
    (lare_below : K.lookup fare_below = some ⟨ocare_below, odare_below, .func (PySem.W.fnOf "are_below" "are_below" (defArgs st_are_below) (defBody st_are_below) (defScope st_are_below) .none kVare_below dcare_below pmare_below anare_below cdare_below ctare_below), slare_below⟩)
    (care_below : PySem.W.codeIn K cdare_below "are_below" = true)
    (pare_below : PySem.W.keepIn K (.ref fare_below) = true)
    (a_is_word : PySem.W.nsIn K mainGlobals "_is_word" = some (some (.ref f_is_word)))
    (l_is_word : K.lookup f_is_word = some ⟨oc_is_word, od_is_word, .func (PySem.W.fnOf "_is_word" "_is_word" (defArgs st__is_word) (defBody st__is_word) (defScope st__is_word) .none kV_is_word dc_is_word pm_is_word an_is_word cd_is_word ct_is_word), sl_is_word⟩)
    (c_is_word : PySem.W.codeIn K cd_is_word "_is_word" = true)
    (p_is_word : PySem.W.keepIn K (.ref f_is_word) = true)
    (a_are_words : PySem.W.nsIn K mainGlobals "_are_words" = some (some (.ref f_are_words)))
    (l_are_words : K.lookup f_are_words = some ⟨oc_are_words, od_are_words, .func (PySem.W.fnOf "_are_words" "_are_words" (defArgs st__are_words) (defBody st__are_words) (defScope st__are_words) .none kV_are_words dc_are_words pm_are_words an_are_words cd_are_words ct_are_words), sl_are_words⟩)
    (c_are_words : PySem.W.codeIn K cd_are_words "_are_words" = true)
    (p_are_words : PySem.W.keepIn K (.ref f_are_words) = true)
    (aBook_init : PySem.W.findIn K (.ref cBk) "__init__" = some (some (.ref fBook_init)))
    (iBook_init : PySem.W.isFn K (.ref fBook_init) = true)
    (lBook_init : K.lookup fBook_init = some ⟨ocBook_init, odBook_init, .func (PySem.W.fnOf "__init__" "Book.__init__" (defArgs st_Book_init) (defBody st_Book_init) (defScope st_Book_init) .none kVBook_init dcBook_init pmBook_init anBook_init cdBook_init ctBook_init), slBook_init⟩)
    (cBook_init : PySem.W.codeIn K cdBook_init "Book.__init__" = true)
    (pBook_init : PySem.W.keepIn K (.ref fBook_init) = true)
    (aPair_is_even : PySem.W.findIn K (.ref cPr) "is_even" = some (some (.ref fPair_is_even)))
    (iPair_is_even : PySem.W.isFn K (.ref fPair_is_even) = true)
    (lPair_is_even : K.lookup fPair_is_even = some ⟨ocPair_is_even, odPair_is_even, .func (PySem.W.fnOf "is_even" "Pair.is_even" (defArgs st_Pair_is_even) (defBody st_Pair_is_even) (defScope st_Pair_is_even) .none kVPair_is_even dcPair_is_even pmPair_is_even anPair_is_even cdPair_is_even ctPair_is_even), slPair_is_even⟩)
    (cPair_is_even : PySem.W.codeIn K cdPair_is_even "Pair.is_even" = true)
    (pPair_is_even : PySem.W.keepIn K (.ref fPair_is_even) = true)
    (a_check_books : PySem.W.nsIn K mainGlobals "_check_books" = some (some (.ref f_check_books)))
    (l_check_books : K.lookup f_check_books = some ⟨oc_check_books, od_check_books, .func (PySem.W.fnOf "_check_books" "_check_books" (defArgs st__check_books) (defBody st__check_books) (defScope st__check_books) .none kV_check_books dc_check_books pm_check_books an_check_books cd_check_books ct_check_books), sl_check_books⟩)
    (c_check_books : PySem.W.codeIn K cd_check_books "_check_books" = true)
    (p_check_books : PySem.W.keepIn K (.ref f_check_books) = true)
    (asigns_of : PySem.W.nsIn K mainGlobals "signs_of" = some (some (.ref fsigns_of)))
    (lsigns_of : K.lookup fsigns_of = some ⟨ocsigns_of, odsigns_of, .func (PySem.W.fnOf "signs_of" "signs_of" (defArgs st_signs_of) (defBody st_signs_of) (defScope st_signs_of) .none kVsigns_of dcsigns_of pmsigns_of ansigns_of cdsigns_of ctsigns_of), slsigns_of⟩)
    (csigns_of : PySem.W.codeIn K cdsigns_of "signs_of" = true)
    (psigns_of : PySem.W.keepIn K (.ref fsigns_of) = true)
    (aBook_word : PySem.W.findIn K (.ref cBk) "word" = some (some (.ref fBook_word)))
    (iBook_word : PySem.W.isFn K (.ref fBook_word) = true)
    (lBook_word : K.lookup fBook_word = some ⟨ocBook_word, odBook_word, .func (PySem.W.fnOf "word" "Book.word" (defArgs st_Book_word) (defBody st_Book_word) (defScope st_Book_word) .none kVBook_word dcBook_word pmBook_word anBook_word cdBook_word ctBook_word), slBook_word⟩)
    (cBook_word : PySem.W.codeIn K cdBook_word "Book.word" = true)
    (pBook_word : PySem.W.keepIn K (.ref fBook_word) = true)
    (a_word_pair : PySem.W.nsIn K mainGlobals "_word_pair" = some (some (.ref f_word_pair)))
    (l_word_pair : K.lookup f_word_pair = some ⟨oc_word_pair, od_word_pair, .func (PySem.W.fnOf "_word_pair" "_word_pair" (defArgs st__word_pair) (defBody st__word_pair) (defScope st__word_pair) .none kV_word_pair dc_word_pair pm_word_pair an_word_pair cd_word_pair ct_word_pair), sl_word_pair⟩)
    (c_word_pair : PySem.W.codeIn K cd_word_pair "_word_pair" = true)
    (p_word_pair : PySem.W.keepIn K (.ref f_word_pair) = true)
    (a_word_pairs : PySem.W.nsIn K mainGlobals "_word_pairs" = some (some (.ref f_word_pairs)))
    (l_word_pairs : K.lookup f_word_pairs = some ⟨oc_word_pairs, od_word_pairs, .func (PySem.W.fnOf "_word_pairs" "_word_pairs" (defArgs st__word_pairs) (defBody st__word_pairs) (defScope st__word_pairs) .none kV_word_pairs dc_word_pairs pm_word_pairs an_word_pairs cd_word_pairs ct_word_pairs), sl_word_pairs⟩)
    (c_word_pairs : PySem.W.codeIn K cd_word_pairs "_word_pairs" = true)
    (p_word_pairs : PySem.W.keepIn K (.ref f_word_pairs) = true)
    (a_behind : PySem.W.nsIn K mainGlobals "_behind" = some (some (.ref f_behind)))
    (l_behind : K.lookup f_behind = some ⟨oc_behind, od_behind, .func (PySem.W.fnOf "_behind" "_behind" (defArgs st__behind) (defBody st__behind) (defScope st__behind) .none kV_behind dc_behind pm_behind an_behind cd_behind ct_behind), sl_behind⟩)
    (c_behind : PySem.W.codeIn K cd_behind "_behind" = true)
    (p_behind : PySem.W.keepIn K (.ref f_behind) = true)
    (a_size : PySem.W.nsIn K mainGlobals "_size" = some (some (.ref f_size)))
    (l_size : K.lookup f_size = some ⟨oc_size, od_size, .func (PySem.W.fnOf "_size" "_size" (defArgs st__size) (defBody st__size) (defScope st__size) .none kV_size dc_size pm_size an_size cd_size ct_size), sl_size⟩)
    (c_size : PySem.W.codeIn K cd_size "_size" = true)
    (p_size : PySem.W.keepIn K (.ref f_size) = true)
    (a_row_along : PySem.W.nsIn K mainGlobals "_row_along" = some (some (.ref f_row_along)))
    (l_row_along : K.lookup f_row_along = some ⟨oc_row_along, od_row_along, .func (PySem.W.fnOf "_row_along" "_row_along" (defArgs st__row_along) (defBody st__row_along) (defScope st__row_along) .none kV_row_along dc_row_along pm_row_along an_row_along cd_row_along ct_row_along), sl_row_along⟩)
    (c_row_along : PySem.W.codeIn K cd_row_along "_row_along" = true)
    (p_row_along : PySem.W.keepIn K (.ref f_row_along) = true)
    (aword_of : PySem.W.nsIn K mainGlobals "word_of" = some (some (.ref fword_of)))
    (lword_of : K.lookup fword_of = some ⟨ocword_of, odword_of, .func (PySem.W.fnOf "word_of" "word_of" (defArgs st_word_of) (defBody st_word_of) (defScope st_word_of) .none kVword_of dcword_of pmword_of anword_of cdword_of ctword_of), slword_of⟩)
    (cword_of : PySem.W.codeIn K cdword_of "word_of" = true)
    (pword_of : PySem.W.keepIn K (.ref fword_of) = true)
    (a_rest : PySem.W.nsIn K mainGlobals "_rest" = some (some (.ref f_rest)))
    (l_rest : K.lookup f_rest = some ⟨oc_rest, od_rest, .func (PySem.W.fnOf "_rest" "_rest" (defArgs st__rest) (defBody st__rest) (defScope st__rest) .none kV_rest dc_rest pm_rest an_rest cd_rest ct_rest), sl_rest⟩)
    (c_rest : PySem.W.codeIn K cd_rest "_rest" = true)
    (p_rest : PySem.W.keepIn K (.ref f_rest) = true)
    (a_rest_of_signs : PySem.W.nsIn K mainGlobals "_rest_of_signs" = some (some (.ref f_rest_of_signs)))
    (l_rest_of_signs : K.lookup f_rest_of_signs = some ⟨oc_rest_of_signs, od_rest_of_signs, .func (PySem.W.fnOf "_rest_of_signs" "_rest_of_signs" (defArgs st__rest_of_signs) (defBody st__rest_of_signs) (defScope st__rest_of_signs) .none kV_rest_of_signs dc_rest_of_signs pm_rest_of_signs an_rest_of_signs cd_rest_of_signs ct_rest_of_signs), sl_rest_of_signs⟩)
    (c_rest_of_signs : PySem.W.codeIn K cd_rest_of_signs "_rest_of_signs" = true)
    (p_rest_of_signs : PySem.W.keepIn K (.ref f_rest_of_signs) = true)
    (asearch : PySem.W.nsIn K mainGlobals "search" = some (some (.ref fsearch)))
    (lsearch : K.lookup fsearch = some ⟨ocsearch, odsearch, .func (PySem.W.fnOf "search" "search" (defArgs st_search) (defBody st_search) (defScope st_search) .none kVsearch dcsearch pmsearch ansearch cdsearch ctsearch), slsearch⟩)
    (csearch : PySem.W.codeIn K cdsearch "search" = true)
    (psearch : PySem.W.keepIn K (.ref fsearch) = true)
    (a_law_step : PySem.W.nsIn K mainGlobals "_law_step" = some (some (.ref f_law_step)))
    (l_law_step : K.lookup f_law_step = some ⟨oc_law_step, od_law_step, .func (PySem.W.fnOf "_law_step" "_law_step" (defArgs st__law_step) (defBody st__law_step) (defScope st__law_step) .none kV_law_step dc_law_step pm_law_step an_law_step cd_law_step ct_law_step), sl_law_step⟩)
    (c_law_step : PySem.W.codeIn K cd_law_step "_law_step" = true)
    (p_law_step : PySem.W.keepIn K (.ref f_law_step) = true)
    (a_law_met : PySem.W.nsIn K mainGlobals "_law_met" = some (some (.ref f_law_met)))
    (l_law_met : K.lookup f_law_met = some ⟨oc_law_met, od_law_met, .func (PySem.W.fnOf "_law_met" "_law_met" (defArgs st__law_met) (defBody st__law_met) (defScope st__law_met) .none kV_law_met dc_law_met pm_law_met an_law_met cd_law_met ct_law_met), sl_law_met⟩)
    (c_law_met : PySem.W.codeIn K cd_law_met "_law_met" = true)
    (p_law_met : PySem.W.keepIn K (.ref f_law_met) = true)
    (a_law_is_alike : PySem.W.nsIn K mainGlobals "_law_is_alike" = some (some (.ref f_law_is_alike)))
    (l_law_is_alike : K.lookup f_law_is_alike = some ⟨oc_law_is_alike, od_law_is_alike, .func (PySem.W.fnOf "_law_is_alike" "_law_is_alike" (defArgs st__law_is_alike) (defBody st__law_is_alike) (defScope st__law_is_alike) .none kV_law_is_alike dc_law_is_alike pm_law_is_alike an_law_is_alike cd_law_is_alike ct_law_is_alike), sl_law_is_alike⟩)
    (c_law_is_alike : PySem.W.codeIn K cd_law_is_alike "_law_is_alike" = true)
    (p_law_is_alike : PySem.W.keepIn K (.ref f_law_is_alike) = true)
    (a_law_first : PySem.W.nsIn K mainGlobals "_law_first" = some (some (.ref f_law_first)))
    (l_law_first : K.lookup f_law_first = some ⟨oc_law_first, od_law_first, .func (PySem.W.fnOf "_law_first" "_law_first" (defArgs st__law_first) (defBody st__law_first) (defScope st__law_first) .none kV_law_first dc_law_first pm_law_first an_law_first cd_law_first ct_law_first), sl_law_first⟩)
    (c_law_first : PySem.W.codeIn K cd_law_first "_law_first" = true)
    (p_law_first : PySem.W.keepIn K (.ref f_law_first) = true)
    (alaw : PySem.W.nsIn K mainGlobals "law" = some (some (.ref flaw)))
    (llaw : K.lookup flaw = some ⟨oclaw, odlaw, .func (PySem.W.fnOf "law" "law" (defArgs st_law) (defBody st_law) (defScope st_law) .none kVlaw dclaw pmlaw anlaw cdlaw ctlaw), sllaw⟩)
    (claw : PySem.W.codeIn K cdlaw "law" = true)
    (plaw : PySem.W.keepIn K (.ref flaw) = true) :
    ∃ fd : FuncData, (∀ (s : Shared) (u : Value), BindsTo s fd ⟨[u], []⟩ [("script", u)]) ∧ ∀ base : Heap, K.In base → base.Ns mainGlobals mg → FnOk l.prog w K mg base (L2.CX l.prog w) 7 fa fd ["script"] (spF (S_law K)) := by
  have e := hfa.symm.trans (PySem.W.mg_of X G alaw)
  cases e
  have T : Txt K mg cAE cBB cBN cBR cTL cBk cPr aE0 aEV aBG := { no_isinstance := PySem.W.mg_none_of X G z_isinstance, no_int := PySem.W.mg_none_of X G z_int, no_bool := PySem.W.mg_none_of X G z_bool, no_tuple := PySem.W.mg_none_of X G z_tuple, no_list := PySem.W.mg_none_of X G z_list, no_all := PySem.W.mg_none_of X G z_all, no_any := PySem.W.mg_none_of X G z_any, no_len := PySem.W.mg_none_of X G z_len, no_abs := PySem.W.mg_none_of X G z_abs, no_range := PySem.W.mg_none_of X G z_range, no_min := PySem.W.mg_none_of X G z_min, no_max := PySem.W.mg_none_of X G z_max, no_enumerate := PySem.W.mg_none_of X G z_enumerate, no_sum := PySem.W.mg_none_of X G z_sum, no_set := PySem.W.mg_none_of X G z_set, c_MOST_LETTERS := ⟨_, PySem.W.mg_of X G k_c_MOST_LETTERS, ⟨_, rfl⟩⟩, c_MOST_WORDS := ⟨_, PySem.W.mg_of X G k_c_MOST_WORDS, ⟨_, rfl⟩⟩, c_LONGEST_WORD := ⟨_, PySem.W.mg_of X G k_c_LONGEST_WORD, ⟨_, rfl⟩⟩, c_MOST_FOUND := ⟨_, PySem.W.mg_of X G k_c_MOST_FOUND, ⟨_, rfl⟩⟩, c_SIGNS := ⟨_, PySem.W.mg_of X G k_c_SIGNS, ⟨_, rfl⟩⟩, e_AlikeError := ⟨PySem.W.mg_of X G a_cAE, x_cAE, p_cAE, b_cAE, t_cAE⟩, e_BadBook := ⟨PySem.W.mg_of X G a_cBB, x_cBB, p_cBB, b_cBB, t_cBB⟩, e_BadNumber := ⟨PySem.W.mg_of X G a_cBN, x_cBN, p_cBN, b_cBN, t_cBN⟩, e_BadRow := ⟨PySem.W.mg_of X G a_cBR, x_cBR, p_cBR, b_cBR, t_cBR⟩, e_TooLong := ⟨PySem.W.mg_of X G a_cTL, x_cTL, p_cTL, b_cTL, t_cTL⟩, cl_cBk := ⟨pg_cBk, hd_cBk, po_cBk, sa_cBk⟩, cl_cPr := ⟨pg_cPr, hd_cPr, po_cPr, sa_cPr⟩, kt_aE0 := ⟨_, _, _, l_aE0, Nat.le_of_ble_eq_true rfl, .nil⟩, c_EVEN := ⟨_, PySem.W.mg_of X G g_aEV, rfl⟩, kt_aEV := ⟨_, _, _, l_aEV, Nat.le_of_ble_eq_true rfl, (.cons ⟨_, rfl⟩ (.cons rfl .nil))⟩, c_BEGIN := ⟨_, PySem.W.mg_of X G g_aBG, rfl⟩, kt_aBG := ⟨_, _, _, l_aBG, Nat.le_of_ble_eq_true rfl, (.cons ⟨_, rfl⟩ (.cons ⟨_, rfl⟩ .nil))⟩, n_cBk_letters := n_n_cBk_letters, n_cBk_size := n_n_cBk_size, n_cBk__words := n_n_cBk__words, n_cPr_first := n_n_cPr_first, n_cPr_second := n_n_cPr_second, n_cPr_letters := n_n_cPr_letters }
  have F_law_draws := fun_mk (st := st__law_draws) l_law_draws c_law_draws p_law_draws
  have b_law_draws := F_law_draws.binds (ps := ["script", "many"]) fun _ _ _ _ _ _ us hl => match us, hl with | [_, _], _ => rfl
  have F_law_words := fun_mk (st := st__law_words) l_law_words c_law_words p_law_words
  have b_law_words := F_law_words.binds (ps := ["draws", "size", "letters", "most"]) fun _ _ _ _ _ _ us hl => match us, hl with | [_, _, _, _], _ => rfl
  have FPair_init := fun_mk (st := st_Pair_init) lPair_init cPair_init pPair_init
  have bPair_init := FPair_init.binds (ps := ["self", "first", "second"]) fun _ _ _ _ _ _ us hl => match us, hl with | [_, _, _], _ => rfl
  have Fis_count := fun_mk (st := st_is_count) lis_count cis_count pis_count
  have bis_count := Fis_count.binds (ps := ["value"]) fun _ _ _ _ _ _ us hl => match us, hl with | [_], _ => rfl
  have Fis_below := fun_mk (st := st_is_below) lis_below cis_below pis_below
  have bis_below := Fis_below.binds (ps := ["value", "end"]) fun _ _ _ _ _ _ us hl => match us, hl with | [_, _], _ => rfl
  have Fare_below := fun_mk (st := st_are_below) lare_below care_below pare_below
  have bare_below := Fare_below.binds (ps := ["value", "end"]) fun _ _ _ _ _ _ us hl => match us, hl with | [_, _], _ => rfl
  have F_is_word := fun_mk (st := st__is_word) l_is_word c_is_word p_is_word
  have b_is_word := F_is_word.binds (ps := ["value", "letters"]) fun _ _ _ _ _ _ us hl => match us, hl with | [_, _], _ => rfl
  have F_are_words := fun_mk (st := st__are_words) l_are_words c_are_words p_are_words
  have b_are_words := F_are_words.binds (ps := ["value", "letters"]) fun _ _ _ _ _ _ us hl => match us, hl with | [_, _], _ => rfl
  have FBook_init := fun_mk (st := st_Book_init) lBook_init cBook_init pBook_init
  have bBook_init := FBook_init.binds (ps := ["self", "letters", "words"]) fun _ _ _ _ _ _ us hl => match us, hl with | [_, _, _], _ => rfl
  have FPair_is_even := fun_mk (st := st_Pair_is_even) lPair_is_even cPair_is_even pPair_is_even
  have bPair_is_even := FPair_is_even.binds (ps := ["self"]) fun _ _ _ _ _ _ us hl => match us, hl with | [_], _ => rfl
  have F_check_books := fun_mk (st := st__check_books) l_check_books c_check_books p_check_books
  have b_check_books := F_check_books.binds (ps := ["pair"]) fun _ _ _ _ _ _ us hl => match us, hl with | [_], _ => rfl
  have Fsigns_of := fun_mk (st := st_signs_of) lsigns_of csigns_of psigns_of
  have bsigns_of := Fsigns_of.binds (ps := ["word"]) fun _ _ _ _ _ _ us hl => match us, hl with | [_], _ => rfl
  have FBook_word := fun_mk (st := st_Book_word) lBook_word cBook_word pBook_word
  have bBook_word := FBook_word.binds (ps := ["self", "number"]) fun _ _ _ _ _ _ us hl => match us, hl with | [_, _], _ => rfl
  have F_word_pair := fun_mk (st := st__word_pair) l_word_pair c_word_pair p_word_pair
  have b_word_pair := F_word_pair.binds (ps := ["pair", "number"]) fun _ _ _ _ _ _ us hl => match us, hl with | [_, _], _ => rfl
  have F_word_pairs := fun_mk (st := st__word_pairs) l_word_pairs c_word_pairs p_word_pairs
  have b_word_pairs := F_word_pairs.binds (ps := ["pair"]) fun _ _ _ _ _ _ us hl => match us, hl with | [_], _ => rfl
  have F_behind := fun_mk (st := st__behind) l_behind c_behind p_behind
  have b_behind := F_behind.binds (ps := ["state", "first", "second"]) fun _ _ _ _ _ _ us hl => match us, hl with | [_, _, _], _ => rfl
  have F_size := fun_mk (st := st__size) l_size c_size p_size
  have b_size := F_size.binds (ps := ["state"]) fun _ _ _ _ _ _ us hl => match us, hl with | [_], _ => rfl
  have F_row_along := fun_mk (st := st__row_along) l_row_along c_row_along p_row_along
  have b_row_along := F_row_along.binds (ps := ["ways", "at"]) fun _ _ _ _ _ _ us hl => match us, hl with | [_, _], _ => rfl
  have Fword_of := fun_mk (st := st_word_of) lword_of cword_of pword_of
  have bword_of := Fword_of.binds (ps := ["signs"]) fun _ _ _ _ _ _ us hl => match us, hl with | [_], _ => rfl
  have F_rest := fun_mk (st := st__rest) l_rest c_rest p_rest
  have b_rest := F_rest.binds (ps := ["state"]) fun _ _ _ _ _ _ us hl => match us, hl with | [_], _ => rfl
  have F_rest_of_signs := fun_mk (st := st__rest_of_signs) l_rest_of_signs c_rest_of_signs p_rest_of_signs
  have b_rest_of_signs := F_rest_of_signs.binds (ps := ["state"]) fun _ _ _ _ _ _ us hl => match us, hl with | [_], _ => rfl
  have Fsearch := fun_mk (st := st_search) lsearch csearch psearch
  have bsearch := Fsearch.binds (ps := ["pair", "most"]) fun _ _ _ _ _ _ us hl => match us, hl with | [_, _], _ => rfl
  have F_law_step := fun_mk (st := st__law_step) l_law_step c_law_step p_law_step
  have b_law_step := F_law_step.binds (ps := ["first", "second", "rest", "number"]) fun _ _ _ _ _ _ us hl => match us, hl with | [_, _, _, _], _ => rfl
  have F_law_met := fun_mk (st := st__law_met) l_law_met c_law_met p_law_met
  have b_law_met := F_law_met.binds (ps := ["first", "second", "most"]) fun _ _ _ _ _ _ us hl => match us, hl with | [_, _, _], _ => rfl
  have F_law_is_alike := fun_mk (st := st__law_is_alike) l_law_is_alike c_law_is_alike p_law_is_alike
  have b_law_is_alike := F_law_is_alike.binds (ps := ["first", "second", "row"]) fun _ _ _ _ _ _ us hl => match us, hl with | [_, _, _], _ => rfl
  have F_law_first := fun_mk (st := st__law_first) l_law_first c_law_first p_law_first
  have b_law_first := F_law_first.binds (ps := ["first", "second", "length"]) fun _ _ _ _ _ _ us hl => match us, hl with | [_, _, _], _ => rfl
  have Flaw := fun_mk (st := st_law) llaw claw plaw
  refine ⟨PySem.W.fnOf "law" "law" (defArgs st_law) (defBody st_law) (defScope st_law) .none kVlaw dclaw pmlaw anlaw cdlaw ctlaw, fun s u => .of_eq rfl, fun base _ _ => ?_⟩
  have C_law_draws : FnC l.prog w K mg base 1 "_law_draws" (spF (S_law_draws K)) := ⟨⟨_, _, _, ok__law_draws T  F_law_draws, PySem.W.mg_of X G a_law_draws, p_law_draws, b_law_draws⟩⟩
  have C_law_words : FnC l.prog w K mg base 1 "_law_words" (spF (S_lwords)) := ⟨⟨_, _, _, ok__law_words T  F_law_words, PySem.W.mg_of X G a_law_words, p_law_words, b_law_words⟩⟩
  have CPair_init : MkC l.prog w K mg base 1 cPr "Pair" (spN cPr (S_Pair cBk cBB)) := ⟨⟨_, _, _, ok_Pair_init T  FPair_init, ⟨mk_cPr, aPair_init, iPair_init, kc_cPr⟩, PySem.W.mg_of X G a_cPr, bPair_init⟩⟩
  have Cis_count : FnC l.prog w K mg base 1 "is_count" (spF (S_is_count)) := ⟨⟨_, _, _, ok_is_count T  Fis_count, PySem.W.mg_of X G ais_count, pis_count, bis_count⟩⟩
  have Cis_below : FnC l.prog w K mg base 2 "is_below" (spF (S_is_below)) := ⟨⟨_, _, _, ok_is_below T Cis_count Fis_below, PySem.W.mg_of X G ais_below, pis_below, bis_below⟩⟩
  have Care_below : FnC l.prog w K mg base 1 "are_below" (spF (S_are_below)) := ⟨⟨_, _, _, ok_are_below T  Fare_below, PySem.W.mg_of X G aare_below, pare_below, bare_below⟩⟩
  have C_is_word : FnC l.prog w K mg base 2 "_is_word" (spF (S_is_word)) := ⟨⟨_, _, _, ok__is_word T Care_below F_is_word, PySem.W.mg_of X G a_is_word, p_is_word, b_is_word⟩⟩
  have C_are_words : FnC l.prog w K mg base 3 "_are_words" (spF (S_are_words)) := ⟨⟨_, _, _, ok__are_words T C_is_word F_are_words, PySem.W.mg_of X G a_are_words, p_are_words, b_are_words⟩⟩
  have CBook_init : MkC l.prog w K mg base 4 cBk "Book" (spN cBk (S_Book cBB)) := ⟨⟨_, _, _, ok_Book_init T Cis_below C_are_words FBook_init, ⟨mk_cBk, aBook_init, iBook_init, kc_cBk⟩, PySem.W.mg_of X G a_cBk, bBook_init⟩⟩
  have CPair_is_even : MtC l.prog w K mg base 1 cPr "is_even" (spF (S_is_even cBk cPr)) := ⟨⟨_, _, _, ok_Pair_is_even T  FPair_is_even, T.cl_cPr, ⟨aPair_is_even, iPair_is_even, pPair_is_even⟩, bPair_is_even⟩⟩
  have C_check_books : FnC l.prog w K mg base 2 "_check_books" (spF (S_check_books cBk cPr cBB)) := ⟨⟨_, _, _, ok__check_books T CPair_is_even F_check_books, PySem.W.mg_of X G a_check_books, p_check_books, b_check_books⟩⟩
  have Csigns_of : FnC l.prog w K mg base 1 "signs_of" (spF (S_signs_of)) := ⟨⟨_, _, _, ok_signs_of T  Fsigns_of, PySem.W.mg_of X G asigns_of, psigns_of, bsigns_of⟩⟩
  have CBook_word : MtC l.prog w K mg base 3 cBk "word" (spF (S_word cBk cBN)) := ⟨⟨_, _, _, ok_Book_word T Cis_below FBook_word, T.cl_cBk, ⟨aBook_word, iBook_word, pBook_word⟩, bBook_word⟩⟩
  have C_word_pair : FnC l.prog w K mg base 4 "_word_pair" (spF (S_word_pair cBk cPr)) := ⟨⟨_, _, _, ok__word_pair T Csigns_of CBook_word F_word_pair, PySem.W.mg_of X G a_word_pair, p_word_pair, b_word_pair⟩⟩
  have C_word_pairs : FnC l.prog w K mg base 5 "_word_pairs" (spF (S_word_pairs cBk cPr)) := ⟨⟨_, _, _, ok__word_pairs T C_word_pair F_word_pairs, PySem.W.mg_of X G a_word_pairs, p_word_pairs, b_word_pairs⟩⟩
  have C_behind : FnC l.prog w K mg base 1 "_behind" (spF (S_behind K)) := ⟨⟨_, _, _, ok__behind T  F_behind, PySem.W.mg_of X G a_behind, p_behind, b_behind⟩⟩
  have C_size : FnC l.prog w K mg base 1 "_size" (spF (S_size K)) := ⟨⟨_, _, _, ok__size T  F_size, PySem.W.mg_of X G a_size, p_size, b_size⟩⟩
  have C_row_along : FnC l.prog w K mg base 1 "_row_along" (spF (S_row_along)) := ⟨⟨_, _, _, ok__row_along T  F_row_along, PySem.W.mg_of X G a_row_along, p_row_along, b_row_along⟩⟩
  have Cword_of : FnC l.prog w K mg base 1 "word_of" (spF (S_word_of)) := ⟨⟨_, _, _, ok_word_of T  Fword_of, PySem.W.mg_of X G aword_of, pword_of, bword_of⟩⟩
  have C_rest : FnC l.prog w K mg base 1 "_rest" (spF (S_rest K)) := ⟨⟨_, _, _, ok__rest T  F_rest, PySem.W.mg_of X G a_rest, p_rest, b_rest⟩⟩
  have C_rest_of_signs : FnC l.prog w K mg base 2 "_rest_of_signs" (spF (S_rest_signs K)) := ⟨⟨_, _, _, ok__rest_of_signs T Cword_of C_rest F_rest_of_signs, PySem.W.mg_of X G a_rest_of_signs, p_rest_of_signs, b_rest_of_signs⟩⟩
  have Csearch : FnC l.prog w K mg base 6 "search" (spF (S_search cBk cPr cBB cBN)) := ⟨⟨_, _, _, ok_search T C_check_books Cis_below C_word_pairs C_behind C_size C_row_along C_rest_of_signs Fsearch, PySem.W.mg_of X G asearch, psearch, bsearch⟩⟩
  have C_law_step : FnC l.prog w K mg base 1 "_law_step" (spF (S_lstep)) := ⟨⟨_, _, _, ok__law_step T  F_law_step, PySem.W.mg_of X G a_law_step, p_law_step, b_law_step⟩⟩
  have C_law_met : FnC l.prog w K mg base 2 "_law_met" (spF (S_lmet)) := ⟨⟨_, _, _, ok__law_met T C_law_step F_law_met, PySem.W.mg_of X G a_law_met, p_law_met, b_law_met⟩⟩
  have C_law_is_alike : FnC l.prog w K mg base 1 "_law_is_alike" (spF (S_lalike)) := ⟨⟨_, _, _, ok__law_is_alike T  F_law_is_alike, PySem.W.mg_of X G a_law_is_alike, p_law_is_alike, b_law_is_alike⟩⟩
  have C_law_first : FnC l.prog w K mg base 2 "_law_first" (spF (S_lfirst)) := ⟨⟨_, _, _, ok__law_first T C_law_step F_law_first, PySem.W.mg_of X G a_law_first, p_law_first, b_law_first⟩⟩
  exact ok_law T C_law_draws C_law_words CPair_init CBook_init Csearch C_law_met C_law_is_alike C_law_first Flaw
theorem walk {l : PySem.W.OpenLaw} {q : Program} {loose : List Str} {XP : (Str → Option Value) → Heap → Prop} {YP : World → Heap → Prop} {d : DefRec} {K : Params → PySem.W.Frag} (hn : l.most = some 63) (hdf : d.params.defaults = [])
    (hY : ∀ (w : World) (h : Heap), YP w h → (K w.params).In h)
    (F : ∀ (w : World) (mg : Str → Option Value) (fa : Addr) (h : Heap), (K w.params).In h → h.Ns mainGlobals mg → mg d.name = some (.ref fa) →
      ∃ fd : FuncData, (∀ (s : Shared) (u : Value), BindsTo s fd ⟨[u], []⟩ [("script", u)]) ∧ ∀ base : Heap, (K w.params).In base → base.Ns mainGlobals mg → FnOk l.prog w (K w.params) mg base (L2.CX l.prog w) 7 fa fd ["script"] (spF (S_law (K w.params)))) :
    PySem.W.WalkO q loose XP YP l.row.toRowW d [] (fun f vs => PySem.call f vs) := by
  refine L2.walk_of (n := 63) (k := 7) (x := "script") (CX := fun w => L2.CX l.prog w) (sp := fun w => spF (S_law (K w.params))) hn (by decide) hdf ⟨rfl, by decide, by decide⟩ hY F (fun w H a ns hl _ hS => ?_) fun w H s e s' z => ?_
  · exact ⟨⟨ns, hl⟩, H, fun _ => none, rfl, fun _ _ _ => rfl, .cons ⟨a, rfl, hS⟩ .nil, fun v B' _ _ hv => dp_bool hv⟩
  · obtain ⟨a, B, H', cls, d, _, _, _, _, _, _, _, q⟩ := z
    exact q
end K61

open PySem PySem.W PyProof.Rows in
set_option maxRecDepth 100000 in
set_option maxHeartbeats 0 in
theorem PySem.Challenge.cw_alikeread_k61_whole_searches_holds : PySem.Challenge.rw_alikeread_k61_whole_searches.Holds := by
  w_on; o_law; k_head; (case hw => w_witness2)
  k_fill
  refine K61.walk (l := PySem.Challenge.rw_alikeread_k61_whole_searches) rfl rfl (fun w h Y => PySem.W.kIn_of Y) ?F
  case F =>
    intro w mg fa h KX G hmg
    refine' K61.all_mk KX G hmg ?l_aE0 ?g_aEV ?l_aEV ?g_aBG ?l_aBG ?a_cAE ?a_cBB ?a_cBN ?a_cBR ?a_cTL ?a_cBk ?a_cPr ?k_c_MOST_LETTERS ?k_c_MOST_WORDS ?k_c_LONGEST_WORD ?k_c_MOST_FOUND ?k_c_SIGNS ?z_isinstance ?z_int ?z_bool ?z_tuple ?z_list ?z_all ?z_any ?z_len ?z_abs ?z_range ?z_min ?z_max ?z_enumerate ?z_sum ?z_set ?x_cAE ?p_cAE ?b_cAE ?t_cAE ?x_cBB ?p_cBB ?b_cBB ?t_cBB ?x_cBN ?p_cBN ?b_cBN ?t_cBN ?x_cBR ?p_cBR ?b_cBR ?t_cBR ?x_cTL ?p_cTL ?b_cTL ?t_cTL ?pg_cBk ?hd_cBk ?po_cBk ?sa_cBk ?mk_cBk ?kc_cBk ?pg_cPr ?hd_cPr ?po_cPr ?sa_cPr ?mk_cPr ?kc_cPr ?n_n_cBk_letters ?n_n_cBk_size ?n_n_cBk__words ?n_n_cPr_first ?n_n_cPr_second ?n_n_cPr_letters ?a_law_draws ?l_law_draws ?c_law_draws ?p_law_draws ?a_law_words ?l_law_words ?c_law_words ?p_law_words ?aPair_init ?iPair_init ?lPair_init ?cPair_init ?pPair_init ?ais_count ?lis_count ?cis_count ?pis_count ?ais_below ?lis_below ?cis_below ?pis_below ?aare_below ?lare_below ?care_below ?pare_below ?a_is_word ?l_is_word ?c_is_word ?p_is_word ?a_are_words ?l_are_words ?c_are_words ?p_are_words ?aBook_init ?iBook_init ?lBook_init ?cBook_init ?pBook_init ?aPair_is_even ?iPair_is_even ?lPair_is_even ?cPair_is_even ?pPair_is_even ?a_check_books ?l_check_books ?c_check_books ?p_check_books ?asigns_of ?lsigns_of ?csigns_of ?psigns_of ?aBook_word ?iBook_word ?lBook_word ?cBook_word ?pBook_word ?a_word_pair ?l_word_pair ?c_word_pair ?p_word_pair ?a_word_pairs ?l_word_pairs ?c_word_pairs ?p_word_pairs ?a_behind ?l_behind ?c_behind ?p_behind ?a_size ?l_size ?c_size ?p_size ?a_row_along ?l_row_along ?c_row_along ?p_row_along ?aword_of ?lword_of ?cword_of ?pword_of ?a_rest ?l_rest ?c_rest ?p_rest ?a_rest_of_signs ?l_rest_of_signs ?c_rest_of_signs ?p_rest_of_signs ?asearch ?lsearch ?csearch ?psearch ?a_law_step ?l_law_step ?c_law_step ?p_law_step ?a_law_met ?l_law_met ?c_law_met ?p_law_met ?a_law_is_alike ?l_law_is_alike ?c_law_is_alike ?p_law_is_alike ?a_law_first ?l_law_first ?c_law_first ?p_law_first ?alaw ?llaw ?claw ?plaw
    (case g_aEV => k_is)
    (case l_aEV => k_is)
    (case g_aBG => k_is)
    (case l_aBG => k_is)
    (case l_aE0 => k_is)
    (case a_cAE => k_is)
    (case a_cBB => k_is)
    (case a_cBN => k_is)
    (case a_cBR => k_is)
    (case a_cTL => k_is)
    (case a_cBk => k_is)
    (case a_cPr => k_is)
    (case k_c_MOST_LETTERS => k_is)
    (case k_c_MOST_WORDS => k_is)
    (case k_c_LONGEST_WORD => k_is)
    (case k_c_MOST_FOUND => k_is)
    (case k_c_SIGNS => k_is)
    (case z_isinstance => k_is)
    (case z_int => k_is)
    (case z_bool => k_is)
    (case z_tuple => k_is)
    (case z_list => k_is)
    (case z_all => k_is)
    (case z_any => k_is)
    (case z_len => k_is)
    (case z_abs => k_is)
    (case z_range => k_is)
    (case z_min => k_is)
    (case z_max => k_is)
    (case z_enumerate => k_is)
    (case z_sum => k_is)
    (case z_set => k_is)
    (case x_cAE => k_exc)
    (case p_cAE => k_is)
    (case b_cAE => k_is)
    (case t_cAE => k_is)
    (case x_cBB => k_exc)
    (case p_cBB => k_is)
    (case b_cBB => k_is)
    (case t_cBB => k_is)
    (case x_cBN => k_exc)
    (case p_cBN => k_is)
    (case b_cBN => k_is)
    (case t_cBN => k_is)
    (case x_cBR => k_exc)
    (case p_cBR => k_is)
    (case b_cBR => k_is)
    (case t_cBR => k_is)
    (case x_cTL => k_exc)
    (case p_cTL => k_is)
    (case b_cTL => k_is)
    (case t_cTL => k_is)
    (case pg_cBk => k_is)
    (case hd_cBk => k_is)
    (case po_cBk => k_is)
    (case sa_cBk => k_is)
    (case mk_cBk => k_is)
    (case kc_cBk => k_is)
    (case pg_cPr => k_is)
    (case hd_cPr => k_is)
    (case po_cPr => k_is)
    (case sa_cPr => k_is)
    (case mk_cPr => k_is)
    (case kc_cPr => k_is)
    (case n_n_cBk_letters => k_is)
    (case n_n_cBk_size => k_is)
    (case n_n_cBk__words => k_is)
    (case n_n_cPr_first => k_is)
    (case n_n_cPr_second => k_is)
    (case n_n_cPr_letters => k_is)
    (case a_law_draws => k_is)
    (case l_law_draws => k_is)
    (case c_law_draws => k_is)
    (case p_law_draws => k_is)
    (case a_law_words => k_is)
    (case l_law_words => k_is)
    (case c_law_words => k_is)
    (case p_law_words => k_is)
    (case aPair_init => k_is)
    (case iPair_init => k_is)
    (case lPair_init => k_is)
    (case cPair_init => k_is)
    (case pPair_init => k_is)
    (case ais_count => k_is)
    (case lis_count => k_is)
    (case cis_count => k_is)
    (case pis_count => k_is)
    (case ais_below => k_is)
    (case lis_below => k_is)
    (case cis_below => k_is)
    (case pis_below => k_is)
    (case aare_below => k_is)
    (case lare_below => k_is)
    (case care_below => k_is)
    (case pare_below => k_is)
    (case a_is_word => k_is)
    (case l_is_word => k_is)
    (case c_is_word => k_is)
    (case p_is_word => k_is)
    (case a_are_words => k_is)
    (case l_are_words => k_is)
    (case c_are_words => k_is)
    (case p_are_words => k_is)
    (case aBook_init => k_is)
    (case iBook_init => k_is)
    (case lBook_init => k_is)
    (case cBook_init => k_is)
    (case pBook_init => k_is)
    (case aPair_is_even => k_is)
    (case iPair_is_even => k_is)
    (case lPair_is_even => k_is)
    (case cPair_is_even => k_is)
    (case pPair_is_even => k_is)
    (case a_check_books => k_is)
    (case l_check_books => k_is)
    (case c_check_books => k_is)
    (case p_check_books => k_is)
    (case asigns_of => k_is)
    (case lsigns_of => k_is)
    (case csigns_of => k_is)
    (case psigns_of => k_is)
    (case aBook_word => k_is)
    (case iBook_word => k_is)
    (case lBook_word => k_is)
    (case cBook_word => k_is)
    (case pBook_word => k_is)
    (case a_word_pair => k_is)
    (case l_word_pair => k_is)
    (case c_word_pair => k_is)
    (case p_word_pair => k_is)
    (case a_word_pairs => k_is)
    (case l_word_pairs => k_is)
    (case c_word_pairs => k_is)
    (case p_word_pairs => k_is)
    (case a_behind => k_is)
    (case l_behind => k_is)
    (case c_behind => k_is)
    (case p_behind => k_is)
    (case a_size => k_is)
    (case l_size => k_is)
    (case c_size => k_is)
    (case p_size => k_is)
    (case a_row_along => k_is)
    (case l_row_along => k_is)
    (case c_row_along => k_is)
    (case p_row_along => k_is)
    (case aword_of => k_is)
    (case lword_of => k_is)
    (case cword_of => k_is)
    (case pword_of => k_is)
    (case a_rest => k_is)
    (case l_rest => k_is)
    (case c_rest => k_is)
    (case p_rest => k_is)
    (case a_rest_of_signs => k_is)
    (case l_rest_of_signs => k_is)
    (case c_rest_of_signs => k_is)
    (case p_rest_of_signs => k_is)
    (case asearch => k_is)
    (case lsearch => k_is)
    (case csearch => k_is)
    (case psearch => k_is)
    (case a_law_step => k_is)
    (case l_law_step => k_is)
    (case c_law_step => k_is)
    (case p_law_step => k_is)
    (case a_law_met => k_is)
    (case l_law_met => k_is)
    (case c_law_met => k_is)
    (case p_law_met => k_is)
    (case a_law_is_alike => k_is)
    (case l_law_is_alike => k_is)
    (case c_law_is_alike => k_is)
    (case p_law_is_alike => k_is)
    (case a_law_first => k_is)
    (case l_law_first => k_is)
    (case c_law_first => k_is)
    (case p_law_first => k_is)
    (case alaw => k_is)
    (case llaw => k_is)
    (case claw => k_is)
    (case plaw => k_is)

