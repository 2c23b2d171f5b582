import PyProof.Rows.All
import Wide.All
import OpenK.AllK
import Wide.FinOn
import HandS.ForMost
import HandS.IsInst
import HandS.Walk
import HandS.Zip
import HandS.TupAny
import HandS.SortInts
import HandS.RaiseMore
import HandS.TupLe
import HandS.Style
import HandS.NoneIn
import HandS.More
import HandS.TupSets
import HandS.Strs
import HandS.SetFor
import KE.KDictZip
import PyProof.ReprBulk
import HandS.Ends
import HandS.Conv
import HandS.Deep
import KE.GoesMore
import PyProof.EnumMake
import KE.GoesSet
import KE.SortData
import HandS.TupMul
import PySem.Challenge.RW_agreetwo_k58_blocks
set_option Elab.async false
set_option linter.all false
set_option maxRecDepth 100000
/-! DA: data as trees, what of the heap they are; a store of things that change; readings over both. -/
namespace DL
open PySem PySem.Spec L2

/-- data as a tree -/
inductive D where
  | non | bl (b : Bool) | int (i : Int) | str (x : Str) | ty (n : String)
  | lst (xs : List D) | tup (xs : List D) | scr (ns : List Int)
  | dic (ks : List Key) (vs : List D) | dit (ks : List (List Key)) (vs : List D)
  | obj (C : Addr) (fs : List Str) (vs : List D)
  deriving Inhabited

abbrev Frag := PySem.W.Frag
mutual
def R (K : Frag) (H : Hp) : D → V → Prop
  | .non, v => v = .non
  | .bl b, v => v = .bl b
  | .int i, v => v = .int i
  | .str x, v => v = .str x
  | .ty n, v => v = .ty n
  | .lst ds, v => ∃ a vs, v = .ref a ∧ H a = some (.lst vs) ∧ Rs K H ds vs
  | .scr ns, v => ∃ a, v = .ref a ∧ SqL K H a (ns.map V.int)
  | .tup ds, v => ∃ a vs, v = .ref a ∧ H a = some (.tup vs) ∧ Rs K H ds vs
  | .dic ks ds, v => ∃ a vs, v = .ref a ∧ H a = some (.dK (ks.zip vs)) ∧ ks.length = vs.length ∧ Rs K H ds vs
  | .dit ks ds, v => ∃ a vs, v = .ref a ∧ H a = some (.dT (ks.zip vs)) ∧ ks.length = vs.length ∧ Rs K H ds vs
  | .obj C fs ds, v => ∃ a dx vs, v = .ref a ∧ H a = some (.ins C dx (fs.zip vs)) ∧ fs.length = vs.length ∧ Rs K H ds vs
def Rs (K : Frag) (H : Hp) : List D → List V → Prop
  | [], vs => vs = []
  | d :: ds, vs => ∃ v r, vs = v :: r ∧ R K H d v ∧ Rs K H ds r
end

theorem same_sqL {K : Frag} {H H' : Hp} (e : Same H H') {a : Addr} {xs : List V} (h : SqL K H a xs) : SqL K H' a xs := e.seq h
theorem same_sqT {K : Frag} {H H' : Hp} (e : Same H H') {a : Addr} {xs : List V} (h : SqT K H a xs) : SqT K H' a xs := by
  rcases h with (h | ⟨o, h⟩) | h
  · exact .inl (.inl (e _ _ h))
  · exact .inl (.inr ⟨o, e _ _ h⟩)
  · exact .inr h
theorem same_rd {H H' : Hp} (e : Same H H') {a : Addr} {u : HO} (h : Rd H a u) : Rd H' a u := by
  rcases h with h | ⟨o, h⟩
  · exact .inl (e _ _ h)
  · exact .inr ⟨o, e _ _ h⟩

mutual
theorem R.mono {K : Frag} {H H' : Hp} (e : Same H H') : ∀ (d : D) (v : V), R K H d v → R K H' d v
  | .non, v, h => by simpa only [R] using h
  | .bl b, v, h => by simpa only [R] using h
  | .int i, v, h => by simpa only [R] using h
  | .str x, v, h => by simpa only [R] using h
  | .ty n, v, h => by simpa only [R] using h
  | .lst ds, v, h => by
    simp only [R] at h ⊢
    obtain ⟨a, vs, h1, h2, h3⟩ := h
    exact ⟨a, vs, h1, e _ _ h2, Rs.mono e ds vs h3⟩
  | .scr ns, v, h => by
    simp only [R] at h ⊢
    obtain ⟨a, h1, h2⟩ := h
    exact ⟨a, h1, same_sqL e h2⟩
  | .tup ds, v, h => by
    simp only [R] at h ⊢
    obtain ⟨a, vs, h1, h2, h3⟩ := h
    exact ⟨a, vs, h1, e _ _ h2, Rs.mono e ds vs h3⟩
  | .dic ks ds, v, h => by
    simp only [R] at h ⊢
    obtain ⟨a, vs, h1, h2, h3, h4⟩ := h
    exact ⟨a, vs, h1, e _ _ h2, h3, Rs.mono e ds vs h4⟩
  | .dit ks ds, v, h => by
    simp only [R] at h ⊢
    obtain ⟨a, vs, h1, h2, h3, h4⟩ := h
    exact ⟨a, vs, h1, e _ _ h2, h3, Rs.mono e ds vs h4⟩
  | .obj C fs ds, v, h => by
    simp only [R] at h ⊢
    obtain ⟨a, dx, vs, h1, h2, h3, h4⟩ := h
    exact ⟨a, dx, vs, h1, e _ _ h2, h3, Rs.mono e ds vs h4⟩
theorem Rs.mono {K : Frag} {H H' : Hp} (e : Same H H') : ∀ (ds : List D) (vs : List V), Rs K H ds vs → Rs K H' ds vs
  | [], vs, h => by simpa only [Rs] using h
  | d :: ds, vs, h => by
    simp only [Rs] at h ⊢
    obtain ⟨v, r, h1, h2, h3⟩ := h
    exact ⟨v, r, h1, R.mono e d v h2, Rs.mono e ds r h3⟩
end

section
variable {K : Frag} {H : Hp}
theorem Rs.nil : Rs K H [] [] := by simp only [Rs]
theorem Rs.cons {d : D} {v : V} {ds : List D} {vs : List V} (h : R K H d v) (r : Rs K H ds vs) : Rs K H (d :: ds) (v :: vs) := by
  simp only [Rs]
  exact ⟨v, vs, rfl, h, r⟩
theorem Rs.inv {d : D} {ds : List D} {vs : List V} (h : Rs K H (d :: ds) vs) : ∃ v r, vs = v :: r ∧ R K H d v ∧ Rs K H ds r := by
  simpa only [Rs] using h
theorem Rs.inv0 {vs : List V} (h : Rs K H [] vs) : vs = [] := by simpa only [Rs] using h
theorem Rs.length : ∀ {ds : List D} {vs : List V}, Rs K H ds vs → ds.length = vs.length
  | [], vs, h => by
    rw [h.inv0]
    rfl
  | d :: ds, vs, h => by
    obtain ⟨v, r, rfl, _, h3⟩ := h.inv
    rw [List.length_cons, List.length_cons, Rs.length h3]
theorem Rs.get : ∀ {ds : List D} {vs : List V} {i : Nat} {d : D}, Rs K H ds vs → ds[i]? = some d → ∃ v, vs[i]? = some v ∧ R K H d v
  | [], vs, i, d, h, e => by simp at e
  | d :: ds, vs, 0, d', h, e => by
    obtain ⟨v, r, rfl, h2, h3⟩ := h.inv
    simp at e
    subst e
    exact ⟨v, rfl, h2⟩
  | d :: ds, vs, i + 1, d', h, e => by
    obtain ⟨v, r, rfl, h2, h3⟩ := h.inv
    obtain ⟨w, e1, e2⟩ := Rs.get (i := i) h3 (by simpa using e)
    exact ⟨w, by simpa using e1, e2⟩
theorem Rs.getV : ∀ {ds : List D} {vs : List V} {i : Nat} {v : V}, Rs K H ds vs → vs[i]? = some v → ∃ d, ds[i]? = some d ∧ R K H d v
  | [], vs, i, v, h, e => by
    rw [h.inv0] at e
    simp at e
  | d :: ds, vs, 0, v', h, e => by
    obtain ⟨v, r, rfl, h2, h3⟩ := h.inv
    simp at e
    subst e
    exact ⟨d, rfl, h2⟩
  | d :: ds, vs, i + 1, v', h, e => by
    obtain ⟨v, r, rfl, h2, h3⟩ := h.inv
    obtain ⟨w, e1, e2⟩ := Rs.getV (i := i) h3 (by simpa using e)
    exact ⟨w, by simpa using e1, e2⟩
theorem Rs.append : ∀ {ds es : List D} {vs us : List V}, Rs K H ds vs → Rs K H es us → Rs K H (ds ++ es) (vs ++ us)
  | [], es, vs, us, h, g => by
    rw [h.inv0]
    exact g
  | d :: ds, es, vs, us, h, g => by
    obtain ⟨v, r, rfl, h2, h3⟩ := h.inv
    exact Rs.cons h2 (Rs.append h3 g)
theorem Rs.take : ∀ (n : Nat) {ds : List D} {vs : List V}, Rs K H ds vs → Rs K H (ds.take n) (vs.take n)
  | 0, ds, vs, h => by simpa using Rs.nil
  | n + 1, [], vs, h => by
    rw [h.inv0]
    simpa using Rs.nil
  | n + 1, d :: ds, vs, h => by
    obtain ⟨v, r, rfl, h2, h3⟩ := h.inv
    simpa using Rs.cons h2 (Rs.take n h3)
theorem Rs.drop : ∀ (n : Nat) {ds : List D} {vs : List V}, Rs K H ds vs → Rs K H (ds.drop n) (vs.drop n)
  | 0, ds, vs, h => by simpa using h
  | n + 1, [], vs, h => by
    rw [h.inv0]
    simpa using Rs.nil
  | n + 1, d :: ds, vs, h => by
    obtain ⟨v, r, rfl, h2, h3⟩ := h.inv
    simpa using Rs.drop n h3
theorem Rs.reverse : ∀ {ds : List D} {vs : List V}, Rs K H ds vs → Rs K H ds.reverse vs.reverse
  | [], vs, h => by
    rw [h.inv0]
    simpa using Rs.nil
  | d :: ds, vs, h => by
    obtain ⟨v, r, rfl, h2, h3⟩ := h.inv
    rw [List.reverse_cons, List.reverse_cons]
    exact (Rs.reverse h3).append (Rs.cons h2 Rs.nil)
theorem Rs.eraseIdx : ∀ (n : Nat) {ds : List D} {vs : List V}, Rs K H ds vs → Rs K H (ds.eraseIdx n) (vs.eraseIdx n)
  | n, [], vs, h => by
    rw [h.inv0]
    simpa using Rs.nil
  | 0, d :: ds, vs, h => by
    obtain ⟨v, r, rfl, h2, h3⟩ := h.inv
    simpa using h3
  | n + 1, d :: ds, vs, h => by
    obtain ⟨v, r, rfl, h2, h3⟩ := h.inv
    simpa using Rs.cons h2 (Rs.eraseIdx n h3)
theorem Rs.set {d : D} {v : V} (hd : R K H d v) : ∀ (n : Nat) {ds : List D} {vs : List V}, Rs K H ds vs → Rs K H (ds.set n d) (vs.set n v)
  | n, [], vs, h => by
    rw [h.inv0]
    simpa using Rs.nil
  | 0, d' :: ds, vs, h => by
    obtain ⟨v', r, rfl, h2, h3⟩ := h.inv
    simpa using Rs.cons hd h3
  | n + 1, d' :: ds, vs, h => by
    obtain ⟨v', r, rfl, h2, h3⟩ := h.inv
    simpa using Rs.cons h2 (Rs.set hd n h3)
end

/-! ### what changes: a store -/
/-- a value of the machine's: data, or one of the things that change -/
inductive S where
  | d (x : D) | h (k : Nat)
  deriving Inhabited
/-- what a thing that changes holds -/
inductive MO where
  | lst (xs : List D)
  | lss (xs : List S)
  | dic (kvs : List (Key × S))
  | dit (ks : List (List Key)) (vs : List D)
abbrev Mu := List (Option MO)
abbrev Sl := List (Option S)

def RS (K : Frag) (m : List Addr) (H : Hp) : S → V → Prop
  | .d x, v => R K H x v
  | .h k, v => ∃ a, m[k]? = some a ∧ v = .ref a
def RKv (K : Frag) (m : List Addr) (H : Hp) : List (Key × S) → List (Key × V) → Prop := Paired fun p q => p.1 = q.1 ∧ RS K m H p.2 q.2
def RM (K : Frag) (m : List Addr) (H : Hp) : MO → HO → Prop
  | .lst ds, o => ∃ vs, o = .lst vs ∧ Rs K H ds vs
  | .lss ss, o => ∃ vs, o = .lst vs ∧ Paired (RS K m H) ss vs
  | .dic kvs, o => ∃ kws, o = .dK kws ∧ RKv K m H kvs kws
  | .dit ks ds, o => ∃ vs, o = .dT (ks.zip vs) ∧ ks.length = vs.length ∧ Rs K H ds vs
def Lv (m : List Addr) (mu : Mu) (a : Addr) : Prop := ∃ (k : Nat) (mo : MO), m[k]? = some a ∧ mu[k]? = some (some mo)
open Classical in
noncomputable def vw (ex m : List Addr) (mu : Mu) (H : Hp) : Hp := fun p => if p ∈ ex ∨ Lv m mu p then none else H p

structure Cfg (K : Frag) (ex m : List Addr) (mu : Mu) (H : Hp) : Prop where
  len : m.length = mu.length
  nd : m.Nodup
  tr : ∀ a ∈ m, ∃ o, H a = some o
  exH : ∀ a ∈ ex, ∃ o, H a = some o
  exd : ∀ a ∈ ex, a ∉ m
  st : ∀ (k : Nat) (mo : MO), mu[k]? = some (some mo) → ∃ a o, m[k]? = some a ∧ H a = some o ∧ RM K m (vw ex m mu H) mo o
structure Ext (ex m : List Addr) (mu : Mu) (H : Hp) (m' : List Addr) (mu' : Mu) (H' : Hp) : Prop where
  pre : ∃ l, m' = m ++ l
  same : Same (vw ex m mu H) (vw ex m' mu' H')
  exk : ∀ a ∈ ex, H' a = H a

theorem vw_some {ex m : List Addr} {mu : Mu} {H : Hp} {p : Addr} {o : HO} : vw ex m mu H p = some o ↔ (p ∉ ex ∧ ¬ Lv m mu p ∧ H p = some o) := by
  unfold vw
  constructor
  · intro h
    split at h
    · cases h
    · rename_i hn
      exact ⟨fun z => hn (.inl z), fun z => hn (.inr z), h⟩
  · rintro ⟨h1, h2, h3⟩
    rw [if_neg (fun z => z.elim h1 h2)]
    exact h3
theorem vw_sub {ex m : List Addr} {mu : Mu} {H : Hp} : Same (vw ex m mu H) H := fun b o h => (vw_some.mp h).2.2
theorem Ext.refl {ex m : List Addr} {mu : Mu} {H : Hp} : Ext ex m mu H m mu H := ⟨⟨[], by simp⟩, Same.refl _, fun _ _ => rfl⟩
theorem Ext.trans {ex m m1 m2 : List Addr} {mu mu1 mu2 : Mu} {H H1 H2 : Hp} (a : Ext ex m mu H m1 mu1 H1) (b : Ext ex m1 mu1 H1 m2 mu2 H2) : Ext ex m mu H m2 mu2 H2 := by
  obtain ⟨l1, e1⟩ := a.pre
  obtain ⟨l2, e2⟩ := b.pre
  exact ⟨⟨l1 ++ l2, by rw [e2, e1, List.append_assoc]⟩, a.same.trans b.same, fun c h => (b.exk c h).trans (a.exk c h)⟩

theorem RS.mono {K : Frag} {m l : List Addr} {H H' : Hp} (e : Same H H') {s : S} {v : V} (h : RS K m H s v) : RS K (m ++ l) H' s v := by
  cases s with
  | d x => exact R.mono e x v h
  | h k =>
    obtain ⟨a, h1, h2⟩ := h
    exact ⟨a, by rw [List.getElem?_append_left (List.getElem?_eq_some_iff.mp h1).1]; exact h1, h2⟩
theorem RS.ext {K : Frag} {ex m m' : List Addr} {mu mu' : Mu} {H H' : Hp} (e : Ext ex m mu H m' mu' H') {s : S} {v : V} (h : RS K m (vw ex m mu H) s v) : RS K m' (vw ex m' mu' H') s v := by
  obtain ⟨l, rfl⟩ := e.pre
  exact RS.mono e.same h
theorem RKv.mono {K : Frag} {m l : List Addr} {H H' : Hp} (e : Same H H') {a : List (Key × S)} {b : List (Key × V)} (h : RKv K m H a b) : RKv K (m ++ l) H' a b :=
  Paired.mapP h fun p q ⟨h1, h2⟩ => ⟨h1, h2.mono e⟩
theorem RM.mono {K : Frag} {m l : List Addr} {H H' : Hp} (e : Same H H') {mo : MO} {o : HO} (h : RM K m H mo o) : RM K (m ++ l) H' mo o := by
  cases mo with
  | lst ds =>
    obtain ⟨vs, h1, h2⟩ := h
    exact ⟨vs, h1, Rs.mono e _ _ h2⟩
  | lss ss =>
    obtain ⟨vs, h1, h2⟩ := h
    exact ⟨vs, h1, Paired.mapP h2 fun _ _ z => z.mono e⟩
  | dic kvs =>
    obtain ⟨vs, h1, h2⟩ := h
    exact ⟨vs, h1, RKv.mono e h2⟩
  | dit ks ds =>
    obtain ⟨vs, h1, h2, h3⟩ := h
    exact ⟨vs, h1, h2, Rs.mono e _ _ h3⟩

/-- the names' slots -/
def SlR (K : Frag) (m : List Addr) (H : Hp) (sl : Sl) (σ : St) : Prop :=
  σ.length = sl.length ∧ ∀ (i : Nat) (s : S), sl[i]? = some (some s) → ∃ v, σ[i]? = some (some v) ∧ RS K m H s v
theorem SlR.ext {K : Frag} {ex m m' : List Addr} {mu mu' : Mu} {H H' : Hp} (e : Ext ex m mu H m' mu' H') {sl : Sl} {σ : St} (h : SlR K m (vw ex m mu H) sl σ) : SlR K m' (vw ex m' mu' H') sl σ :=
  ⟨h.1, fun i s q => let ⟨v, h1, h2⟩ := h.2 i s q; ⟨v, h1, h2.ext e⟩⟩
theorem SlR.set {K : Frag} {m : List Addr} {H : Hp} {sl : Sl} {σ : St} (h : SlR K m H sl σ) {s : S} {v : V} (r : RS K m H s v) (i : Nat) : SlR K m H (sl.set i (some s)) (σ.set i (some v)) := by
  refine ⟨by rw [List.length_set, List.length_set]; exact h.1, fun j t e => ?_⟩
  by_cases hj : i = j
  · subst hj
    by_cases hi : i < sl.length
    · rw [List.getElem?_set_self hi] at e
      cases e
      have hi2 : i < σ.length := by
        rw [h.1]
        exact hi
      exact ⟨v, List.getElem?_set_self hi2, r⟩
    · rw [List.getElem?_eq_none (by rw [List.length_set]; omega)] at e
      cases e
  · rw [List.getElem?_set_ne hj] at e
    obtain ⟨w, h1, h2⟩ := h.2 j t e
    exact ⟨w, by rw [List.getElem?_set_ne hj]; exact h1, h2⟩

/-! ### readings -/
abbrev WE := Sl → Mu → (S → Mu → Prop) → Prop
abbrev WA := Sl → Mu → (List S → Mu → Prop) → Prop
abbrev WT := Sl → Mu → (Bool → Mu → Prop) → Prop
structure DEnds where
  nx : Sl → Mu → Prop
  rt : S → Mu → Prop
  bk : Sl → Mu → Prop := fun _ _ => False
  ct : Sl → Mu → Prop := fun _ _ => False
abbrev WS := DEnds → Sl → Mu → Prop

def RSs (K : Frag) (m : List Addr) (H : Hp) : List S → List V → Prop := Paired (RS K m H)
def tE (K : Frag) (f : WE) : TE := fun σ H Q => ∃ ex m sl mu Qd, Cfg K ex m mu H ∧ SlR K m (vw ex m mu H) sl σ ∧ f sl mu Qd ∧
  ∀ s mu' m' H' v, Cfg K ex m' mu' H' → Ext ex m mu H m' mu' H' → RS K m' (vw ex m' mu' H') s v → Qd s mu' → Q v H'
def tA (K : Frag) (f : WA) : TA := fun σ H Q => ∃ ex m sl mu Qd, Cfg K ex m mu H ∧ SlR K m (vw ex m mu H) sl σ ∧ f sl mu Qd ∧
  ∀ s mu' m' H' v, Cfg K ex m' mu' H' → Ext ex m mu H m' mu' H' → RSs K m' (vw ex m' mu' H') s v → Qd s mu' → Q v H'
def tT (K : Frag) (f : WT) : TT := fun σ H Q => ∃ ex m sl mu Qd, Cfg K ex m mu H ∧ SlR K m (vw ex m mu H) sl σ ∧ f sl mu Qd ∧
  ∀ b mu' m' H', Cfg K ex m' mu' H' → Ext ex m mu H m' mu' H' → Qd b mu' → Q b H'
def tS (K : Frag) (f : WS) : TS := fun E σ H => ∃ ex m sl mu Ed, Cfg K ex m mu H ∧ SlR K m (vw ex m mu H) sl σ ∧ f Ed sl mu ∧
  (∀ sl' σ' mu' m' H', Cfg K ex m' mu' H' → Ext ex m mu H m' mu' H' → SlR K m' (vw ex m' mu' H') sl' σ' →
    (Ed.nx sl' mu' → E.nx σ' H') ∧ (Ed.bk sl' mu' → E.bk σ' H') ∧ (Ed.ct sl' mu' → E.ct σ' H')) ∧
  ∀ s mu' m' H' v, Cfg K ex m' mu' H' → Ext ex m mu H m' mu' H' → RS K m' (vw ex m' mu' H') s v → Ed.rt s mu' → E.rt v H'

def RE (X : Cx) (e : Expr) (f : WE) : Prop := PE X e (tE X.K f)
def RA (X : Cx) (es : List Expr) (f : WA) : Prop := PA X es (tA X.K f)
def RT (X : Cx) (e : Expr) (f : WT) : Prop := PT X e (tT X.K f)
def RSt (X : Cx) (st : Stmt) (f : WS) : Prop := PS X st (tS X.K f)
def RSts (X : Cx) (sts : List Stmt) (f : WS) : Prop := PSs X sts (tS X.K f)

theorem pe_imp {X : Cx} {e : Expr} {t t' : TE} (h : PE X e t) (i : ∀ σ H Q, t' σ H Q → t σ H Q) : PE X e t' := ⟨fun pins s σ H Q I q => h.run pins s σ H Q I (i σ H Q q)⟩
theorem pa_imp {X : Cx} {e : List Expr} {t t' : TA} (h : PA X e t) (i : ∀ σ H Q, t' σ H Q → t σ H Q) : PA X e t' := ⟨fun pos pins s σ H Q I q => h.run pos pins s σ H Q I (i σ H Q q)⟩
theorem pt_imp {X : Cx} {e : Expr} {t t' : TT} (h : PT X e t) (i : ∀ σ H Q, t' σ H Q → t σ H Q) : PT X e t' := ⟨fun pins s σ H Q I q => h.run pins s σ H Q I (i σ H Q q)⟩
theorem pw_imp {X : Cx} {e : Expr} {t t' : TT} (h : PW X e t) (i : ∀ σ H Q, t' σ H Q → t σ H Q) : PW X e t' := ⟨fun wh pins s σ H Q I q => h.run wh pins s σ H Q I (i σ H Q q)⟩
theorem ps_imp {X : Cx} {e : Stmt} {t t' : TS} (h : PS X e t) (i : ∀ E σ H, t' E σ H → t E σ H) : PS X e t' := ⟨fun pins s σ H D I q => h.run pins s σ H D I (i D σ H q)⟩
theorem pss_imp {X : Cx} {e : List Stmt} {t t' : TS} (h : PSs X e t) (i : ∀ E σ H, t' E σ H → t E σ H) : PSs X e t' := ⟨fun pins s σ H D I q => h.run pins s σ H D I (i D σ H q)⟩

/-! ### names, constants -/
section
variable {X : Cx} {pos : Pos}
def wVar (i : Nat) : WE := fun sl mu Q => match sl[i]? with
  | some (some s) => Q s mu
  | _ => False
def wC (d : D) : WE := fun _ mu Q => Q (.d d) mu
theorem re_var {x : Str} {i : Nat} (h : PE X (.Name x pos) (tVar i)) : RE X (.Name x pos) (wVar i) := by
  refine pe_imp h fun σ H Q q => ?_
  obtain ⟨ex, m, sl, mu, Qd, cf, sr, w, k⟩ := q
  unfold wVar at w
  split at w
  · rename_i s e
    obtain ⟨v, e1, r⟩ := sr.2 i s e
    exact ⟨v, e1, k _ _ _ _ _ cf Ext.refl r w⟩
  · exact w.elim
/-- a constant: a value that is data whatever the heap -/
theorem re_c {e : Expr} {d : D} {v : V} (h : PE X e (tC v)) (r : ∀ H, R X.K H d v) : RE X e (wC d) := by
  refine pe_imp h fun σ H Q q => ?_
  obtain ⟨ex, m, sl, mu, Qd, cf, sr, w, k⟩ := q
  exact k (.d d) _ _ _ _ cf Ext.refl (r _) w
theorem re_int {i j} : RE X (.Constant (.int i) j pos) (wC (.int i)) := re_c pe_int fun _ => by simp only [R]
theorem re_bl {b j} : RE X (.Constant (.bool b) j pos) (wC (.bl b)) := re_c pe_bl fun _ => by simp only [R]
theorem re_non {j} : RE X (.Constant .none j pos) (wC .non) := re_c pe_non fun _ => by simp only [R]
theorem re_str {x j} : RE X (.Constant (.str x) j pos) (wC (.str x)) := re_c pe_str fun _ => by simp only [R]

/-! ### two in a row -/
theorem seq2 {K : Frag} {fa fb : WE} {σ : St} {H : Hp} {G : V → V → Hp → Prop} {ex m : List Addr} {sl : Sl} {mu : Mu} {Qd : S → S → Mu → Prop} (cf : Cfg K ex m mu H) (sr : SlR K m (vw ex m mu H) sl σ)
    (w : fa sl mu fun s1 mu1 => fb sl mu1 fun s2 mu2 => Qd s1 s2 mu2)
    (k : ∀ s1 s2 mu' m' H' v1 v2, Cfg K ex m' mu' H' → Ext ex m mu H m' mu' H' → RS K m' (vw ex m' mu' H') s1 v1 → RS K m' (vw ex m' mu' H') s2 v2 → Qd s1 s2 mu' → G v1 v2 H') :
    tE K fa σ H fun x H1 => tE K fb σ H1 fun y H2 => G x y H2 := by
  refine ⟨ex, m, sl, mu, _, cf, sr, w, fun s1 mu1 m1 H1 v1 cf1 e1 r1 q1 => ?_⟩
  refine ⟨ex, m1, sl, mu1, _, cf1, sr.ext e1, q1, fun s2 mu2 m2 H2 v2 cf2 e2 r2 q2 => ?_⟩
  exact k s1 s2 mu2 m2 H2 v1 v2 cf2 (e1.trans e2) (r1.ext e2) r2 q2

/-! ### operations on values: they may make new data, no more -/
abbrev G1 := S → Mu → Option D
abbrev G2 := S → S → Mu → Option D
abbrev GN := List S → Mu → Option D
/-- the heap has grown by data -/
def Grown (K : Frag) (ex m : List Addr) (mu : Mu) (H H' : Hp) : Prop := Cfg K ex m mu H' ∧ Ext ex m mu H m mu H'
def r1D (K : Frag) (g : G1) : V → Hp → VK → Prop := fun x H Q => ∃ ex m mu s d, Cfg K ex m mu H ∧ RS K m (vw ex m mu H) s x ∧ g s mu = some d ∧
  ∀ H' v, Grown K ex m mu H H' → R K (vw ex m mu H') d v → Q v H'
def r2D (K : Frag) (g : G2) : R2 := fun x y H Q => ∃ ex m mu s1 s2 d, Cfg K ex m mu H ∧ RS K m (vw ex m mu H) s1 x ∧ RS K m (vw ex m mu H) s2 y ∧ g s1 s2 mu = some d ∧
  ∀ H' v, Grown K ex m mu H H' → R K (vw ex m mu H') d v → Q v H'
def rND (K : Frag) (g : GN) : List V → Hp → VK → Prop := fun xs H Q => ∃ ex m mu ss d, Cfg K ex m mu H ∧ RSs K m (vw ex m mu H) ss xs ∧ g ss mu = some d ∧
  ∀ H' v, Grown K ex m mu H H' → R K (vw ex m mu H') d v → Q v H'
def On {α : Type} (o : Option α) (P : α → Prop) : Prop := match o with
  | some d => P d
  | none => False
theorem On.elim {α : Type} {o : Option α} {P : α → Prop} (h : On o P) : ∃ d, o = some d ∧ P d := by
  cases o with
  | none => exact False.elim h
  | some d => exact ⟨d, rfl, h⟩
def wUn (g : G1) (fa : WE) : WE := fun sl mu Q => fa sl mu fun s mu1 => On (g s mu1) fun d => Q (.d d) mu1
def wBin (g : G2) (fa fb : WE) : WE := fun sl mu Q => fa sl mu fun s1 mu1 => fb sl mu1 fun s2 mu2 => On (g s1 s2 mu2) fun d => Q (.d d) mu2
def wCall (g : GN) (fa : WA) : WE := fun sl mu Q => fa sl mu fun ss mu1 => On (g ss mu1) fun d => Q (.d d) mu1
variable {a b : Expr} {fa fb : WE} {es : List Expr} {fs : WA}
theorem bin_red {g : G2} {σ : St} {H : Hp} {Q : VK} (q : tE X.K (wBin g fa fb) σ H Q) : tOp (r2D X.K g) (tE X.K fa) (tE X.K fb) σ H Q := by
  obtain ⟨ex, m, sl, mu, Qd, cf, sr, w, k⟩ := q
  refine seq2 cf sr w fun s1 s2 mu' m' H' v1 v2 cf' e' r1 r2 q => ?_
  obtain ⟨d, ed, q⟩ := On.elim q
  exact ⟨ex, m', mu', s1, s2, d, cf', r1, r2, ed, fun H2 v g r => k (.d d) _ _ _ _ g.1 (e'.trans g.2) r q⟩
theorem re_bin {op : Operator} {g : G2} (ho : OpR X (binaryOp op) (r2D X.K g)) (ha : RE X a fa) (hb : RE X b fb) : RE X (.BinOp a op b pos) (wBin g fa fb) :=
  pe_imp (pe_op ho ha hb) fun _ _ _ q => bin_red q
theorem re_cmp {op : CmpOp} {g : G2} (ho : OpR X (compareOp op) (r2D X.K g)) (ha : RE X a fa) (hb : RE X b fb) (hm : behindInMarks op b = false) : RE X (.Compare a [op] [b] pos) (wBin g fa fb) :=
  pe_imp (pe_cmpR ho ha hb hm) fun _ _ _ q => bin_red q
theorem re_un {op : UnaryOp} {g : G1} (ho : UnR X (unaryOp op) (r1D X.K g)) (ha : RE X a fa) : RE X (.UnaryOp op a pos) (wUn g fa) := by
  refine pe_imp (pe_un ho ha) fun σ H Q q => ?_
  obtain ⟨ex, m, sl, mu, Qd, cf, sr, w, k⟩ := q
  refine ⟨ex, m, sl, mu, _, cf, sr, w, fun s mu1 m1 H1 v cf1 e1 r1 q1 => ?_⟩
  obtain ⟨d, ed, q⟩ := On.elim q1
  exact ⟨ex, m1, mu1, s, d, cf1, r1, ed, fun H2 v g r => k (.d d) _ _ _ _ g.1 (e1.trans g.2) r q⟩

/-! ### argument lists -/
def wNil : WA := fun _ mu Q => Q [] mu
def wCons (fa : WE) (fr : WA) : WA := fun sl mu Q => fa sl mu fun s mu1 => fr sl mu1 fun ss mu2 => Q (s :: ss) mu2
theorem ra_nil : RA X [] wNil := by
  refine pa_imp pa_nil fun σ H Q q => ?_
  obtain ⟨ex, m, sl, mu, Qd, cf, sr, w, k⟩ := q
  exact k _ _ _ _ _ cf Ext.refl .nil w
theorem ra_cons (ha : RE X a fa) (hr : RA X es fs) (hs : starEach (a :: es) X.env = (false, eval a X.env) :: starEach es X.env := by rfl) : RA X (a :: es) (wCons fa fs) := by
  refine pa_imp (pa_cons ha hr hs) fun σ H Q q => ?_
  obtain ⟨ex, m, sl, mu, Qd, cf, sr, w, k⟩ := q
  refine ⟨ex, m, sl, mu, _, cf, sr, w, fun s1 mu1 m1 H1 v1 cf1 e1 r1 q1 => ?_⟩
  refine ⟨ex, m1, sl, mu1, _, cf1, sr.ext e1, q1, fun s2 mu2 m2 H2 v2 cf2 e2 r2 q2 => ?_⟩
  exact k _ _ _ _ _ cf2 (e1.trans e2) (.cons (r1.ext e2) r2) q2
theorem call_red {g : GN} {σ : St} {H : Hp} {Q : VK} (q : tE X.K (wCall g fs) σ H Q) : tCB (rND X.K g) (tA X.K fs) σ H Q := by
  obtain ⟨ex, m, sl, mu, Qd, cf, sr, w, k⟩ := q
  refine ⟨ex, m, sl, mu, _, cf, sr, w, fun s mu1 m1 H1 v cf1 e1 r1 q1 => ?_⟩
  obtain ⟨d, ed, q⟩ := On.elim q1
  exact ⟨ex, m1, mu1, s, d, cf1, r1, ed, fun H2 v g r => k (.d d) _ _ _ _ g.1 (e1.trans g.2) r q⟩
end
end DL
set_option Elab.async false
set_option linter.all false
set_option maxRecDepth 100000
set_option maxHeartbeats 1000000
namespace DL
open PySem PySem.Spec L2

/-! ### tests -/
section
variable {X : Cx} {pos : Pos} {a b : Expr} {fa fb : WE} {ta tb : WT} {rest : List Expr}
/-- a bool, as a test -/
def wB (fa : WE) : WT := fun sl mu Q => fa sl mu fun s mu1 => match s with
  | .d (.bl k) => Q k mu1
  | _ => False
theorem wB_red {K : Frag} {σ : L2.St} {H : Hp} {Q : Bool → Hp → Prop} (q : tT K (wB fa) σ H Q) : tB (tE K fa) σ H Q := by
  obtain ⟨ex, m, sl, mu, Qd, cf, sr, w, k⟩ := q
  refine ⟨ex, m, sl, mu, _, cf, sr, w, fun s mu1 m1 H1 v cf1 e1 r1 q1 => ?_⟩
  cases s with
  | h _ => exact q1.elim
  | d x =>
    cases x <;> first
      | exact q1.elim
      | (rename_i c
         have r1 : v = .bl c := by simpa only [RS, R] using r1
         exact ⟨c, r1, k _ _ _ _ cf1 e1 q1⟩)
theorem rt_val (ha : RE X a fa) (he : ∀ whole, isTrue a X.env whole = (do let v ← whole; standAt a.pos; holding [v] (truthy v)) := by intro _; rfl) : RT X a (wB fa) :=
  pt_imp (pt_val ha he) fun _ _ _ q => wB_red q
theorem rt_cmp {op : CmpOp} {g : G2} (ho : OpR X (compareOp op) (r2D X.K g)) (ha : RE X a fa) (hb : RE X b fb) (hm : behindInMarks op b = false) : RT X (.Compare a [op] [b] pos) (wB (wBin g fa fb)) := by
  refine pt_imp (pt_cmpR ho ha hb hm) fun σ H Q q => ?_
  obtain ⟨ex, m, sl, mu, Qd, cf, sr, w, k⟩ := q
  refine seq2 cf sr w fun s1 s2 mu' m' H' v1 v2 cf' e' r1 r2 q => ?_
  obtain ⟨d, ed, q⟩ := On.elim q
  refine ⟨ex, m', mu', s1, s2, d, cf', r1, r2, ed, fun H2 v g r => ?_⟩
  cases d <;> first
    | exact q.elim
    | (rename_i c
       have r : v = .bl c := by simpa only [R] using r
       exact ⟨c, r, k _ _ _ _ g.1 (e'.trans g.2) q⟩)
def wAndT (ta tb : WT) : WT := fun sl mu Q => ta sl mu fun k mu1 => if k = true then tb sl mu1 Q else Q false mu1
def wOrT (ta tb : WT) : WT := fun sl mu Q => ta sl mu fun k mu1 => if k = true then Q true mu1 else tb sl mu1 Q
def wNotT (ta : WT) : WT := fun sl mu Q => ta sl mu fun k mu1 => Q (!k) mu1
def RW (X : Cx) (e : Expr) (f : WT) : Prop := PW X e (tT X.K f)
theorem rw_and1 (ha : RT X a ta) : RW X (.BoolOp .And [a] pos) ta := pw_and1 ha
theorem rw_or1 (ha : RT X a ta) : RW X (.BoolOp .Or [a] pos) ta := pw_or1 ha
theorem rw_and (ha : RT X a ta) (hb : RW X (.BoolOp .And (b :: rest) pos) tb) : RW X (.BoolOp .And (a :: b :: rest) pos) (wAndT ta tb) := by
  refine pw_imp (pw_and ha hb) fun σ H Q q => ?_
  obtain ⟨ex, m, sl, mu, Qd, cf, sr, w, k⟩ := q
  refine ⟨ex, m, sl, mu, _, cf, sr, w, fun c mu1 m1 H1 cf1 e1 q1 => ?_⟩
  cases c with
  | true =>
    rw [if_pos rfl] at q1 ⊢
    exact ⟨ex, m1, sl, mu1, _, cf1, sr.ext e1, q1, fun s mu2 m2 H2 cf2 e2 q2 => k _ _ _ _ cf2 (e1.trans e2) q2⟩
  | false =>
    rw [if_neg Bool.false_ne_true] at q1 ⊢
    exact k _ _ _ _ cf1 e1 q1
theorem rw_or (ha : RT X a ta) (hb : RW X (.BoolOp .Or (b :: rest) pos) tb) : RW X (.BoolOp .Or (a :: b :: rest) pos) (wOrT ta tb) := by
  refine pw_imp (pw_or ha hb) fun σ H Q q => ?_
  obtain ⟨ex, m, sl, mu, Qd, cf, sr, w, k⟩ := q
  refine ⟨ex, m, sl, mu, _, cf, sr, w, fun c mu1 m1 H1 cf1 e1 q1 => ?_⟩
  cases c with
  | true =>
    rw [if_pos rfl] at q1 ⊢
    exact k _ _ _ _ cf1 e1 q1
  | false =>
    rw [if_neg Bool.false_ne_true] at q1 ⊢
    exact ⟨ex, m1, sl, mu1, _, cf1, sr.ext e1, q1, fun s mu2 m2 H2 cf2 e2 q2 => k _ _ _ _ cf2 (e1.trans e2) q2⟩
theorem rt_w (h : RW X a ta) : RT X a ta := PW.pt h
theorem rt_not (ha : RT X a ta) : RT X (.UnaryOp .Not a pos) (wNotT ta) := by
  refine pt_imp (pt_not ha) fun σ H Q q => ?_
  obtain ⟨ex, m, sl, mu, Qd, cf, sr, w, k⟩ := q
  exact ⟨ex, m, sl, mu, _, cf, sr, w, fun c mu1 m1 H1 cf1 e1 q1 => k _ _ _ _ cf1 e1 q1⟩
/-! values that are bools -/
def wAndV (fa fb : WE) : WE := fun sl mu Q => wB fa sl mu fun k mu1 => if k = true then fb sl mu1 Q else Q (.d (.bl false)) mu1
def wOrV (fa fb : WE) : WE := fun sl mu Q => wB fa sl mu fun k mu1 => if k = true then Q (.d (.bl true)) mu1 else fb sl mu1 Q
def wNotV (fa : WE) : WE := fun sl mu Q => wB fa sl mu fun k mu1 => Q (.d (.bl (!k))) mu1
theorem wB_tE {K : Frag} {σ : L2.St} {H : Hp} {ex m : List Addr} {sl : Sl} {mu : Mu} {Qd : Bool → Mu → Prop} {G : V → Hp → Prop} (cf : Cfg K ex m mu H) (sr : SlR K m (vw ex m mu H) sl σ) (w : wB fa sl mu Qd)
    (k : ∀ c mu' m' H', Cfg K ex m' mu' H' → Ext ex m mu H m' mu' H' → Qd c mu' → G (.bl c) H') : tE K fa σ H G := by
  refine ⟨ex, m, sl, mu, _, cf, sr, w, fun s mu1 m1 H1 v cf1 e1 r1 q1 => ?_⟩
  cases s with
  | h _ => exact q1.elim
  | d x =>
    cases x <;> first
      | exact q1.elim
      | (rename_i c
         have r1 : v = .bl c := by simpa only [RS, R] using r1
         rw [r1]
         exact k _ _ _ _ cf1 e1 q1)
theorem rs_bl {K : Frag} {m : List Addr} {H : Hp} (b : Bool) : RS K m H (.d (.bl b)) (.bl b) := by simp only [RS, R]
theorem re_one {op : BoolOp} {f : WE} (h : RE X a f) : RE X (.BoolOp op [a] pos) f := pe_one h
theorem re_and (ha : RE X a fa) (hb : RE X (.BoolOp .And (b :: rest) pos) fb) : RE X (.BoolOp .And (a :: b :: rest) pos) (wAndV fa fb) := by
  refine pe_imp (pe_and ha hb) fun σ H Q q => ?_
  obtain ⟨ex, m, sl, mu, Qd, cf, sr, w, k⟩ := q
  refine wB_tE cf sr w fun c mu1 m1 H1 cf1 e1 q1 => ⟨c, rfl, ?_⟩
  cases c with
  | true =>
    rw [if_pos rfl] at q1 ⊢
    exact ⟨ex, m1, sl, mu1, _, cf1, sr.ext e1, q1, fun s mu2 m2 H2 v cf2 e2 r2 q2 => k _ _ _ _ _ cf2 (e1.trans e2) r2 q2⟩
  | false =>
    rw [if_neg Bool.false_ne_true] at q1 ⊢
    exact k _ _ _ _ _ cf1 e1 (rs_bl false) q1
theorem re_or (ha : RE X a fa) (hb : RE X (.BoolOp .Or (b :: rest) pos) fb) : RE X (.BoolOp .Or (a :: b :: rest) pos) (wOrV fa fb) := by
  refine pe_imp (pe_or ha hb) fun σ H Q q => ?_
  obtain ⟨ex, m, sl, mu, Qd, cf, sr, w, k⟩ := q
  refine wB_tE cf sr w fun c mu1 m1 H1 cf1 e1 q1 => ⟨c, rfl, ?_⟩
  cases c with
  | true =>
    rw [if_pos rfl] at q1 ⊢
    exact k _ _ _ _ _ cf1 e1 (rs_bl true) q1
  | false =>
    rw [if_neg Bool.false_ne_true] at q1 ⊢
    exact ⟨ex, m1, sl, mu1, _, cf1, sr.ext e1, q1, fun s mu2 m2 H2 v cf2 e2 r2 q2 => k _ _ _ _ _ cf2 (e1.trans e2) r2 q2⟩
theorem re_not (ha : RE X a fa) : RE X (.UnaryOp .Not a pos) (wNotV fa) := by
  refine pe_imp (pe_not ha) fun σ H Q q => ?_
  obtain ⟨ex, m, sl, mu, Qd, cf, sr, w, k⟩ := q
  exact wB_tE cf sr w fun c mu1 m1 H1 cf1 e1 q1 => ⟨c, rfl, k _ _ _ _ _ cf1 e1 (rs_bl _) q1⟩
def wIfE (t : WT) (fa fb : WE) : WE := fun sl mu Q => t sl mu fun k mu1 => if k = true then fa sl mu1 Q else fb sl mu1 Q
theorem re_if {c : Expr} {t : WT} (hc : RT X c t) (ha : RE X a fa) (hb : RE X b fb) : RE X (.IfExp c a b pos) (wIfE t fa fb) := by
  refine pe_imp (pe_ifExp hc ha hb) fun σ H Q q => ?_
  obtain ⟨ex, m, sl, mu, Qd, cf, sr, w, k⟩ := q
  refine ⟨ex, m, sl, mu, _, cf, sr, w, fun c mu1 m1 H1 cf1 e1 q1 => ?_⟩
  cases c with
  | true =>
    rw [if_pos rfl] at q1 ⊢
    exact ⟨ex, m1, sl, mu1, _, cf1, sr.ext e1, q1, fun s mu2 m2 H2 v cf2 e2 r2 q2 => k _ _ _ _ _ cf2 (e1.trans e2) r2 q2⟩
  | false =>
    rw [if_neg Bool.false_ne_true] at q1 ⊢
    exact ⟨ex, m1, sl, mu1, _, cf1, sr.ext e1, q1, fun s mu2 m2 H2 v cf2 e2 r2 q2 => k _ _ _ _ _ cf2 (e1.trans e2) r2 q2⟩
end

/-! ### blocks, small statements -/
section
variable {X : Cx} {pos : Pos} {e : Expr} {f : WE} {st : Stmt} {rest : List Stmt} {g h : WS}
def wSkip : WS := fun E sl mu => E.nx sl mu
def wSeq (g h : WS) : WS := fun E sl mu => g { nx := fun sl' mu' => h E sl' mu', rt := E.rt, bk := E.bk, ct := E.ct } sl mu
def wRet (f : WE) : WS := fun E sl mu => f sl mu fun s mu1 => E.rt s mu1
def wDrop (f : WE) : WS := fun E sl mu => f sl mu fun _ mu1 => E.nx sl mu1
def wSet (i : Nat) (f : WE) : WS := fun E sl mu => f sl mu fun s mu1 => E.nx (sl.set i (some s)) mu1
def wIf (t : WT) (g h : WS) : WS := fun E sl mu => t sl mu fun k mu1 => if k = true then g E sl mu1 else h E sl mu1
def wBreak : WS := fun E sl mu => E.bk sl mu
def wCont : WS := fun E sl mu => E.ct sl mu
theorem rss_nil : RSts X [] wSkip := by
  refine pss_imp pss_nil fun E σ H q => ?_
  obtain ⟨ex, m, sl, mu, Ed, cf, sr, w, k, _⟩ := q
  exact (k _ _ _ _ _ cf Ext.refl sr).1 w
theorem rs_pass : RSt X (.Pass pos) wSkip := by
  refine ps_imp ps_pass fun E σ H q => ?_
  obtain ⟨ex, m, sl, mu, Ed, cf, sr, w, k, _⟩ := q
  exact (k _ _ _ _ _ cf Ext.refl sr).1 w
theorem rs_break : RSt X (.Break pos) wBreak := by
  refine ps_imp ps_break fun E σ H q => ?_
  obtain ⟨ex, m, sl, mu, Ed, cf, sr, w, k, _⟩ := q
  exact (k _ _ _ _ _ cf Ext.refl sr).2.1 w
theorem rs_cont : RSt X (.Continue pos) wCont := by
  refine ps_imp ps_continue fun E σ H q => ?_
  obtain ⟨ex, m, sl, mu, Ed, cf, sr, w, k, _⟩ := q
  exact (k _ _ _ _ _ cf Ext.refl sr).2.2 w
theorem rss_cons (h1 : RSt X st g) (h2 : RSts X rest h) : RSts X (st :: rest) (wSeq g h) := by
  refine pss_imp (pss_cons h1 h2) fun E σ H q => ?_
  obtain ⟨ex, m, sl, mu, Ed, cf, sr, w, k, kr⟩ := q
  refine ⟨ex, m, sl, mu, _, cf, sr, w, fun sl1 σ1 mu1 m1 H1 cf1 e1 sr1 => ⟨fun q1 => ?_, (k _ _ _ _ _ cf1 e1 sr1).2⟩, kr⟩
  exact ⟨ex, m1, sl1, mu1, Ed, cf1, sr1, q1, fun sl2 σ2 mu2 m2 H2 cf2 e2 sr2 => k _ _ _ _ _ cf2 (e1.trans e2) sr2, fun s mu2 m2 H2 v cf2 e2 r2 q2 => kr _ _ _ _ _ cf2 (e1.trans e2) r2 q2⟩
theorem rss_one (h1 : RSt X st g) : RSts X [st] g := pss_one h1
theorem rs_ret (he : RE X e f) : RSt X (.Return (some e) pos) (wRet f) := by
  refine ps_imp (ps_ret he) fun E σ H q => ?_
  obtain ⟨ex, m, sl, mu, Ed, cf, sr, w, _, kr⟩ := q
  exact ⟨ex, m, sl, mu, _, cf, sr, w, kr⟩
def wRetN : WS := fun E _ mu => E.rt (.d .non) mu
theorem rs_retN : RSt X (.Return none pos) wRetN := by
  refine ps_imp ps_retN fun E σ H q => ?_
  obtain ⟨ex, m, sl, mu, Ed, cf, sr, w, _, kr⟩ := q
  exact kr _ _ _ _ _ cf Ext.refl (by simp only [RS, R]) w
theorem rs_expr (he : RE X e f) (hs : swapsWith e none pos.line X.env = pure false := by rfl) : RSt X (.Expr e pos) (wDrop f) := by
  refine ps_imp (ps_expr he hs) fun E σ H q => ?_
  obtain ⟨ex, m, sl, mu, Ed, cf, sr, w, k, _⟩ := q
  exact ⟨ex, m, sl, mu, _, cf, sr, w, fun s mu1 m1 H1 v cf1 e1 r1 q1 => (k _ _ _ _ _ cf1 e1 (sr.ext e1)).1 q1⟩
theorem set_red {K : Frag} {i : Nat} {t : TE} {f : WE} {E : Ends} {σ : L2.St} {H : Hp} (ht : ∀ Q, tE K f σ H Q → t σ H Q) (q : tS K (wSet i f) E σ H) : tAsg t (gName i) E σ H := by
  obtain ⟨ex, m, sl, mu, Ed, cf, sr, w, k, _⟩ := q
  refine ht _ ⟨ex, m, sl, mu, _, cf, sr, w, fun s mu1 m1 H1 v cf1 e1 r1 q1 => ?_⟩
  exact (k _ _ _ _ _ cf1 e1 ((sr.ext e1).set r1 i)).1 q1
theorem rs_set {i : Nat} {x : Str} {pos' : Pos} (hN : X.N.Nodup) (hi : X.N[i]? = some x) (hx : Loc X.env.scope x) (he : RE X e f) (hs : swapsWith e (some (.Name x pos')) pos.line X.env = pure false := by rfl)
    (hf : X.fn x = true ∨ X.env.scope.names.lookup x = some .local := by first | exact .inl rfl | exact .inr rfl | assumption) : RSt X (.Assign [.Name x pos'] e pos) (wSet i f) :=
  ps_imp (ps_set hN hi hx he hs hf) fun _ _ _ q => set_red (fun _ z => z) q
theorem rs_if {c : Expr} {sa sb : List Stmt} {t : WT} (hc : RT X c t) (ha : RSts X sa g) (hb : RSts X sb h) : RSt X (.If c sa sb pos) (wIf t g h) := by
  refine ps_imp (ps_if hc ha hb) fun E σ H q => ?_
  obtain ⟨ex, m, sl, mu, Ed, cf, sr, w, k, kr⟩ := q
  refine ⟨ex, m, sl, mu, _, cf, sr, w, fun b mu1 m1 H1 cf1 e1 q1 => ?_⟩
  cases b with
  | true =>
    rw [if_pos rfl] at q1 ⊢
    exact ⟨ex, m1, sl, mu1, Ed, cf1, sr.ext e1, q1, fun sl2 σ2 mu2 m2 H2 cf2 e2 sr2 => k _ _ _ _ _ cf2 (e1.trans e2) sr2, fun s mu2 m2 H2 v cf2 e2 r2 q2 => kr _ _ _ _ _ cf2 (e1.trans e2) r2 q2⟩
  | false =>
    rw [if_neg Bool.false_ne_true] at q1 ⊢
    exact ⟨ex, m1, sl, mu1, Ed, cf1, sr.ext e1, q1, fun sl2 σ2 mu2 m2 H2 cf2 e2 sr2 => k _ _ _ _ _ cf2 (e1.trans e2) sr2, fun s mu2 m2 H2 v cf2 e2 r2 q2 => kr _ _ _ _ _ cf2 (e1.trans e2) r2 q2⟩
/-- while: so many turns -/
def wWhileN (t : WT) (g : WS) (E : DEnds) : Nat → Sl → Mu → Prop
  | 0, _, _ => False
  | n + 1, sl, mu => t sl mu fun k mu1 => if k = true then g { nx := wWhileN t g E n, rt := E.rt, bk := E.nx, ct := wWhileN t g E n } sl mu1 else E.nx sl mu1
def wWhile (t : WT) (g : WS) : WS := fun E sl mu => ∃ n, wWhileN t g E n sl mu
theorem rs_while {c : Expr} {sb : List Stmt} {t : WT} (hp : PassesOwn (model X.prog X.w) X.A X.env X.xe) (hc : RT X c t) (hb : RSts X sb g) : RSt X (.While c sb [] pos) (wWhile t g) := by
  refine ps_imp (ps_while hp hc hb) fun E σ H q => ?_
  obtain ⟨ex, m, sl, mu, Ed, cf, sr, ⟨n, w⟩, k, kr⟩ := q
  refine ⟨fun j σ1 H1 => ∃ m1 sl1 mu1, Cfg X.K ex m1 mu1 H1 ∧ Ext ex m mu H m1 mu1 H1 ∧ SlR X.K m1 (vw ex m1 mu1 H1) sl1 σ1 ∧ wWhileN t g Ed j sl1 mu1, ⟨n, m, sl, mu, cf, Ext.refl, sr, w⟩, ?_⟩
  rintro j σ1 H1 ⟨m1, sl1, mu1, cf1, e1, sr1, w1⟩
  cases j with
  | zero => exact w1.elim
  | succ j =>
    refine ⟨ex, m1, sl1, mu1, _, cf1, sr1, w1, fun b mu2 m2 H2 cf2 e2 q2 => ?_⟩
    cases b with
    | true =>
      rw [if_pos rfl] at q2
      have back : ∀ sl3 σ3 mu3 m3 H3, Cfg X.K ex m3 mu3 H3 → Ext ex m2 mu2 H2 m3 mu3 H3 → SlR X.K m3 (vw ex m3 mu3 H3) sl3 σ3 → wWhileN t g Ed j sl3 mu3 →
          ∃ j', j' < j + 1 ∧ ∃ m1 sl1 mu1, Cfg X.K ex m1 mu1 H3 ∧ Ext ex m mu H m1 mu1 H3 ∧ SlR X.K m1 (vw ex m1 mu1 H3) sl1 σ3 ∧ wWhileN t g Ed j' sl1 mu1 :=
        fun sl3 σ3 mu3 m3 H3 cf3 e3 sr3 w3 => ⟨j, Nat.lt_succ_self j, m3, sl3, mu3, cf3, (e1.trans e2).trans e3, sr3, w3⟩
      refine ⟨_, fun σ' H' z => z, ex, m2, sl1, mu2, _, cf2, sr1.ext e2, q2, fun sl3 σ3 mu3 m3 H3 cf3 e3 sr3 => ⟨fun q3 => back _ _ _ _ _ cf3 e3 sr3 q3, fun q3 => ?_, fun q3 => back _ _ _ _ _ cf3 e3 sr3 q3⟩, fun s mu3 m3 H3 v cf3 e3 r3 q3 => kr _ _ _ _ _ cf3 ((e1.trans e2).trans e3) r3 q3⟩
      exact (k _ _ _ _ _ cf3 ((e1.trans e2).trans e3) sr3).1 q3
    | false =>
      rw [if_neg Bool.false_ne_true] at q2
      exact (k _ _ _ _ _ cf2 (e1.trans e2) (sr1.ext e2)).1 q2
end

/-! ### targets -/
abbrev WG := D → Sl → Option Sl
def tG (K : Frag) (vs : List Nat) (g : WG) : TG := fun v σ H Q => ∃ ex m sl mu d sl', Cfg K ex m mu H ∧ SlR K m (vw ex m mu H) sl σ ∧ R K (vw ex m mu H) d v ∧ g d sl = some sl' ∧
  ∀ σ', SlR K m (vw ex m mu H) sl' σ' → (σ'.length = σ.length ∧ ∀ i, i ∉ vs → σ'[i]? = σ[i]?) → Q σ' H
def RG (X : Cx) (tg : Expr) (vs : List Nat) (g : WG) : Prop := PG X tg (tG X.K vs g)
theorem pg_imp {X : Cx} {tg : Expr} {t t' : TG} (h : PG X tg t) (i : ∀ v σ H Q, t' v σ H Q → t v σ H Q) : PG X tg t' := ⟨fun pins s σ H v u Q I r q => h.run pins s σ H v u Q I r (i v σ H Q q)⟩
section
variable {X : Cx} {pos : Pos}
def gN (i : Nat) : WG := fun d sl => some (sl.set i (some (.d d)))
theorem rg_name {i : Nat} {x : Str} (h : PG X (.Name x pos) (gName i)) : RG X (.Name x pos) [i] (gN i) := by
  refine pg_imp h fun v σ H Q q => ?_
  obtain ⟨ex, m, sl, mu, d, sl', cf, sr, r, e, k⟩ := q
  cases e
  refine k _ (sr.set (s := .d d) r i) ⟨by simp, fun j hj => ?_⟩
  rw [List.getElem?_set_ne (fun z => hj (by rw [z]; simp))]
/-- two names of a tuple of two -/
def gP (g h : WG) : WG := fun d sl => match d with
  | .tup [x, y] => match g x sl with
    | some sl1 => h y sl1
    | none => none
  | _ => none
theorem rg_pair {a b : Expr} {k : Nat} {vs us : List Nat} {g h : WG} (hc : X.calm = true) (ha : RG X a vs g) (hb : RG X b us h)
    (hn : (assignEach [a, b] X.env).length = 2 := by rfl) (hst : (assignEach [a, b] X.env).findIdx? (·.1) = none := by rfl)
    (hs1 : (assignEach [a, b] X.env).map (·.2) = assign a X.env :: (assignEach [b] X.env).map (·.2) := by rfl) (hs2 : (assignEach [b] X.env).map (·.2) = assign b X.env :: (assignEach [] X.env).map (·.2) := by rfl) :
    RG X (.Tuple [a, b] k pos) (vs ++ us) (gP g h) := by
  refine pg_imp (pg_tup (n := 2) hc (pgs_cons ha (pgs_cons hb pgs_nil hs2) hs1) hn hst) fun v σ H Q q => ?_
  obtain ⟨ex, m, sl, mu, d, sl', cf, sr, r, e, k⟩ := q
  unfold gP at e
  split at e
  · rename_i x y
    split at e
    · rename_i sl1 e1
      simp only [R] at r
      obtain ⟨p, ws, rfl, hq, rs⟩ := r
      obtain ⟨v1, r1, rfl, h1, rs⟩ := rs.inv
      obtain ⟨v2, r2, rfl, h2, rs⟩ := rs.inv
      obtain rfl := rs.inv0
      refine ⟨p, _, rfl, SqT.of (vw_sub _ _ hq), rfl, v1, _, rfl, ex, m, sl, mu, x, sl1, cf, sr, h1, e1, fun σ1 sr1 ag1 => ?_⟩
      refine ⟨v2, _, rfl, ex, m, sl1, mu, y, sl', cf, sr1, h2, e, fun σ2 sr2 ag2 => ⟨rfl, k σ2 sr2 ⟨ag2.1.trans ag1.1, fun i hi => ?_⟩⟩⟩
      rw [ag2.2 i fun z => hi (List.mem_append_right _ z), ag1.2 i fun z => hi (List.mem_append_left _ z)]
    · cases e
  · cases e
end

/-! ### what is walked -/
/-- what was seen is seen still -/
structure Le (ex m : List Addr) (mu : Mu) (H : Hp) (ex2 m2 : List Addr) (mu2 : Mu) (H2 : Hp) : Prop where
  pre : ∃ l, m2 = m ++ l
  same : Same (vw ex m mu H) (vw ex2 m2 mu2 H2)
theorem Ext.le {ex m m2 : List Addr} {mu mu2 : Mu} {H H2 : Hp} (e : Ext ex m mu H m2 mu2 H2) : Le ex m mu H ex m2 mu2 H2 := ⟨e.pre, e.same⟩
theorem Le.trans {ex ex1 ex2 m m1 m2 : List Addr} {mu mu1 mu2 : Mu} {H H1 H2 : Hp} (a : Le ex m mu H ex1 m1 mu1 H1) (b : Le ex1 m1 mu1 H1 ex2 m2 mu2 H2) : Le ex m mu H ex2 m2 mu2 H2 := by
  obtain ⟨l1, e1⟩ := a.pre
  obtain ⟨l2, e2⟩ := b.pre
  exact ⟨⟨l1 ++ l2, by rw [e2, e1, List.append_assoc]⟩, a.same.trans b.same⟩
theorem RS.le {K : Frag} {ex ex2 m m2 : List Addr} {mu mu2 : Mu} {H H2 : Hp} (e : Le ex m mu H ex2 m2 mu2 H2) {s : S} {v : V} (h : RS K m (vw ex m mu H) s v) : RS K m2 (vw ex2 m2 mu2 H2) s v := by
  obtain ⟨l, rfl⟩ := e.pre
  exact RS.mono e.same h
theorem SlR.le {K : Frag} {ex ex2 m m2 : List Addr} {mu mu2 : Mu} {H H2 : Hp} (e : Le ex m mu H ex2 m2 mu2 H2) {sl : Sl} {σ : L2.St} (h : SlR K m (vw ex m mu H) sl σ) : SlR K m2 (vw ex2 m2 mu2 H2) sl σ :=
  ⟨h.1, fun i s q => let ⟨v, h1, h2⟩ := h.2 i s q; ⟨v, h1, h2.le e⟩⟩
structure WkD (K : Frag) (ex m : List Addr) (mu : Mu) (H : Hp) (J : It) (ds : List D) : Prop where
  go : ∀ i ex2 m2 mu2 H2, i < ds.length → Cfg K ex2 m2 mu2 H2 → Le ex m mu H ex2 m2 mu2 H2 → J.go i H2
  yld : ∀ i ex2 m2 mu2 H2 x H3, i < ds.length → Cfg K ex2 m2 mu2 H2 → Le ex m mu H ex2 m2 mu2 H2 → J.yld i H2 x H3 → ∃ d, ds[i]? = some d ∧ Grown K ex2 m2 mu2 H2 H3 ∧ R K (vw ex2 m2 mu2 H3) d x
  stop : ∀ ex2 m2 mu2 H2, Cfg K ex2 m2 mu2 H2 → Le ex m mu H ex2 m2 mu2 H2 → J.stop ds.length H2
abbrev WI := Sl → Mu → (List D → Mu → Prop) → Prop
def tI (K : Frag) (f : WI) : TI := fun σ H Q => ∃ ex m sl mu Qd, Cfg K ex m mu H ∧ SlR K m (vw ex m mu H) sl σ ∧ f sl mu Qd ∧
  ∀ ds mu' m' H' J, Cfg K ex m' mu' H' → Ext ex m mu H m' mu' H' → WkD K ex m' mu' H' J ds → Qd ds mu' → Q J H'
def RI (X : Cx) (tg iter : Expr) (f : WI) : Prop := PI X tg iter (tI X.K f)
theorem pi_imp {X : Cx} {tg e : Expr} {t t' : TI} (h : PI X tg e t) (i : ∀ σ H Q, t' σ H Q → t σ H Q) : PI X tg e t' := ⟨fun pins s σ H Q I q => h.run pins s σ H Q I (i σ H Q q)⟩

def wForD (g : WG) (b : WS) (E : DEnds) : List D → Sl → Mu → Prop
  | [], sl, mu => E.nx sl mu
  | d :: ds, sl, mu => On (g d sl) fun sl1 => b { nx := wForD g b E ds, rt := E.rt, bk := E.nx, ct := wForD g b E ds } sl1 mu
def wFor (fi : WI) (g : WG) (b : WS) : WS := fun E sl mu => fi sl mu fun ds mu1 => wForD g b E ds sl mu1
section
variable {X : Cx} {pos : Pos} {tg iter : Expr} {fi : WI} {g : WG} {vs : List Nat} {body : List Stmt} {b : WS}
theorem rs_for (hp : PassesOwn (model X.prog X.w) X.A X.env X.xe) (hc : X.calm = true) (hi : RI X tg iter fi) (hg : RG X tg vs g) (hb : RSts X body b)
    (hs : ∀ x, foldedSetIterable iter X.env x = pure x := by intro _; rfl) : RSt X (.For tg iter body [] pos) (wFor fi g b) := by
  refine ps_imp (ps_for hp hc hi hg hb hs) fun E σ H q => ?_
  obtain ⟨ex, m, sl, mu, Ed, cf, sr, w, k, kr⟩ := q
  refine ⟨ex, m, sl, mu, _, cf, sr, w, fun ds mu1 m1 H1 J cf1 e1 wk q1 => ?_⟩
  refine ⟨fun i j σ2 H2 => j = ds.length - i ∧ i ≤ ds.length ∧ ∃ m2 sl2 mu2, Cfg X.K ex m2 mu2 H2 ∧ Ext ex m1 mu1 H1 m2 mu2 H2 ∧ SlR X.K m2 (vw ex m2 mu2 H2) sl2 σ2 ∧ wForD g b Ed (ds.drop i) sl2 mu2,
    ⟨ds.length, by simp, Nat.zero_le _, m1, sl, mu1, cf1, Ext.refl, sr.ext e1, by simpa using q1⟩, ?_⟩
  rintro i j σ2 H2 ⟨rfl, hi2, m2, sl2, mu2, cf2, e2, sr2, w2⟩
  by_cases hlt : i < ds.length
  · refine .inr ⟨wk.go i ex m2 mu2 H2 hlt cf2 e2.le, fun σ5 H5 => ∃ m5 sl5 mu5, Cfg X.K ex m5 mu5 H5 ∧ Ext ex m1 mu1 H1 m5 mu5 H5 ∧ SlR X.K m5 (vw ex m5 mu5 H5) sl5 σ5 ∧ wForD g b Ed (ds.drop (i + 1)) sl5 mu5,
      fun σ5 H5 z => ⟨ds.length - (i + 1), by omega, rfl, hlt, z⟩, fun x H3 y => ?_⟩
    obtain ⟨d, ed, gr, r⟩ := wk.yld i ex m2 mu2 H2 x H3 hlt cf2 e2.le y
    have edr : ds.drop i = d :: ds.drop (i + 1) := by
      rw [List.drop_eq_getElem_cons hlt]
      rw [List.getElem?_eq_getElem hlt] at ed
      cases ed
      rfl
    rw [edr] at w2
    obtain ⟨sl3, eg, w3⟩ := On.elim w2
    refine ⟨ex, m2, sl2, mu2, d, sl3, gr.1, sr2.ext gr.2, r, eg, fun σ4 sr4 _ => ?_⟩
    have e3 := e2.trans gr.2
    refine ⟨ex, m2, sl3, mu2, _, gr.1, sr4, w3, fun sl5 σ5 mu5 m5 H5 cf5 e5 sr5 => ⟨fun q5 => ⟨m5, sl5, mu5, cf5, e3.trans e5, sr5, q5⟩, fun q5 => (k _ _ _ _ _ cf5 (e1.trans (e3.trans e5)) sr5).1 q5, fun q5 => ⟨m5, sl5, mu5, cf5, e3.trans e5, sr5, q5⟩⟩, fun s mu5 m5 H5 v cf5 e5 r5 q5 => kr _ _ _ _ _ cf5 (e1.trans (e3.trans e5)) r5 q5⟩
  · have ei : i = ds.length := by omega
    subst ei
    rw [List.drop_length] at w2
    exact .inl ⟨wk.stop ex m2 mu2 H2 cf2 e2.le, (k _ _ _ _ _ cf2 (e1.trans e2) sr2).1 w2⟩
end

/-! ### comprehensions -/
def wipeD (sl : Sl) : List Nat → Sl
  | [] => sl
  | v :: vs => (wipeD sl vs).set v none
theorem wipeD_length (sl : Sl) : ∀ vs : List Nat, (wipeD sl vs).length = sl.length
  | [] => rfl
  | v :: vs => by
    unfold wipeD
    rw [List.length_set, wipeD_length sl vs]
theorem wipeD_some {sl : Sl} {i : Nat} {x : S} : ∀ {vs : List Nat}, (wipeD sl vs)[i]? = some (some x) → sl[i]? = some (some x) ∧ i ∉ vs
  | [], h => ⟨h, by simp⟩
  | v :: vs, h => by
    unfold wipeD at h
    by_cases hi : v = i
    · subst hi
      by_cases hv : v < (wipeD sl vs).length
      · rw [List.getElem?_set_self hv] at h
        cases h
      · rw [List.getElem?_eq_none (by simpa using hv)] at h
        cases h
    · rw [List.getElem?_set_ne hi] at h
      obtain ⟨h1, h2⟩ := wipeD_some h
      exact ⟨h1, by simp only [List.mem_cons, not_or]; exact ⟨fun e => hi e.symm, h2⟩⟩
theorem wipe_out {σ : L2.St} {i : Nat} : ∀ {vs : List Nat}, i ∉ vs → (wipe σ vs)[i]? = σ[i]?
  | [], _ => rfl
  | v :: vs, h => by
    unfold wipe
    simp only [List.mem_cons, not_or] at h
    rw [List.getElem?_set_ne (fun z => h.1 z.symm), wipe_out h.2]
theorem wipe_in {σ : L2.St} {i : Nat} (hi : i < σ.length) : ∀ {vs : List Nat}, i ∈ vs → (wipe σ vs)[i]? = some none
  | [], h => by simp at h
  | v :: vs, h => by
    unfold wipe
    by_cases e : v = i
    · subst e
      rw [List.getElem?_set_self (by rw [wipe_length]; exact hi)]
    · rw [List.getElem?_set_ne e]
      rcases List.mem_cons.mp h with z | z
      · exact absurd z.symm e
      · exact wipe_in hi z
theorem wipe_eq {σ τ : L2.St} {vs : List Nat} (hl : τ.length = σ.length) (h : ∀ i, i ∉ vs → τ[i]? = σ[i]?) : wipe τ vs = wipe σ vs := by
  refine List.ext_getElem? fun i => ?_
  by_cases hi : i ∈ vs
  · by_cases hs : i < σ.length
    · rw [wipe_in (by omega) hi, wipe_in hs hi]
    · rw [List.getElem?_eq_none (by rw [wipe_length]; omega), List.getElem?_eq_none (by rw [wipe_length]; omega)]
  · rw [wipe_out hi, wipe_out hi, h i hi]
theorem SlR.wipe {K : Frag} {m : List Addr} {H : Hp} {sl : Sl} {σ : L2.St} (h : SlR K m H sl σ) (vs : List Nat) : SlR K m H (wipeD sl vs) (L2.wipe σ vs) := by
  refine ⟨by rw [wipe_length, wipeD_length]; exact h.1, fun i s e => ?_⟩
  obtain ⟨e1, e2⟩ := wipeD_some e
  obtain ⟨v, h1, h2⟩ := h.2 i s e1
  exact ⟨v, by rw [wipe_out e2]; exact h1, h2⟩

/-- one more thing hidden: the list that grows -/
theorem vw_hide {ex m : List Addr} {mu : Mu} {H : Hp} {p : Addr} {o : HO} (hn : H p = none) : vw (p :: ex) m mu (upd H p o) = vw ex m mu H := by
  funext q
  unfold vw
  by_cases hq : q = p
  · subst hq
    rw [if_pos (.inl (List.mem_cons_self ..)), hn]
    split <;> rfl
  · rw [upd_ne hq]
    have e : (q ∈ p :: ex ∨ Lv m mu q) ↔ (q ∈ ex ∨ Lv m mu q) := by
      rw [List.mem_cons]
      constructor
      · rintro ((z | z) | z)
        · exact absurd z hq
        · exact .inl z
        · exact .inr z
      · rintro (z | z)
        · exact .inl (.inr z)
        · exact .inr z
    by_cases c : q ∈ ex ∨ Lv m mu q
    · rw [if_pos c, if_pos (e.mpr c)]
    · rw [if_neg c, if_neg fun z => c (e.mp z)]
theorem Cfg.hide {K : Frag} {ex m : List Addr} {mu : Mu} {H : Hp} (cf : Cfg K ex m mu H) {p : Addr} {o : HO} (hn : H p = none) : Cfg K (p :: ex) m mu (upd H p o) := by
  have np : ∀ a, (∃ o, H a = some o) → a ≠ p := fun a ⟨o, e⟩ z => by
    rw [z, hn] at e
    cases e
  refine ⟨cf.len, cf.nd, fun a ha => ?_, fun a ha => ?_, fun a ha => ?_, fun k mo e => ?_⟩
  · rw [upd_ne (np a (cf.tr a ha))]
    exact cf.tr a ha
  · rcases List.mem_cons.mp ha with z | z
    · rw [z]
      exact ⟨o, upd_same⟩
    · rw [upd_ne (np a (cf.exH a z))]
      exact cf.exH a z
  · rcases List.mem_cons.mp ha with z | z
    · rw [z]
      exact fun q => np p (cf.tr p q) rfl
    · exact cf.exd a z
  · obtain ⟨a, u, h1, h2, h3⟩ := cf.st k mo e
    refine ⟨a, u, h1, by rw [upd_ne (np a ⟨u, h2⟩)]; exact h2, ?_⟩
    rw [vw_hide hn]
    exact h3
/-- the hidden thing shown again -/
theorem vw_show {p : Addr} {ex m : List Addr} {mu : Mu} {H : Hp} : Same (vw (p :: ex) m mu H) (vw ex m mu H) := fun b o h => by
  obtain ⟨h1, h2, h3⟩ := vw_some.mp h
  exact vw_some.mpr ⟨fun z => h1 (List.mem_cons_of_mem _ z), h2, h3⟩
theorem RM.same {K : Frag} {m : List Addr} {H H' : Hp} (e : Same H H') {mo : MO} {o : HO} (h : RM K m H mo o) : RM K m H' mo o := by
  have := RM.mono (l := []) e h
  rwa [List.append_nil] at this
theorem RS.same {K : Frag} {m : List Addr} {H H' : Hp} (e : Same H H') {s : S} {v : V} (h : RS K m H s v) : RS K m H' s v := by
  have := RS.mono (l := []) e h
  rwa [List.append_nil] at this
theorem SlR.same {K : Frag} {m : List Addr} {H H' : Hp} (e : Same H H') {sl : Sl} {σ : L2.St} (h : SlR K m H sl σ) : SlR K m H' sl σ := ⟨h.1, fun i s q => let ⟨v, h1, h2⟩ := h.2 i s q; ⟨v, h1, h2.same e⟩⟩
theorem Cfg.show {K : Frag} {p : Addr} {ex m : List Addr} {mu : Mu} {H : Hp} (cf : Cfg K (p :: ex) m mu H) : Cfg K ex m mu H := by
  refine ⟨cf.len, cf.nd, cf.tr, fun a ha => cf.exH a (List.mem_cons_of_mem _ ha), fun a ha => cf.exd a (List.mem_cons_of_mem _ ha), fun k mo e => ?_⟩
  obtain ⟨a, u, h1, h2, h3⟩ := cf.st k mo e
  exact ⟨a, u, h1, h2, h3.same vw_show⟩
/-- what is hidden is written -/
theorem vw_put {p : Addr} {ex m : List Addr} {mu : Mu} {H : Hp} {o : HO} (hp : p ∈ ex) : vw ex m mu (upd H p o) = vw ex m mu H := by
  funext q
  unfold vw
  by_cases hq : q = p
  · subst hq
    rw [if_pos (.inl hp), if_pos (.inl hp)]
  · rw [upd_ne hq]
theorem Cfg.put {K : Frag} {ex m : List Addr} {mu : Mu} {H : Hp} (cf : Cfg K ex m mu H) {p : Addr} {o : HO} (hp : p ∈ ex) : Cfg K ex m mu (upd H p o) := by
  have np : ∀ a ∈ m, a ≠ p := fun a ha z => cf.exd p hp (z ▸ ha)
  refine ⟨cf.len, cf.nd, fun a ha => ?_, fun a ha => ?_, cf.exd, fun k mo e => ?_⟩
  · rw [upd_ne (np a ha)]
    exact cf.tr a ha
  · by_cases z : a = p
    · rw [z]
      exact ⟨o, upd_same⟩
    · rw [upd_ne z]
      exact cf.exH a ha
  · obtain ⟨a, u, h1, h2, h3⟩ := cf.st k mo e
    refine ⟨a, u, h1, by rw [upd_ne (np a (List.mem_of_getElem? h1))]; exact h2, ?_⟩
    rw [vw_put hp]
    exact h3

def wCompD (g : WG) (tt : WT) (te : WE) (sl0 : Sl) (Q : S → Mu → Prop) : List D → List D → Mu → Prop
  | [], acc, mu => Q (.d (.lst acc)) mu
  | d :: ds, acc, mu => On (g d sl0) fun sl1 => tt sl1 mu fun b mu1 => if b = true then te sl1 mu1 fun s mu2 => match s with
      | .d y => acc.length < sizeLine ∧ wCompD g tt te sl0 Q ds (acc ++ [y]) mu2
      | .h _ => False
    else wCompD g tt te sl0 Q ds acc mu1
def wComp (fi : WI) (g : WG) (tt : WT) (te : WE) (vs : List Nat) : WE := fun sl mu Q => fi sl mu fun ds mu1 => wCompD g tt te (wipeD sl vs) Q ds [] mu1
theorem comp_red {K : Frag} {fi : WI} {g : WG} {tt : WT} {te : WE} {vs : List Nat} {σ : L2.St} {H : Hp} {Q : VK} (q : tE K (wComp fi g tt te vs) σ H Q) : tLc (tI K fi) (tG K vs g) (tT K tt) (tE K te) vs σ H Q := by
  obtain ⟨ex, m, sl, mu, Qd, cf, sr, w, k⟩ := q
  refine ⟨ex, m, sl, mu, _, cf, sr, w, fun ds mu1 m1 H1 J cf1 e1 wk q1 => ?_⟩
  intro L hL
  have nL : L ∉ ex := fun z => by
    obtain ⟨o, e⟩ := cf1.exH L z
    rw [hL] at e
    cases e
  -- what holds at turn i
  let P : Nat → Hp → Prop := fun i H2 => ∃ m2 mu2 acc vacc, Cfg K (L :: ex) m2 mu2 H2 ∧ Le ex m1 mu1 H1 (L :: ex) m2 mu2 H2 ∧ (∀ a ∈ ex, H2 a = H1 a) ∧ H2 L = some (.lst vacc) ∧ Rs K (vw (L :: ex) m2 mu2 H2) acc vacc ∧ wCompD g tt te (wipeD sl vs) Qd (ds.drop i) acc mu2
  refine ⟨fun i j H2 => j = ds.length - i ∧ i ≤ ds.length ∧ P i H2, ⟨ds.length, by simp, Nat.zero_le _, m1, mu1, [], [], cf1.hide hL, ⟨⟨[], by simp⟩, ?_⟩, fun a ha => ?_, upd_same, Rs.nil, by simpa using q1⟩, ?_⟩
  · rw [vw_hide hL]
    exact Same.refl _
  · have na : a ≠ L := fun z => nL (z ▸ ha)
    rw [upd_ne na]
  rintro i j H2 ⟨rfl, hi2, m2, mu2, acc, vacc, cf2, e2, ek2, eL, ra, w2⟩
  by_cases hlt : i < ds.length
  · refine .inr ⟨wk.go i _ m2 mu2 H2 hlt cf2 e2, P (i + 1), fun H5 z => ⟨ds.length - (i + 1), by omega, rfl, hlt, z⟩, fun x H3 y => ?_⟩
    obtain ⟨d, ed, gr, r⟩ := wk.yld i _ m2 mu2 H2 x H3 hlt cf2 e2 y
    have edr : ds.drop i = d :: ds.drop (i + 1) := by
      rw [List.drop_eq_getElem_cons hlt]
      rw [List.getElem?_eq_getElem hlt] at ed
      cases ed
      rfl
    rw [edr] at w2
    obtain ⟨sl3, eg, w3⟩ := On.elim w2
    have sr3 : SlR K m2 (vw (L :: ex) m2 mu2 H3) sl σ := (sr.ext e1).le (e2.trans gr.2.le)
    refine ⟨L :: ex, m2, wipeD sl vs, mu2, d, sl3, gr.1, sr3.wipe vs, r, eg, fun σ4 sr4 ag => ⟨?_, ?_⟩⟩
    · refine (wipe_eq (σ := L2.wipe σ vs) ag.1 ag.2).trans ?_
      exact wipe_eq (by rw [wipe_length]) fun i hi => wipe_out hi
    refine ⟨L :: ex, m2, sl3, mu2, _, gr.1, sr4, w3, fun b mu5 m5 H5 cf5 e5 q5 => ?_⟩
    have ek5 : ∀ a ∈ ex, H5 a = H1 a := fun a ha => by
      rw [e5.exk a (List.mem_cons_of_mem _ ha), gr.2.exk a (List.mem_cons_of_mem _ ha), ek2 a ha]
    have eL5 : H5 L = some (.lst vacc) := by rw [e5.exk L (List.mem_cons_self ..), gr.2.exk L (List.mem_cons_self ..), eL]
    have le5 := (e2.trans gr.2.le).trans e5.le
    cases b with
    | false =>
      rw [if_neg Bool.false_ne_true] at q5
      show P (i + 1) H5
      exact ⟨m5, mu5, acc, vacc, cf5, le5, ek5, eL5, Rs.mono (gr.2.same.trans e5.same) _ _ ra, q5⟩
    | true =>
      rw [if_pos rfl] at q5
      refine iteT ?_
      refine ⟨L :: ex, m5, sl3, mu5, _, cf5, sr4.ext e5, q5, fun s mu6 m6 H6 v6 cf6 e6 r6 q6 => ?_⟩
      cases s with
      | h _ => exact q6.elim
      | d y6 =>
        obtain ⟨hz, q6⟩ := q6
        have ra6 := Rs.mono ((gr.2.same.trans e5.same).trans e6.same) _ _ ra
        refine ⟨vacc, by rw [e6.exk L (List.mem_cons_self ..), eL5], by rw [← ra6.length]; exact hz, m6, mu6, acc ++ [y6], vacc ++ [v6], cf6.put (List.mem_cons_self ..), ⟨(le5.trans e6.le).pre, ?_⟩, fun a ha => ?_, upd_same, ?_, q6⟩
        · rw [vw_put (List.mem_cons_self ..)]
          exact (le5.trans e6.le).same
        · have na : a ≠ L := fun z => nL (z ▸ ha)
          rw [upd_ne na, e6.exk a (List.mem_cons_of_mem _ ha), ek5 a ha]
        · rw [vw_put (List.mem_cons_self ..)]
          exact ra6.append (Rs.cons r6 Rs.nil)
  · have ei : i = ds.length := by omega
    subst ei
    rw [List.drop_length] at w2
    have e2' : Ext ex m1 mu1 H1 m2 mu2 H2 := ⟨e2.pre, e2.same.trans vw_show, ek2⟩
    refine .inl ⟨wk.stop _ m2 mu2 H2 cf2 e2, k (.d (.lst acc)) mu2 m2 H2 (.ref L) cf2.show (e1.trans e2') ?_ w2⟩
    simp only [RS, R]
    refine ⟨L, vacc, rfl, vw_some.mpr ⟨nL, fun z => ?_, eL⟩, Rs.mono vw_show _ _ ra⟩
    obtain ⟨k, mo, h1, h2⟩ := z
    exact cf2.exd L (List.mem_cons_self ..) (List.mem_of_getElem? h1)
section
variable {X : Cx} {pos : Pos} {elt tg iter : Expr} {ifs : List Expr} {scope : Scope} {own : List (Str × Nat)} {fi : WI} {g : WG} {tt : WT} {te : WE}
def RTs (X : Cx) (ifs : List Expr) (f : WT) : Prop := PTs X ifs (tT X.K f)
def wYes : WT := fun _ mu Q => Q true mu
theorem rts_nil : RTs X [] wYes := ⟨fun pins s σ H Q I q => by
  obtain ⟨ex, m, sl, mu, Qd, cf, sr, w, k⟩ := q
  exact pts_nil.run pins s σ H Q I (k _ _ _ _ cf Ext.refl w)⟩
theorem rts_one {c : Expr} {t : WT} (h : RT X c t) : RTs X [c] t := pts_one h
theorem re_comp (hc : X.calm = true) (hN : X.N.Nodup) (hi : RI X tg iter fi) (ok : BlkOk X.N X.env.scope scope own)
    (hg : ∀ (s : Shared) (H : Hp) (C : Addr) (cl : List (Str × Addr)) (fp : List Addr), RG (X.blk s H scope (compEnvC scope cl C X.env) fp) tg (own.map (·.2)) g)
    (ht : ∀ (s : Shared) (H : Hp) (C : Addr) (cl : List (Str × Addr)) (fp : List Addr), RTs (X.blk s H scope (compEnvC scope cl C X.env) fp) ifs tt)
    (he : ∀ (s : Shared) (H : Hp) (C : Addr) (cl : List (Str × Addr)) (fp : List Addr), RE (X.blk s H scope (compEnvC scope cl C X.env) fp) elt te)
    (hs : ∀ x, foldedSetIterable iter X.env x = pure x := by intro _; rfl) : RE X (.ListComp elt [⟨tg, iter, ifs, 0⟩] scope pos) (wComp fi g tt te (own.map (·.2))) :=
  pe_imp (pe_lc (g := tG X.K (own.map fun (p : Str × Nat) => p.2) g) (tt := tT X.K tt) (te := tE X.K te) hc hN hi ok hg ht he hs) fun _ _ _ q => comp_red q
theorem rs_setC {i : Nat} {y : Str} {py spos : Pos} (hc : X.calm = true) (hN : X.N.Nodup) (hy : X.N[i]? = some y) (hyl : X.env.scope.names.lookup y = some .local)
    (hsw : swapsWith (.ListComp elt [⟨tg, iter, ifs, 0⟩] scope pos) (some (.Name y py)) spos.line X.env = pure true) (hi : RI X tg iter fi) (ok : BlkOk X.N X.env.scope scope own)
    (hg : ∀ (s : Shared) (H : Hp) (C : Addr) (cl : List (Str × Addr)) (fp : List Addr), RG (X.blk s H scope (compEnvC scope cl C X.env) fp) tg (own.map (·.2)) g)
    (ht : ∀ (s : Shared) (H : Hp) (C : Addr) (cl : List (Str × Addr)) (fp : List Addr), RTs (X.blk s H scope (compEnvC scope cl C X.env) fp) ifs tt)
    (he : ∀ (s : Shared) (H : Hp) (C : Addr) (cl : List (Str × Addr)) (fp : List Addr), RE (X.blk s H scope (compEnvC scope cl C X.env) fp) elt te)
    (hs : ∀ x, foldedSetIterable iter X.env x = pure x := by intro _; rfl) : RSt X (.Assign [.Name y py] (.ListComp elt [⟨tg, iter, ifs, 0⟩] scope pos) spos) (wSet i (wComp fi g tt te (own.map (·.2)))) :=
  ps_imp (ps_setLc (g := tG X.K (own.map fun (p : Str × Nat) => p.2) g) (tt := tT X.K tt) (te := tE X.K te) hc hN hy hyl hsw hi ok hg ht he hs) fun _ _ _ q => set_red (fun _ z => comp_red z) q
end
end DL
set_option Elab.async false
set_option linter.all false
set_option maxRecDepth 100000
set_option maxHeartbeats 1000000
namespace DL
open PySem PySem.Spec L2

/-! ### defs: what they come to, in data -/
abbrev WF := List S → Mu → (S → Mu → Prop) → Prop
/-- the promise, from the reading over data -/
def spD (K : Frag) (W : WF) : List V → Hp → VK → Prop := fun vs H Q => ∃ ex m mu ss Qd, Cfg K ex m mu H ∧ RSs K m (vw ex m mu H) ss vs ∧ W ss mu Qd ∧
  ∀ s mu' m' H' v, Cfg K ex m' mu' H' → Ext ex m mu H m' mu' H' → RS K m' (vw ex m' mu' H') s v → Qd s mu' → Q v H'
/-- a def that keeps W: where nothing is guarded; no exception leaves it -/
structure FnG (P : Program) (w : World) (K : Frag) (mg : Str → Option Value) (base : Heap) (k : Nat) (f : Addr) (fd : FuncData) (ps : List Str) (W : WF) : Prop where
  len : ∀ ss mu Q, W ss mu Q → ss.length = ps.length
  run : ∀ (A : Around) (outer : List Env) (s : Shared) (H : Hp) (args : Args) (us : List Value) (vs : List V) (Q : VK),
    Room k A → A.guards = some [] → Env0 P w K mg base A outer s H → BindsTo s fd args (ps.zip us) → Vals vs us → spD K W vs H Q →
    codeAny (model P w) A (.call (.ref f) args) (CR CX0 outer P w H s Q E0) s
theorem FnG.imp {P : Program} {w : World} {K : Frag} {mg : Str → Option Value} {base : Heap} {k : Nat} {f : Addr} {fd : FuncData} {ps : List Str} {W W' : WF} (F : FnG P w K mg base k f fd ps W)
    (h : ∀ ss mu Q, W' ss mu Q → W ss mu Q) : FnG P w K mg base k f fd ps W' :=
  ⟨fun ss mu Q q => F.len ss mu Q (h _ _ _ q), fun A outer s H args us vs Q hr hg he hb hv hs => F.run A outer s H args us vs Q hr hg he hb hv (by
    obtain ⟨ex, m, mu, ss, Qd, cf, rs, w, k⟩ := hs
    exact ⟨ex, m, mu, ss, Qd, cf, rs, h _ _ _ w, k⟩)⟩
/-- a def by its name -/
structure FnD (P : Program) (w : World) (K : Frag) (mg : Str → Option Value) (base : Heap) (k : Nat) (x : Str) (W : WF) : Prop where
  ex : ∃ f fd ps, mg x = some (.ref f) ∧ PySem.W.keepIn K (.ref f) = true ∧ Binds K fd ps [] ∧ FnG P w K mg base k f fd ps W
theorem FnD.imp {P : Program} {w : World} {K : Frag} {mg : Str → Option Value} {base : Heap} {k : Nat} {x : Str} {W W' : WF} (F : FnD P w K mg base k x W)
    (h : ∀ ss mu Q, W' ss mu Q → W ss mu Q) : FnD P w K mg base k x W' := by
  obtain ⟨f, fd, ps, h1, h2, h3, h4⟩ := F.ex
  exact ⟨f, fd, ps, h1, h2, h3, h4.imp h⟩

/-! ### the call -/
section
variable {X : Cx} {k : Nat} {x : Str} {W : WF} {p pos : Pos} {e : Expr} {es : List Expr} {fs : WA}
def wFn (W : WF) (fs : WA) : WE := fun sl mu Q => fs sl mu fun ss mu1 => W ss mu1 Q
theorem run_g {f : Addr} {fd : FuncData} {ps : List Str} (F : FnG X.prog X.w X.K X.mg X.base k f fd ps W) (hr : Room k X.A) (hG : X.A.guards = some []) (hb : Binds X.K fd ps [])
    {pins : List (Addr × Obj)} {σ : L2.St} {H : Hp} {s : Shared} {Q : VK} {us : List Value} {vs : List V} (I : Inv X pins σ H s) (r : Vals vs us) (h : spD X.K W vs H Q) :
    wpAny (model X.prog X.w) X.A (call (.ref f) us) (EP X pins σ Q) X.xe s := by
  have hl : us.length = ps.length := by
    rw [← r.length]
    obtain ⟨ex, m, mu, ss, Qd, cf, rs, w, k⟩ := h
    rw [← Paired.length rs]
    exact F.len _ _ _ w
  have hl' : (us ++ []).length = ps.length := by
    rw [List.append_nil]
    exact hl
  have hb' := hb s us I.kIn hl'
  rw [List.append_nil] at hb'
  refine wpAny_call (codeAny_mono (F.run X.A X.stack s H ⟨us, []⟩ us vs Q hr hG I.env0 hb' r h) fun r s' hq => ?_)
  cases r with
  | error e => exact False.elim hq
  | ok fl =>
    cases fl <;> first
      | exact I.after hq
      | exact False.elim hq
theorem re_call (F : FnD X.prog X.w X.K X.mg X.base k x W) (hr : Room k X.A) (hG : X.A.guards = some []) (hg : Gl X x) (ha : RA X (e :: es) fs)
    (hdb : (x == ("__debug__" : Str)) = false := by decide) (he : starEach (e :: es) X.env = (false, eval e X.env) :: starEach es X.env := by rfl) (hpl : (backTo pos (starEach es X.env)).any (·.1) = false := by rfl) :
    RE X (.Call (.Name x p) (e :: es) [] pos) (wFn W fs) := by
  obtain ⟨f, fd, ps, hm, hk, hb, F⟩ := F.ex
  refine ⟨fun pins s σ H Q I q => ?_⟩
  refine wpAny_Call_Name_kw (ld_glob I hg hm ?_ hdb)
  obtain ⟨ex, m, sl, mu, Qd, cf, sr, w, kk⟩ := q
  refine PySem.W.callWith_K (h₀ := X.base) I.ok.mod.kin hk (thn (ha.run pos pins s σ H (fun vs H1 => spD X.K W vs H1 Q) I ⟨ex, m, sl, mu, _, cf, sr, w, fun ss mu1 m1 H1 vs cf1 e1 rs q1 => ?_⟩) fun us s1 ⟨vs, H1, I1, r, q⟩ => ⟨I1.kIn, ?_⟩) he hpl
  · exact ⟨ex, m1, mu1, ss, Qd, cf1, rs, q1, fun s mu2 m2 H2 v cf2 e2 r2 q2 => kk _ _ _ _ _ cf2 (e1.trans e2) r2 q2⟩
  · exact run_g F hr hG hb I1 r q
end

/-! ### the store cut back -/
def MO.below (n : Nat) : MO → Bool
  | .lst _ => true
  | .lss ss => ss.all fun p => match p with | .d _ => true | .h k => decide (k < n)
  | .dic kvs => kvs.all fun p => match p.2 with | .d _ => true | .h k => decide (k < n)
  | .dit _ _ => true
theorem RM.cut {K : Frag} {m : List Addr} {H : Hp} {mo : MO} {o : HO} {n : Nat} (hb : mo.below n = true) (h : RM K m H mo o) : RM K (m.take n) H mo o := by
  cases mo with
  | lst ds => exact h
  | dit ks ds => exact h
  | lss ss =>
    obtain ⟨ws, h1, h2⟩ := h
    refine ⟨ws, h1, ?_⟩
    clear h1
    induction h2 with
    | nil => exact .nil
    | cons r t ih =>
      rename_i p q l1 l2
      simp only [MO.below, List.all_cons, Bool.and_eq_true] at hb
      refine .cons ?_ (ih hb.2)
      cases p with
      | d x => exact r
      | h k =>
        obtain ⟨a, e1, e2⟩ := r
        have hk : k < n := of_decide_eq_true hb.1
        exact ⟨a, by rw [List.getElem?_take_of_lt hk]; exact e1, e2⟩
  | dic kvs =>
    obtain ⟨ws, h1, h2⟩ := h
    refine ⟨ws, h1, ?_⟩
    clear h1
    unfold RKv at h2 ⊢
    induction h2 with
    | nil => exact .nil
    | cons r t ih =>
      rename_i p q l1 l2
      simp only [MO.below, List.all_cons, Bool.and_eq_true] at hb
      refine .cons ⟨r.1, ?_⟩ (ih hb.2)
      obtain ⟨pk, ps⟩ := p
      cases ps with
      | d x => exact r.2
      | h k =>
        obtain ⟨a, e1, e2⟩ := r.2
        have hk : k < n := of_decide_eq_true hb.1
        exact ⟨a, by rw [List.getElem?_take_of_lt hk]; exact e1, e2⟩
theorem lv_cut {m : List Addr} {mu : Mu} {n : Nat} {a : Addr} (h : Lv (m.take n) (mu.take n) a) : Lv m mu a := by
  obtain ⟨k, mo, h1, h2⟩ := h
  have hk : k < n := by
    have := (List.getElem?_eq_some_iff.mp h1).1
    rw [List.length_take] at this
    omega
  rw [List.getElem?_take_of_lt hk] at h1 h2
  exact ⟨k, mo, h1, h2⟩
theorem vw_cut {ex m : List Addr} {mu : Mu} {H : Hp} {n : Nat} : Same (vw ex m mu H) (vw ex (m.take n) (mu.take n) H) := fun b o h => by
  obtain ⟨h1, h2, h3⟩ := vw_some.mp h
  exact vw_some.mpr ⟨h1, fun z => h2 (lv_cut z), h3⟩
theorem Cfg.cut {K : Frag} {ex m : List Addr} {mu : Mu} {H : Hp} {n : Nat} (cf : Cfg K ex m mu H) (hb : ∀ (k : Nat) (mo : MO), k < n → mu[k]? = some (some mo) → mo.below n = true) : Cfg K ex (m.take n) (mu.take n) H := by
  refine ⟨by rw [List.length_take, List.length_take, cf.len], cf.nd.sublist (List.take_sublist _ _), fun a ha => cf.tr a (List.mem_of_mem_take ha), cf.exH, fun a ha z => cf.exd a ha (List.mem_of_mem_take z), fun k mo e => ?_⟩
  have hk : k < n := by
    have := (List.getElem?_eq_some_iff.mp e).1
    rw [List.length_take] at this
    omega
  rw [List.getElem?_take_of_lt hk] at e
  obtain ⟨a, o, h1, h2, h3⟩ := cf.st k mo e
  exact ⟨a, o, by rw [List.getElem?_take_of_lt hk]; exact h1, h2, (h3.cut (hb k mo hk e)).same vw_cut⟩
/-- a thing that changed is let go: data from now on -/
theorem vw_kill {ex m : List Addr} {mu : Mu} {H : Hp} {k : Nat} : Same (vw ex m mu H) (vw ex m (mu.set k none) H) := fun b o h => by
  obtain ⟨h1, h2, h3⟩ := vw_some.mp h
  refine vw_some.mpr ⟨h1, fun z => h2 ?_, h3⟩
  obtain ⟨j, mo, e1, e2⟩ := z
  refine ⟨j, mo, e1, ?_⟩
  by_cases hj : k = j
  · subst hj
    by_cases hk : k < mu.length
    · rw [List.getElem?_set_self hk] at e2
      cases e2
    · rw [List.getElem?_eq_none (by rw [List.length_set]; omega)] at e2
      cases e2
  · rw [List.getElem?_set_ne hj] at e2
    exact e2
theorem Cfg.kill {K : Frag} {ex m : List Addr} {mu : Mu} {H : Hp} {k : Nat} (cf : Cfg K ex m mu H) : Cfg K ex m (mu.set k none) H := by
  refine ⟨by rw [List.length_set]; exact cf.len, cf.nd, cf.tr, cf.exH, cf.exd, fun j mo e => ?_⟩
  have e' : mu[j]? = some (some mo) := by
    by_cases hj : k = j
    · subst hj
      by_cases hk : k < mu.length
      · rw [List.getElem?_set_self hk] at e
        cases e
      · rw [List.getElem?_eq_none (by rw [List.length_set]; omega)] at e
        cases e
    · rwa [List.getElem?_set_ne hj] at e
  obtain ⟨a, o, h1, h2, h3⟩ := cf.st j mo e'
  exact ⟨a, o, h1, h2, h3.same vw_kill⟩
theorem Ext.kill {ex m : List Addr} {mu : Mu} {H : Hp} {k : Nat} : Ext ex m mu H m (mu.set k none) H := ⟨⟨[], by simp⟩, vw_kill, fun _ _ => rfl⟩

/-- what a thing that changes is, as data -/
def asDs : List (Key × S) → Option (List D)
  | [] => some []
  | (_, .d x) :: r => (asDs r).map (x :: ·)
  | (_, .h _) :: _ => none
def MO.asD : MO → Option D
  | .lst ds => some (.lst ds)
  | .lss _ => none
  | .dit ks ds => some (.dit ks ds)
  | .dic kvs => (asDs kvs).map fun ds => .dic (kvs.map fun p => p.1) ds
theorem kv_asD {K : Frag} {m : List Addr} {H : Hp} : ∀ {kvs : List (Key × S)} {ws : List (Key × V)} {ds : List D}, RKv K m H kvs ws → asDs kvs = some ds →
    ∃ vs, ws = (kvs.map fun p => p.1).zip vs ∧ (kvs.map fun p => p.1).length = vs.length ∧ Rs K H ds vs
  | [], ws, ds, h, e => by
    cases h
    cases e
    exact ⟨[], rfl, rfl, Rs.nil⟩
  | (k, .h j) :: kvs, ws, ds, h, e => by cases e
  | (k, .d x) :: kvs, ws, ds, h, e => by
    cases h with
    | cons r t =>
      rename_i q l2
      obtain ⟨qk, qv⟩ := q
      obtain ⟨ds2, e2, e3⟩ := Option.map_eq_some_iff.mp (show (asDs kvs).map (x :: ·) = some ds from e)
      subst e3
      obtain ⟨vs, h1, h2, h3⟩ := kv_asD t e2
      obtain ⟨rk, rv⟩ := r
      simp only at rk rv
      subst rk
      refine ⟨qv :: vs, ?_, ?_, Rs.cons rv h3⟩
      · rw [h1]
        rfl
      · simp only [List.map_cons, List.length_cons]
        rw [← h2]
theorem RM.asD {K : Frag} {m : List Addr} {H : Hp} {mo : MO} {d : D} {a : Addr} {o : HO} (e : mo.asD = some d) (h : RM K m H mo o) (ha : H a = some o) : R K H d (.ref a) := by
  cases mo with
  | lst ds =>
    cases e
    obtain ⟨vs, rfl, h2⟩ := h
    simp only [R]
    exact ⟨a, vs, rfl, ha, h2⟩
  | lss ss => cases e
  | dit ks ds =>
    cases e
    obtain ⟨vs, rfl, h2, h3⟩ := h
    simp only [R]
    exact ⟨a, vs, rfl, ha, h2, h3⟩
  | dic kvs =>
    obtain ⟨ws, rfl, h2⟩ := h
    obtain ⟨ds, e2, e3⟩ := Option.map_eq_some_iff.mp (show (asDs kvs).map (fun ds => D.dic (kvs.map fun p => p.1) ds) = some d from e)
    subst e3
    obtain ⟨vs, h3, h4, h5⟩ := kv_asD h2 e2
    simp only [R]
    exact ⟨a, vs, rfl, by rw [ha, h3], h4, h5⟩
/-- the thing at k let go, as data -/
theorem let_go {K : Frag} {ex m : List Addr} {mu : Mu} {H : Hp} {k : Nat} {mo : MO} {d : D} {v : V} (cf : Cfg K ex m mu H) (e : mu[k]? = some (some mo)) (ed : mo.asD = some d) (r : RS K m (vw ex m mu H) (.h k) v) : R K (vw ex m (mu.set k none) H) d v := by
  obtain ⟨a, h1, rfl⟩ := r
  obtain ⟨b, o, g1, g2, g3⟩ := cf.st k mo e
  rw [h1] at g1
  cases g1
  refine RM.asD ed (g3.same vw_kill) (vw_some.mpr ⟨fun z => cf.exd a z (List.mem_of_getElem? h1), fun z => ?_, g2⟩)
  obtain ⟨j, mo', e1, e2⟩ := z
  have hj : j = k := by
    obtain ⟨p1, q1⟩ := List.getElem?_eq_some_iff.mp e1
    obtain ⟨p2, q2⟩ := List.getElem?_eq_some_iff.mp h1
    exact (List.getElem_inj cf.nd).mp (q1.trans q2.symm)
  subst hj
  rw [List.getElem?_set_self (List.getElem?_eq_some_iff.mp e).1] at e2
  cases e2
section
variable {X : Cx} {e : Expr} {f : WE}
/-- the last use of a name: what it holds is data from now on -/
def wFrz (f : WE) : WE := fun sl mu Q => f sl mu fun s mu1 => match s with
  | .d x => Q (.d x) mu1
  | .h k => match mu1[k]? with
    | some (some mo) => On mo.asD fun d => Q (.d d) (mu1.set k none)
    | _ => False
theorem re_frz (h : RE X e f) : RE X e (wFrz f) := by
  refine pe_imp h fun σ H Q q => ?_
  obtain ⟨ex, m, sl, mu, Qd, cf, sr, w, k⟩ := q
  refine ⟨ex, m, sl, mu, _, cf, sr, w, fun s mu1 m1 H1 v cf1 e1 r1 q1 => ?_⟩
  cases s with
  | d x => exact k _ _ _ _ _ cf1 e1 r1 q1
  | h j =>
    simp only at q1
    split at q1
    · rename_i mo em
      obtain ⟨d, ed, q1⟩ := On.elim q1
      exact k (.d d) _ _ _ _ cf1.kill (e1.trans Ext.kill) (let_go cf1 em ed r1) q1
    · exact q1.elim
end

/-! ### a def's body -/
/-- the names' slots at the entry -/
def startD (n : Nat) (ss : List S) : Sl := ss.map some ++ List.replicate (n - ss.length) none
/-- what was there stays as it is, or leans on no more than is there -/
def cutOk (n : Nat) (mu mu' : Mu) : Prop := ∀ (k : Nat) (mo : MO), k < n → mu'[k]? = some (some mo) → mu[k]? = some (some mo) ∨ mo.below n = true
/-- a def whose answer is data (things that it made are let go) -/
def retD (mu : Mu) (Q : S → Mu → Prop) : S → Mu → Prop := fun s mu' => mu.length ≤ mu'.length ∧ cutOk mu.length mu mu' ∧ match s with
  | .d x => Q (.d x) (mu'.take mu.length)
  | .h k => if k < mu.length then Q (.h k) (mu'.take mu.length) else match mu'[k]? with
    | some (some mo) => On mo.asD fun d => Q (.d d) (mu'.take mu.length)
    | _ => False
def wDef (np n : Nat) (g : WS) : WF := fun ss mu Q => ss.length = np ∧ g { nx := fun _ mu' => retD mu Q (.d .non) mu', rt := retD mu Q } (startD n ss) mu
/-- a def whose answer may be a thing that it made -/
def wDefM (np n : Nat) (g : WS) : WF := fun ss mu Q => ss.length = np ∧ g { nx := fun _ mu' => Q (.d .non) mu', rt := Q } (startD n ss) mu
theorem start_rel {K : Frag} {m : List Addr} {H : Hp} {ss : List S} {vs : List V} (r : RSs K m H ss vs) (N : List Str) : SlR K m H (startD N.length ss) (L2.start N vs) := by
  have hl := Paired.length r
  refine ⟨by unfold L2.start startD; simp [hl], fun i s e => ?_⟩
  unfold startD at e
  by_cases hi : i < ss.length
  · rw [List.getElem?_append_left (by simpa using hi), List.getElem?_map] at e
    have key : ∀ {ss : List S} {vs : List V} {i : Nat} {s : S}, RSs K m H ss vs → ss[i]? = some s → ∃ v, vs[i]? = some v ∧ RS K m H s v := by
      intro ss vs i s r
      unfold RSs at r
      induction r generalizing i with
      | nil => intro e; simp at e
      | cons h t ih =>
        intro e
        cases i with
        | zero =>
          simp at e
          subst e
          exact ⟨_, rfl, h⟩
        | succ i =>
          obtain ⟨v, e1, e2⟩ := ih (by simpa using e)
          exact ⟨v, by simpa using e1, e2⟩
    cases e3 : ss[i]? with
    | none =>
      rw [e3] at e
      simp at e
    | some s' =>
      rw [e3] at e
      simp at e
      subst e
      obtain ⟨v, e1, e2⟩ := key r e3
      refine ⟨v, ?_, e2⟩
      unfold L2.start
      rw [List.getElem?_append_left (by simp; omega), List.getElem?_map, e1]
      rfl
  · rw [List.getElem?_append_right (by simpa using hi), List.getElem?_replicate] at e
    split at e <;> cases e
theorem ret_red {K : Frag} {ex m : List Addr} {mu : Mu} {H : Hp} {Qd : S → Mu → Prop} {Q : VK} (cf : Cfg K ex m mu H)
    (k : ∀ s mu' m' H' v, Cfg K ex m' mu' H' → Ext ex m mu H m' mu' H' → RS K m' (vw ex m' mu' H') s v → Qd s mu' → Q v H')
    {s : S} {mu' : Mu} {m' : List Addr} {H' : Hp} {v : V} (cf' : Cfg K ex m' mu' H') (e' : Ext ex m mu H m' mu' H') (r : RS K m' (vw ex m' mu' H') s v) (q : retD mu Qd s mu') : Q v H' := by
  obtain ⟨hn, hc, q⟩ := q
  obtain ⟨l, em⟩ := e'.pre
  have hm : m'.take mu.length = m := by rw [em, ← cf.len, List.take_left]
  have hb : ∀ (j : Nat) (mo : MO), j < mu.length → mu'[j]? = some (some mo) → mo.below mu.length = true := by
    intro j mo hj e
    rcases hc j mo hj e with e2 | z
    · obtain ⟨a, o, g1, g2, g3⟩ := cf.st j mo e2
      cases mo with
      | lst _ => rfl
      | dit _ _ => rfl
      | lss ss =>
        obtain ⟨ws, g4, g5⟩ := g3
        clear g4 e e2
        induction g5 with
        | nil => rfl
        | cons r t ih =>
          rename_i p q l1 l2
          simp only [MO.below, List.all_cons, Bool.and_eq_true]
          refine ⟨?_, ih⟩
          cases p with
          | d _ => rfl
          | h i =>
            obtain ⟨b, f1, f2⟩ := r
            have := (List.getElem?_eq_some_iff.mp f1).1
            rw [cf.len] at this
            exact decide_eq_true this
      | dic kvs =>
        obtain ⟨ws, g4, g5⟩ := g3
        clear g4 e e2
        unfold RKv at g5
        induction g5 with
        | nil => rfl
        | cons r t ih =>
          rename_i p q l1 l2
          simp only [MO.below, List.all_cons, Bool.and_eq_true]
          refine ⟨?_, ih⟩
          obtain ⟨pk, ps⟩ := p
          cases ps with
          | d _ => rfl
          | h i =>
            obtain ⟨b, f1, f2⟩ := r.2
            have := (List.getElem?_eq_some_iff.mp f1).1
            rw [cf.len] at this
            exact decide_eq_true this
    · exact z
  have cfc := cf'.cut hb
  rw [hm] at cfc
  have ec : Ext ex m mu H m (mu'.take mu.length) H' := ⟨⟨[], by simp⟩, by
    have z := e'.same.trans (vw_cut (n := mu.length))
    rw [hm] at z
    exact z, e'.exk⟩
  cases s with
  | d x =>
    refine k (.d x) _ _ _ _ cfc ec ?_ q
    have z := R.mono (vw_cut (n := mu.length)) x v r
    rw [hm] at z
    exact z
  | h j =>
    simp only at q
    split at q
    · rename_i hj
      obtain ⟨a, h1, h2⟩ := r
      refine k (.h j) _ _ _ _ cfc ec ⟨a, ?_, h2⟩ q
      rw [← hm, List.getElem?_take_of_lt hj]
      exact h1
    · rename_i hj
      split at q
      · rename_i mo emo
        obtain ⟨d, ed, q⟩ := On.elim q
        have z := let_go cf' emo ed r
        have z2 := R.mono (vw_cut (n := mu.length)) d v z
        rw [hm, List.take_set_of_le (by omega)] at z2
        exact k (.d d) _ _ _ _ cfc ec z2 q
      · exact q.elim

section
variable {P : Program} {w : World} {K : Frag} {mg : Str → Option Value} {base : Heap}
/-- the context of a def's body -/
abbrev cxB (P : Program) (w : World) (K : Frag) (mg : Str → Option Value) (base : Heap) (N : List Str) (qual : Str) (sc : Scope) (f : Addr) (cdv : Value) (A : Around) (outer : List Env) (s : Shared) (H : Hp) : Cx :=
  (cxOf CX0 P w K mg base N qual sc f cdv A outer s H E0).nox
theorem guards_deeper {A : Around} {env : Env} (h : A.guards = some []) : (A.deeper env).guards = some [] := h
theorem fn_gen {x qual : Str} {st : Stmt} {f : Addr} {fd : FuncData} {N ps : List Str} {k : Nat} {W : WF} (F : Fun K x qual st f fd) (Sc : FnScope N ps (defScope st)) (len : ∀ ss mu Q, W ss mu Q → ss.length = ps.length)
    (hbody : ∀ (cdv : Value) (A : Around) (outer : List Env) (s : Shared) (H : Hp) (vs : List V) (Q : VK), Room k (A.deeper (PyProof.Rows.envOfC qual (defScope st) s.heap.objs.size f cdv)) → (A.deeper (PyProof.Rows.envOfC qual (defScope st) s.heap.objs.size f cdv)).guards = some [] → spD K W vs H Q →
      ∃ t, PSs (cxB P w K mg base N qual (defScope st) f cdv A outer s H) (defBody st) t ∧ t { nx := fun _ H' => Q .non H', rt := Q } (L2.start N vs) H) : FnG P w K mg base (k + 1) f fd ps W := by
  obtain ⟨oc, od, kV, doc, pm, an, cdv, ct, osl, efd, lk, hcd⟩ := F.ex
  subst efd
  refine ⟨len, fun A outer s H args us vs Q room hG e0 bnd rv hs => ?_⟩
  have nvs : vs.length = ps.length := by
    obtain ⟨ex, m, mu, ss, Qd, cf, rs, w', _⟩ := id hs
    exact (Paired.length rs).symm.trans (len _ _ _ w')
  have hb : ∀ b o, base.get? b = some o → s.heap.get? b = some o := fun b o q => (e0.bs b o q).1
  have kIn : K.In s.heap := e0.mod.kin.keeps hb
  have nolim : s.heap.NoLimit := e0.mod.nolimit.keeps hb
  have kinds : ∀ y ∈ ps.zip us, (defScope st).names.lookup y.1 = some .local ∨ ((defScope st).names.lookup y.1 = some .cell ∧ ((cellsFrom (s.heap.objs.size + 1) (defScope st).names []).lookup y.1).isSome = true) := by
    intro y hy
    rcases Sc.par y.1 (List.of_mem_zip (show (y.1, y.2) ∈ ps.zip us from hy)).1 with z | z
    · exact .inl z
    · exact .inr ⟨z, PySem.W.cellsFrom_some _ _ _ (.inl z)⟩
  apply codeAny_call_function room.depth (kIn _ _ lk) rfl Sc.co Sc.gen rfl (PySem.W.codeRec_of kIn hcd)
  apply bnd
  apply wpAny_newFunctionEnv_cells Sc.kind kinds
  intro env henv s1 inC
  subst henv
  refine ⟨nolim.keeps inC.toInCall.keep, ?_⟩
  apply codeAny_func
  obtain ⟨t, ht, hq⟩ := hbody cdv A outer s H vs Q (room.deeper _) (guards_deeper hG) hs
  have I1 : Inv (cxOf CX0 P w K mg base N qual (defScope st) f cdv A outer s H E0) [] (L2.start N vs) H s1 := inv_start Sc room.hd e0 nvs rv inC
  have body := ht.nox.run [] s1 (L2.start N vs) H { nx := fun _ H' => Q .non H', rt := Q } I1 hq
  refine wpAny_mono body (fun fl s2 z => ?_) (fun e s2 z => z)
  cases fl with
  | ret u =>
    obtain ⟨v, σ2, H2, J, r2, q2⟩ := z
    exact ⟨v, H2, J.os, J.bare, J.base, J.hok, r2, q2⟩
  | next =>
    obtain ⟨σ2, H2, J, q2⟩ := z
    exact ⟨.non, H2, J.os, J.bare, J.base, J.hok, rfl, q2⟩
  | brk =>
    obtain ⟨_, _, _, q2⟩ := z
    exact q2.elim
  | cont =>
    obtain ⟨_, _, _, q2⟩ := z
    exact q2.elim
/-- THE RULE for a def, over data -/
theorem fn_def {x qual : Str} {st : Stmt} {f : Addr} {fd : FuncData} {N ps : List Str} {k : Nat} {g : WS} (F : Fun K x qual st f fd) (Sc : FnScope N ps (defScope st))
    (hbody : ∀ (cdv : Value) (A : Around) (outer : List Env) (s : Shared) (H : Hp), Room k (A.deeper (PyProof.Rows.envOfC qual (defScope st) s.heap.objs.size f cdv)) → (A.deeper (PyProof.Rows.envOfC qual (defScope st) s.heap.objs.size f cdv)).guards = some [] →
      RSts (cxB P w K mg base N qual (defScope st) f cdv A outer s H) (defBody st) g) : FnG P w K mg base (k + 1) f fd ps (wDef ps.length N.length g) := by
  refine fn_gen F Sc (fun _ _ _ q => q.1) fun cdv A outer s H vs Q hr hG hs => ⟨_, hbody cdv A outer s H hr hG, ?_⟩
  obtain ⟨ex, m, mu, ss, Qd, cf, rs, w', kk⟩ := hs
  exact ⟨ex, m, startD N.length ss, mu, _, cf, start_rel rs N, w'.2, fun sl' σ' mu' m' H' cf' e' sr' => ⟨fun q => ret_red (s := .d .non) cf kk cf' e' (by simp only [RS, R]) q, fun q => q.elim, fun q => q.elim⟩, fun s mu' m' H' v cf' e' r' q => ret_red cf kk cf' e' r' q⟩
theorem fn_defM {x qual : Str} {st : Stmt} {f : Addr} {fd : FuncData} {N ps : List Str} {k : Nat} {g : WS} (F : Fun K x qual st f fd) (Sc : FnScope N ps (defScope st))
    (hbody : ∀ (cdv : Value) (A : Around) (outer : List Env) (s : Shared) (H : Hp), Room k (A.deeper (PyProof.Rows.envOfC qual (defScope st) s.heap.objs.size f cdv)) → (A.deeper (PyProof.Rows.envOfC qual (defScope st) s.heap.objs.size f cdv)).guards = some [] →
      RSts (cxB P w K mg base N qual (defScope st) f cdv A outer s H) (defBody st) g) : FnG P w K mg base (k + 1) f fd ps (wDefM ps.length N.length g) := by
  refine fn_gen F Sc (fun _ _ _ q => q.1) fun cdv A outer s H vs Q hr hG hs => ⟨_, hbody cdv A outer s H hr hG, ?_⟩
  obtain ⟨ex, m, mu, ss, Qd, cf, rs, w', kk⟩ := hs
  exact ⟨ex, m, startD N.length ss, mu, _, cf, start_rel rs N, w'.2, fun sl' σ' mu' m' H' cf' e' sr' => ⟨fun q => kk (.d .non) _ _ _ _ cf' e' (by simp only [RS, R]) q, fun q => q.elim, fun q => q.elim⟩, fun s mu' m' H' v cf' e' r' q => kk _ _ _ _ _ cf' e' r' q⟩
end
end DL
set_option Elab.async false
set_option linter.all false
set_option maxRecDepth 100000
set_option maxHeartbeats 1000000
namespace DL
open PySem PySem.Spec L2

/-! ### the heap grows -/
section
variable {K : Frag} {ex m : List Addr} {mu : Mu} {H : Hp} {p : Addr} {o : HO}
theorem vw_new (cf : Cfg K ex m mu H) (hn : H p = none) : vw ex m mu (upd H p o) p = some o := by
  refine vw_some.mpr ⟨fun z => ?_, fun z => ?_, upd_same⟩
  · obtain ⟨u, e⟩ := cf.exH p z
    rw [hn] at e
    cases e
  · obtain ⟨k, mo, h1, h2⟩ := z
    obtain ⟨u, e⟩ := cf.tr p (List.mem_of_getElem? h1)
    rw [hn] at e
    cases e
theorem vw_grow (hn : H p = none) : Same (vw ex m mu H) (vw ex m mu (upd H p o)) := fun b u h => by
  obtain ⟨h1, h2, h3⟩ := vw_some.mp h
  exact vw_some.mpr ⟨h1, h2, by rw [upd_ne (ne_of_none h3 hn)]; exact h3⟩
theorem grown (cf : Cfg K ex m mu H) (hn : H p = none) : Grown K ex m mu H (upd H p o) := by
  have nx : ∀ a, (∃ u, H a = some u) → (upd H p o) a = H a := fun a ⟨u, e⟩ => upd_ne (ne_of_none e hn)
  refine ⟨⟨cf.len, cf.nd, fun a ha => by rw [nx a (cf.tr a ha)]; exact cf.tr a ha, fun a ha => by rw [nx a (cf.exH a ha)]; exact cf.exH a ha, cf.exd, fun k mo e => ?_⟩, ⟨⟨[], by simp⟩, vw_grow hn, fun a ha => nx a (cf.exH a ha)⟩⟩
  obtain ⟨a, u, h1, h2, h3⟩ := cf.st k mo e
  exact ⟨a, u, h1, by rw [nx a ⟨u, h2⟩]; exact h2, h3.same (vw_grow hn)⟩
theorem grown_refl (cf : Cfg K ex m mu H) : Grown K ex m mu H H := ⟨cf, Ext.refl⟩
theorem new_lst {ds : List D} {vs : List V} (cf : Cfg K ex m mu H) (hn : H p = none) (r : Rs K (vw ex m mu H) ds vs) : R K (vw ex m mu (upd H p (.lst vs))) (.lst ds) (.ref p) := by
  simp only [R]
  exact ⟨p, vs, rfl, vw_new cf hn, Rs.mono (vw_grow hn) _ _ r⟩
theorem new_tup {ds : List D} {vs : List V} (cf : Cfg K ex m mu H) (hn : H p = none) (r : Rs K (vw ex m mu H) ds vs) : R K (vw ex m mu (upd H p (.tup vs))) (.tup ds) (.ref p) := by
  simp only [R]
  exact ⟨p, vs, rfl, vw_new cf hn, Rs.mono (vw_grow hn) _ _ r⟩
end

/-! ### what is read -/
/-- the items of a list, whether data or a thing that changes -/
def rdL (s : S) (mu : Mu) : Option (List D) := match s with
  | .d (.lst ds) => some ds
  | .h k => match mu[k]? with
    | some (some (.lst ds)) => some ds
    | _ => none
  | _ => none
/-- of a list or a tuple -/
def rdQ (s : S) (mu : Mu) : Option (List D) := match s with
  | .d (.tup ds) => some ds
  | s => rdL s mu
section
variable {K : Frag} {ex m : List Addr} {mu : Mu} {H : Hp} {s : S} {x : V} {ds : List D}
theorem rdL_ok (cf : Cfg K ex m mu H) (r : RS K m (vw ex m mu H) s x) (e : rdL s mu = some ds) : ∃ a vs, x = .ref a ∧ H a = some (.lst vs) ∧ Rs K (vw ex m mu H) ds vs := by
  unfold rdL at e
  split at e
  · cases e
    simp only [RS, R] at r
    obtain ⟨a, vs, h1, h2, h3⟩ := r
    exact ⟨a, vs, h1, vw_sub _ _ h2, h3⟩
  · rename_i k
    split at e
    · rename_i ds' em
      cases e
      obtain ⟨a, h1, h2⟩ := r
      obtain ⟨b, o, g1, g2, g3⟩ := cf.st k _ em
      rw [h1] at g1
      cases g1
      obtain ⟨vs, rfl, g4⟩ := g3
      exact ⟨a, vs, h2, g2, g4⟩
    · cases e
  · cases e
theorem rdQ_ok (cf : Cfg K ex m mu H) (r : RS K m (vw ex m mu H) s x) (e : rdQ s mu = some ds) : ∃ a vs, x = .ref a ∧ (SqL K H a vs ∨ SqT K H a vs) ∧ Rs K (vw ex m mu H) ds vs := by
  unfold rdQ at e
  split at e
  · cases e
    simp only [RS, R] at r
    obtain ⟨a, vs, h1, h2, h3⟩ := r
    exact ⟨a, vs, h1, .inr (SqT.of (vw_sub _ _ h2)), h3⟩
  · obtain ⟨a, vs, h1, h2, h3⟩ := rdL_ok cf r e
    exact ⟨a, vs, h1, .inl (SqL.of h2), h3⟩
theorem rs_tup' {ds : List D} (r : RS K m (vw ex m mu H) (.d (.tup ds)) x) : ∃ a vs, x = .ref a ∧ H a = some (.tup vs) ∧ Rs K (vw ex m mu H) ds vs := by
  simp only [RS, R] at r
  obtain ⟨a, vs, h1, h2, h3⟩ := r
  exact ⟨a, vs, h1, vw_sub _ _ h2, h3⟩
theorem rs_tup {ds : List D} (r : RS K m (vw ex m mu H) (.d (.tup ds)) x) : ∃ a vs, x = .ref a ∧ SqT K H a vs ∧ Rs K (vw ex m mu H) ds vs := by
  obtain ⟨a, vs, h1, h2, h3⟩ := rs_tup' r
  exact ⟨a, vs, h1, SqT.of h2, h3⟩
theorem rs_lst {ds : List D} (r : RS K m (vw ex m mu H) (.d (.lst ds)) x) : ∃ a vs, x = .ref a ∧ H a = some (.lst vs) ∧ Rs K (vw ex m mu H) ds vs := by
  simp only [RS, R] at r
  obtain ⟨a, vs, h1, h2, h3⟩ := r
  exact ⟨a, vs, h1, vw_sub _ _ h2, h3⟩
end
theorem rs_int {K : Frag} {m : List Addr} {H : Hp} {i : Int} {x : V} (r : RS K m H (.d (.int i)) x) : x = .int i := by simpa only [RS, R] using r
theorem rs_str {K : Frag} {m : List Addr} {H : Hp} {i : Str} {x : V} (r : RS K m H (.d (.str i)) x) : x = .str i := by simpa only [RS, R] using r
theorem rs_bool {K : Frag} {m : List Addr} {H : Hp} {i : Bool} {x : V} (r : RS K m H (.d (.bl i)) x) : x = .bl i := by simpa only [RS, R] using r
theorem rs_non {K : Frag} {m : List Addr} {H : Hp} {x : V} (r : RS K m H (.d .non) x) : x = .non := by simpa only [RS, R] using r
theorem r_int {K : Frag} {H : Hp} (i : Int) : R K H (.int i) (.int i) := by simp only [R]
theorem r_str {K : Frag} {H : Hp} (i : Str) : R K H (.str i) (.str i) := by simp only [R]
theorem r_bl {K : Frag} {H : Hp} (i : Bool) : R K H (.bl i) (.bl i) := by simp only [R]
theorem r_non {K : Frag} {H : Hp} : R K H .non .non := by simp only [R]

/-! ### walkers -/
def iAny (tl : TE) (K : Frag) : TI := fun σ H Rr => tl σ H fun x H1 =>
  (∃ a xs, x = .ref a ∧ SqL K H1 a xs ∧ Rr (Itl K a) H1) ∨ (∃ a xs, x = .ref a ∧ SqT K H1 a xs ∧ Rr (Itt K a) H1) ∨ (∃ z, x = .str z ∧ Rr (Its z) H1)
open PyProof.Rows in
theorem pi_any {X : Cx} {tg l : Expr} {tl : TE} (hl : PE X l tl) : PI X tg l (iAny tl X.K) := by
  refine ⟨fun pins s σ H Rr I h => ?_⟩
  refine thn (hl.run pins s σ H _ I h) fun v s1 ⟨x, H1, I1, r1, q1⟩ => ?_
  rcases q1 with ⟨a, xs, e, hq, q⟩ | ⟨a, xs, e, hq, q⟩ | ⟨z, e, q⟩
  · subst e
    cases r1
    obtain ⟨its, rv, pl, hz⟩ := I1.list hq
    apply wpAny_pyIter_list pl.isList
    exact pi_one (tk := s1.toks) I1 _ (turn_list a _) ⟨_, Heap.get?_push_size _ rfl, rfl, rfl⟩ q
  · subst e
    cases r1
    obtain ⟨its, rv, pl, hz⟩ := I1.tuple hq
    apply wpAny_pyIter_tuple (show s1.heap.IsTuple a its.toArray from pl)
    exact pi_one (tk := s1.toks) I1 _ (turn_tuple a _) ⟨_, Heap.get?_push_size _ rfl, rfl, rfl⟩ q
  · subst e
    obtain ⟨t, rfl⟩ := r1
    cases ha : z.cps.all (· < 128)
    · apply wpAny_pyIter_wide ha
      exact pi_one (tk := s1.toks) I1 _ (turn_str _ z t "str_iterator" (.inr rfl)) ⟨_, Heap.get?_push_size _ rfl, rfl, rfl⟩ q
    · apply wpAny_pyIter_ascii ha
      exact pi_one (tk := s1.toks) I1 _ (turn_str _ z t "str_ascii_iterator" (.inl rfl)) ⟨_, Heap.get?_push_size _ rfl, rfl, rfl⟩ q
/-- what a walk over a value gives -/
def walkOf : D → Option (List D)
  | .lst ds => some ds
  | .tup ds => some ds
  | .str z => some (z.cps.toList.map fun c => .str ⟨#[c]⟩)
  | .scr ns => some (ns.map D.int)
  | _ => none
def wIter (f : WE) : WI := fun sl mu Q => f sl mu fun s mu1 => match s with
  | .d x => On (walkOf x) fun ds => Q ds mu1
  | .h _ => False
section
variable {K : Frag} {ex m : List Addr} {mu : Mu} {H : Hp}
theorem wk_seq {J : It} {n : Nat} {G : Hp → Prop} {vs : List V} {ds : List D} (w : Walk J n G (YAt vs)) (hl : ds.length = n) (hG : ∀ ex2 m2 mu2 H2, Cfg K ex2 m2 mu2 H2 → Le ex m mu H ex2 m2 mu2 H2 → G H2) (r : Rs K (vw ex m mu H) ds vs) : WkD K ex m mu H J ds := by
  refine ⟨fun i ex2 m2 mu2 H2 hi cf le => w.goes i H2 (by omega) (hG _ _ _ _ cf le), fun i ex2 m2 mu2 H2 x H3 hi cf le y => ?_, fun ex2 m2 mu2 H2 cf le => by rw [hl]; exact w.stops H2 (hG _ _ _ _ cf le)⟩
  obtain ⟨e1, e2⟩ := w.yields i H2 x H3 (by omega) (hG _ _ _ _ cf le) y
  subst e1
  obtain ⟨d, h1, h2⟩ := r.getV e2
  exact ⟨d, h1, grown_refl cf, R.mono le.same _ _ h2⟩
theorem le_sqT {a : Addr} {vs : List V} {ex2 m2 : List Addr} {mu2 : Mu} {H2 : Hp} (h : SqT K (vw ex m mu H) a vs) (le : Le ex m mu H ex2 m2 mu2 H2) : SqT K H2 a vs := same_sqT vw_sub (same_sqT le.same h)
theorem le_sqL {a : Addr} {vs : List V} {ex2 m2 : List Addr} {mu2 : Mu} {H2 : Hp} (h : SqL K (vw ex m mu H) a vs) (le : Le ex m mu H ex2 m2 mu2 H2) : SqL K H2 a vs := same_sqL vw_sub (same_sqL le.same h)
theorem rs_ints : ∀ (ns : List Int), Rs K H (ns.map D.int) (ns.map V.int)
  | [] => Rs.nil
  | n :: ns => Rs.cons (r_int n) (rs_ints ns)
theorem rs_strs : ∀ (ns : List Str), Rs K H (ns.map D.str) (ns.map V.str)
  | [] => Rs.nil
  | n :: ns => Rs.cons (r_str n) (rs_strs ns)
end
theorem ri_any {X : Cx} {tg l : Expr} {f : WE} (hl : RE X l f) : RI X tg l (wIter f) := by
  refine pi_imp (pi_any hl) fun σ H Q q => ?_
  obtain ⟨ex, m, sl, mu, Qd, cf, sr, w, k⟩ := q
  refine ⟨ex, m, sl, mu, _, cf, sr, w, fun s mu1 m1 H1 v cf1 e1 r1 q1 => ?_⟩
  cases s with
  | h _ => exact q1.elim
  | d x =>
    have q2 := On.elim q1
    clear q1
    obtain ⟨ds, ed, q1⟩ := q2
    cases x <;> first
      | cases ed
      | skip
    · -- a text
      rename_i z
      have e := rs_str r1
      refine .inr (.inr ⟨z, e, k _ _ _ _ _ cf1 e1 ?_ q1⟩)
      have ws := walk_str (z := z)
      refine ⟨fun i ex2 m2 mu2 H2 hi cf2 le => ws.goes i H2 (by simpa using hi) trivial, fun i ex2 m2 mu2 H2 y H3 hi cf2 le yl => ?_, fun ex2 m2 mu2 H2 cf2 le => by simpa using ws.stops H2 trivial⟩
      obtain ⟨g1, c, g2, g3⟩ := ws.yields i H2 y H3 (by simpa using hi) trivial yl
      subst g1
      refine ⟨.str ⟨#[c]⟩, ?_, grown_refl cf2, by rw [g3]; exact r_str _⟩
      rw [List.getElem?_map, Array.getElem?_toList, g2]
      rfl
    · -- a list
      simp only [RS, R] at r1
      obtain ⟨a, vs, rfl, h2, h3⟩ := r1
      refine .inl ⟨a, vs, rfl, SqL.of (vw_sub _ _ h2), k _ _ _ _ _ cf1 e1 ?_ q1⟩
      exact wk_seq (walk_list (xs := vs)) h3.length (fun _ _ _ _ _ le => le_sqL (SqL.of h2) le) h3
    · -- a tuple
      simp only [RS, R] at r1
      obtain ⟨a, vs, rfl, h2, h3⟩ := r1
      refine .inr (.inl ⟨a, vs, rfl, SqT.of (vw_sub _ _ h2), k _ _ _ _ _ cf1 e1 ?_ q1⟩)
      exact wk_seq (walk_tup (xs := vs)) h3.length (fun _ _ _ _ _ le => le_sqT (SqT.of h2) le) h3
    · -- the script
      rename_i ns
      simp only [RS, R] at r1
      obtain ⟨a, rfl, h2⟩ := r1
      refine .inl ⟨a, _, rfl, same_sqL vw_sub h2, k _ _ _ _ _ cf1 e1 ?_ q1⟩
      exact wk_seq (walk_list (xs := ns.map V.int)) (by simp) (fun _ _ _ _ _ le => le_sqL h2 le) (rs_ints ns)
/-- range(n), range(a, b) -/
def rangeD (lo hi : Int) : List D := (List.range (hi - lo).toNat).map fun (i : Nat) => D.int (lo + i)
def inR62 (i : Int) : Bool := decide (-(2 ^ 62) ≤ i ∧ i < 2 ^ 62)
def wRange1 (fs : WA) : WI := fun sl mu Q => fs sl mu fun ss mu1 => match ss with
  | [.d (.int j)] => inR62 j = true ∧ Q (rangeD 0 j) mu1
  | _ => False
def wRange2 (fs : WA) : WI := fun sl mu Q => fs sl mu fun ss mu1 => match ss with
  | [.d (.int i), .d (.int j)] => inR62 i = true ∧ inR62 j = true ∧ Q (rangeD i j) mu1
  | _ => False
theorem wk_range {K : Frag} {ex m : List Addr} {mu : Mu} {H : Hp} (lo hi : Int) : WkD K ex m mu H (Itr lo (hi - lo).toNat) (rangeD lo hi) := by
  have hl : (rangeD lo hi).length = (hi - lo).toNat := by simp [rangeD]
  refine ⟨fun i ex2 m2 mu2 H2 h cf le => by rw [hl] at h; exact h, fun i ex2 m2 mu2 H2 x H3 h cf le y => ?_, fun ex2 m2 mu2 H2 cf le => by rw [hl]; exact Nat.le_refl _⟩
  obtain ⟨e1, e2⟩ := y
  subst e1
  rw [hl] at h
  exact ⟨.int (lo + i), by simp [rangeD, h], grown_refl cf, by rw [e2]; exact r_int _⟩
section
variable {X : Cx} {tg a b : Expr} {fs : WA} {p pos : Pos}
theorem ri_range1 (hg : Gl X "range") (hm : X.mg "range" = none) (ha : RA X [a] fs) (hs : starEach [a] X.env = [(false, eval a X.env)] := by rfl) : RI X tg (.Call (.Name "range" p) [a] [] pos) (wRange1 fs) := by
  refine pi_imp (pi_range1 hg hm ha hs) fun σ H Q q => ?_
  obtain ⟨ex, m, sl, mu, Qd, cf, sr, w, k⟩ := q
  refine ⟨ex, m, sl, mu, _, cf, sr, w, fun ss mu1 m1 H1 v cf1 e1 rs q1 => ?_⟩
  split at q1
  · rename_i j
    obtain ⟨q0, q1⟩ := q1
    have hb := of_decide_eq_true q0
    cases rs with
    | cons r rs =>
      cases rs
      have e := rs_int r
      subst e
      refine ⟨j, rfl, hb.1, hb.2, ?_⟩
      have z := k _ _ _ _ _ cf1 e1 (wk_range 0 j) q1
      rw [Int.sub_zero] at z
      exact z
  · exact q1.elim
theorem ri_range2 (hg : Gl X "range") (hm : X.mg "range" = none) (ha : RA X [a, b] fs) (hs : starEach [a, b] X.env = [(false, eval a X.env), (false, eval b X.env)] := by rfl) (hs2 : starEach [b] X.env = [(false, eval b X.env)] := by rfl) :
    RI X tg (.Call (.Name "range" p) [a, b] [] pos) (wRange2 fs) := by
  refine pi_imp (pi_range2 hg hm ha hs hs2) fun σ H Q q => ?_
  obtain ⟨ex, m, sl, mu, Qd, cf, sr, w, k⟩ := q
  refine ⟨ex, m, sl, mu, _, cf, sr, w, fun ss mu1 m1 H1 v cf1 e1 rs q1 => ?_⟩
  split at q1
  · rename_i i j
    obtain ⟨q0, q0', q1⟩ := q1
    have hb := of_decide_eq_true q0
    have hb' := of_decide_eq_true q0'
    cases rs with
    | cons r rs =>
      cases rs with
      | cons r' rs =>
        cases rs
        have e := rs_int r
        have e' := rs_int r'
        subst e e'
        exact ⟨i, j, rfl, ⟨hb.1, hb.2, hb'.1, hb'.2⟩, k _ _ _ _ _ cf1 e1 (wk_range i j) q1⟩
  · exact q1.elim
end

/-! ### operators -/
section
variable {X : Cx}
theorem opr_imp {f : Value → Value → Sem Value} {r r' : R2} (h : OpR X f r) (i : ∀ x y H Q, r' x y H Q → r x y H Q) : OpR X f r' :=
  fun pins s σ H x y v u Q I rx ry q => h pins s σ H x y v u Q I rx ry (i x y H Q q)
theorem unr_imp {f : Value → Sem Value} {r r' : V → Hp → VK → Prop} (h : UnR X f r) (i : ∀ x H Q, r' x H Q → r x H Q) : UnR X f r' :=
  fun pins s σ H x v Q I rx q => h pins s σ H x v Q I rx (i x H Q q)
theorem callr_imp {f : Value} {r r' : List V → Hp → VK → Prop} (h : CallR X f r) (i : ∀ xs H Q, r' xs H Q → r xs H Q) : CallR X f r' :=
  fun pins s σ H xs us Q I rs q => h pins s σ H xs us Q I rs (i xs H Q q)
theorem ixr_imp {r r' : R2} (h : IxR X r) (i : ∀ x y H Q, r' x y H Q → r x y H Q) : IxR X r' :=
  fun value slice pins s σ H x y v u Q I rx ry q hs => h value slice pins s σ H x y v u Q I rx ry (i x y H Q q) hs

def dAdd : G2 := fun s1 s2 mu => match s1, s2 with
  | .d (.int i), .d (.int j) => some (.int (i + j))
  | .d (.str a), .d (.str b) => if a.length + b.length ≤ sizeLine then some (.str (a ++ b)) else none
  | .d (.tup a), .d (.tup b) => if a.length + b.length ≤ sizeLine then some (.tup (a ++ b)) else none
  | .d (.lst a), .d (.lst b) => if a.length + b.length ≤ sizeLine then some (.lst (a ++ b)) else none
  | _, _ => none
theorem op_dAdd : OpR X (binaryOp .Add) (r2D X.K dAdd) := by
  refine opr_imp (OpR.or op_add (OpR.or op_add_str (OpR.or op_catA op_cat))) fun x y H Q q => ?_
  obtain ⟨ex, m, mu, s1, s2, d, cf, r1, r2, e, k⟩ := q
  unfold dAdd at e
  split at e
  · cases e
    exact .inl ⟨_, _, rs_int r1, rs_int r2, k _ _ (grown_refl cf) (r_int _)⟩
  · split at e
    · cases e
      exact .inr (.inl ⟨_, _, rs_str r1, rs_str r2, by assumption, k _ _ (grown_refl cf) (r_str _)⟩)
    · cases e
  · split at e
    · rename_i a b hz
      cases e
      obtain ⟨p, vs, rfl, h1, g1⟩ := rs_tup r1
      obtain ⟨q, us, rfl, h2, g2⟩ := rs_tup r2
      refine .inr (.inr (.inl ⟨p, q, vs, us, rfl, rfl, h1, h2, by rw [← g1.length, ← g2.length]; exact hz, fun z => ?_, fun z z2 => ?_, fun z z2 n hn => ?_⟩))
      · have ea : a = [] := List.eq_nil_of_length_eq_zero (by rw [g1.length, z]; rfl)
        refine k _ _ (grown_refl cf) ?_
        rw [ea, List.nil_append]
        exact r2
      · have eb : b = [] := List.eq_nil_of_length_eq_zero (by rw [g2.length, z2]; rfl)
        refine k _ _ (grown_refl cf) ?_
        rw [eb, List.append_nil]
        exact r1
      · exact k _ _ (grown cf hn) (new_tup cf hn (g1.append g2))
    · cases e
  · split at e
    · rename_i a b hz
      cases e
      obtain ⟨p, vs, rfl, h1, g1⟩ := rs_lst r1
      obtain ⟨q, us, rfl, h2, g2⟩ := rs_lst r2
      exact .inr (.inr (.inr ⟨p, q, vs, us, rfl, rfl, h1, h2, by rw [← g1.length, ← g2.length]; exact hz, fun n hn => k _ _ (grown cf hn) (new_lst cf hn (g1.append g2))⟩))
    · cases e
  · cases e
def dI2 (g : Int → Int → Option D) : G2 := fun s1 s2 _ => match s1, s2 with
  | .d (.int i), .d (.int j) => g i j
  | _, _ => none
theorem dI2_inv {g : Int → Int → Option D} {s1 s2 : S} {mu : Mu} {d : D} (h : dI2 g s1 s2 mu = some d) : ∃ i j, s1 = .d (.int i) ∧ s2 = .d (.int j) ∧ g i j = some d := by
  unfold dI2 at h
  split at h
  · exact ⟨_, _, rfl, rfl, h⟩
  · cases h
def dSub : G2 := dI2 fun i j => some (.int (i - j))
theorem op_dSub : OpR X (binaryOp .Sub) (r2D X.K dSub) := by
  refine opr_imp op_sub fun x y H Q q => ?_
  obtain ⟨ex, m, mu, s1, s2, d, cf, r1, r2, e, k⟩ := q
  obtain ⟨i, j, rfl, rfl, e⟩ := dI2_inv e
  cases e
  exact ⟨i, j, rs_int r1, rs_int r2, k _ _ (grown_refl cf) (r_int _)⟩
def small64 (i : Int) : Bool := decide (-(2 ^ 64) < i ∧ i < 2 ^ 64)
def dMul : G2 := dI2 fun i j => if small64 i || small64 j then some (.int (i * j)) else none
theorem op_dMul : OpR X (binaryOp .Mult) (r2D X.K dMul) := by
  refine opr_imp op_mul fun x y H Q q => ?_
  obtain ⟨ex, m, mu, s1, s2, d, cf, r1, r2, e, k⟩ := q
  obtain ⟨i, j, rfl, rfl, e2⟩ := dI2_inv e
  clear e
  split at e2
  · rename_i hc
    cases e2
    refine ⟨i, j, rs_int r1, rs_int r2, ?_, k _ _ (grown_refl cf) (r_int _)⟩
    rw [Bool.or_eq_true] at hc
    rcases hc with hc | hc
    · exact .inl (of_decide_eq_true hc)
    · exact .inr (of_decide_eq_true hc)
  · cases e2
def dFdiv : G2 := dI2 fun i j => if j ≠ 0 ∧ j.natAbs < 1073741824 then some (.int (i.fdiv j)) else none
theorem op_dFdiv : OpR X (binaryOp .FloorDiv) (r2D X.K dFdiv) := by
  refine opr_imp op_fdivN fun x y H Q q => ?_
  obtain ⟨ex, m, mu, s1, s2, d, cf, r1, r2, e, k⟩ := q
  obtain ⟨i, j, rfl, rfl, e2⟩ := dI2_inv e
  clear e
  split at e2
  · rename_i hc
    cases e2
    exact ⟨i, j, rs_int r1, rs_int r2, hc, k _ _ (grown_refl cf) (r_int _)⟩
  · cases e2
def dMod : G2 := dI2 fun i j => if j ≠ 0 then some (.int (i.fmod j)) else none
theorem op_dMod : OpR X (binaryOp .Mod) (r2D X.K dMod) := by
  refine opr_imp op_modN fun x y H Q q => ?_
  obtain ⟨ex, m, mu, s1, s2, d, cf, r1, r2, e, k⟩ := q
  obtain ⟨i, j, rfl, rfl, e2⟩ := dI2_inv e
  clear e
  split at e2
  · rename_i hc
    cases e2
    exact ⟨i, j, rs_int r1, rs_int r2, hc, k _ _ (grown_refl cf) (r_int _)⟩
  · cases e2
def dPow : G2 := dI2 fun i j => if 0 ≤ j ∧ j ≤ 1000000 ∧ i.natAbs < 2 ^ 64 then some (.int (i ^ j.toNat)) else none
theorem op_dPow : OpR X (binaryOp .Pow) (r2D X.K dPow) := by
  refine opr_imp op_pow fun x y H Q q => ?_
  obtain ⟨ex, m, mu, s1, s2, d, cf, r1, r2, e, k⟩ := q
  obtain ⟨i, j, rfl, rfl, e2⟩ := dI2_inv e
  clear e
  split at e2
  · rename_i hc
    cases e2
    exact ⟨i, j, rs_int r1, rs_int r2, hc, k _ _ (grown_refl cf) (r_int _)⟩
  · cases e2
def dNeg : G1 := fun s _ => match s with
  | .d (.int i) => some (.int (-i))
  | _ => none
theorem un_dNeg : UnR X (unaryOp .USub) (r1D X.K dNeg) := by
  refine unr_imp un_neg fun x H Q q => ?_
  obtain ⟨ex, m, mu, s1, d, cf, r1, e, k⟩ := q
  unfold dNeg at e
  split at e
  · cases e
    exact ⟨_, rs_int r1, k _ _ (grown_refl cf) (r_int _)⟩
  · cases e

/-! ### comparisons of order -/
def strLt (a b : Str) : Bool := decide (a.cps.toList < b.cps.toList)
def dCmp (pI : Int → Int → Bool) (pS : Str → Str → Bool) : G2 := fun s1 s2 _ => match s1, s2 with
  | .d (.int i), .d (.int j) => some (.bl (pI i j))
  | .d (.str i), .d (.str j) => some (.bl (pS i j))
  | _, _ => none
theorem op_dCmp {op : CmpOp} {pI : Int → Int → Bool} {pS : Str → Str → Bool} (h1 : OpR X (compareOp op) (rI0 fun i j => .bl (pI i j))) (h2 : OpR X (compareOp op) (fun x y H Q => ∃ i j, x = .str i ∧ y = .str j ∧ Q (.bl (pS i j)) H)) :
    OpR X (compareOp op) (r2D X.K (dCmp pI pS)) := by
  refine opr_imp (OpR.or h1 h2) fun x y H Q q => ?_
  obtain ⟨ex, m, mu, s1, s2, d, cf, r1, r2, e, k⟩ := q
  unfold dCmp at e
  split at e
  · cases e
    exact .inl ⟨_, _, rs_int r1, rs_int r2, k _ _ (grown_refl cf) (r_bl _)⟩
  · cases e
    exact .inr ⟨_, _, rs_str r1, rs_str r2, k _ _ (grown_refl cf) (r_bl _)⟩
  · cases e
def dLt : G2 := dCmp (fun i j => decide (i < j)) strLt
def dLe : G2 := dCmp (fun i j => decide (i ≤ j)) fun a b => !strLt b a
def dGt : G2 := dCmp (fun i j => decide (j < i)) fun a b => strLt b a
def dGe : G2 := dCmp (fun i j => decide (j ≤ i)) fun a b => !strLt a b
theorem op_dLt : OpR X (compareOp .Lt) (r2D X.K dLt) := op_dCmp op_lt op_lt_str
theorem op_dLe : OpR X (compareOp .LtE) (r2D X.K dLe) := op_dCmp op_le op_le_str
theorem op_dGt : OpR X (compareOp .Gt) (r2D X.K dGt) := op_dCmp op_gt op_gt_str
theorem op_dGe : OpR X (compareOp .GtE) (r2D X.K dGe) := op_dCmp op_ge op_ge_str

/-! ### is -/
def dIs (neg : Bool) : G2 := fun s1 s2 _ => match s1, s2 with
  | .d (.bl a), .d (.bl b) => some (.bl (if neg then !decide (a = b) else decide (a = b)))
  | .d .non, .d .non => some (.bl (!neg))
  | .d (.bl _), .d .non => some (.bl neg)
  | .d (.int _), .d .non => some (.bl neg)
  | .d (.str _), .d .non => some (.bl neg)
  | .d (.lst _), .d .non => some (.bl neg)
  | .d (.tup _), .d .non => some (.bl neg)
  | .d (.dic _ _), .d .non => some (.bl neg)
  | .d (.dit _ _), .d .non => some (.bl neg)
  | .d (.obj _ _ _), .d .non => some (.bl neg)
  | _, _ => none
theorem non_ref {K : Frag} {m : List Addr} {H : Hp} {d : D} {x : V} (r : RS K m H (.d d) x) (h : ∀ a, x = .ref a → (decide (x = V.non)) = false) (hd : ∃ a, x = .ref a) : decide (x = V.non) = false := by
  obtain ⟨a, e⟩ := hd
  exact h a e
theorem dIs_val {K : Frag} {m : List Addr} {H : Hp} {neg : Bool} {s1 s2 : S} {mu : Mu} {d : D} {x y : V} (e : dIs neg s1 s2 mu = some d) (r1 : RS K m H s1 x) (r2 : RS K m H s2 y) :
    (∃ a b, x = .bl a ∧ y = .bl b ∧ d = .bl (if neg then !decide (a = b) else decide (a = b))) ∨ (y = .non ∧ d = .bl (if neg then !decide (x = .non) else decide (x = .non))) := by
  unfold dIs at e
  split at e
  · cases e
    exact .inl ⟨_, _, rs_bool r1, rs_bool r2, rfl⟩
  · cases e
    refine .inr ⟨rs_non r2, ?_⟩
    rw [rs_non r1]
    cases neg <;> rfl
  all_goals first
    | (cases e
       refine .inr ⟨rs_non r2, ?_⟩
       first
         | rw [rs_bool r1]
         | rw [rs_int r1]
         | rw [rs_str r1]
         | (simp only [RS, R] at r1
            obtain ⟨a, _, rfl, _⟩ := r1)
         | (simp only [RS, R] at r1
            obtain ⟨a, _, _, rfl, _⟩ := r1)
       cases neg <;> rfl)
    | cases e
theorem op_dIs : OpR X (compareOp .Is) (r2D X.K (dIs false)) := by
  refine opr_imp (OpR.or op_is_bl op_isN) fun x y H Q q => ?_
  obtain ⟨ex, m, mu, s1, s2, d, cf, r1, r2, e, k⟩ := q
  rcases dIs_val e r1 r2 with ⟨a, b, e1, e2, rfl⟩ | ⟨e2, rfl⟩
  · exact .inl ⟨a, b, e1, e2, k _ _ (grown_refl cf) (r_bl _)⟩
  · exact .inr ⟨e2, k _ _ (grown_refl cf) (r_bl _)⟩
theorem op_dIsNot : OpR X (compareOp .IsNot) (r2D X.K (dIs true)) := by
  refine opr_imp (OpR.or op_isnot_bl op_notN) fun x y H Q q => ?_
  obtain ⟨ex, m, mu, s1, s2, d, cf, r1, r2, e, k⟩ := q
  rcases dIs_val e r1 r2 with ⟨a, b, e1, e2, rfl⟩ | ⟨e2, rfl⟩
  · exact .inl ⟨a, b, e1, e2, k _ _ (grown_refl cf) (r_bl _)⟩
  · exact .inr ⟨e2, k _ _ (grown_refl cf) (r_bl _)⟩
end

/-! ### data for the library -/
mutual
def toPy : D → Option PyData
  | .non => some .none
  | .bl b => some (.bool b)
  | .int i => some (.int i)
  | .str x => some (.str x)
  | .lst ds => (toPys ds).map .list
  | .tup ds => (toPys ds).map .tuple
  | _ => none
def toPys : List D → Option (List PyData)
  | [] => some []
  | d :: ds => match toPy d, toPys ds with
    | some p, some ps => some (p :: ps)
    | _, _ => none
end
mutual
theorem toPy_ok {K : Frag} {H : Hp} : ∀ (d : D) (v : V) (p : PyData), R K H d v → toPy d = some p → Dp K H v p
  | .non, v, p, r, e => by
    simp only [R] at r
    simp only [toPy, Option.some.injEq] at e
    subst r e
    exact .non
  | .bl b, v, p, r, e => by
    simp only [R] at r
    simp only [toPy, Option.some.injEq] at e
    subst r e
    exact .bl b
  | .int i, v, p, r, e => by
    simp only [R] at r
    simp only [toPy, Option.some.injEq] at e
    subst r e
    exact .int i
  | .str x, v, p, r, e => by
    simp only [R] at r
    simp only [toPy, Option.some.injEq] at e
    subst r e
    exact .str x
  | .lst ds, v, p, r, e => by
    simp only [R] at r
    simp only [toPy] at e
    obtain ⟨ps, e1, rfl⟩ := Option.map_eq_some_iff.mp e
    obtain ⟨a, vs, rfl, h2, h3⟩ := r
    exact .lst (SqL.of h2) (toPys_ok ds vs ps h3 e1)
  | .tup ds, v, p, r, e => by
    simp only [R] at r
    simp only [toPy] at e
    obtain ⟨ps, e1, rfl⟩ := Option.map_eq_some_iff.mp e
    obtain ⟨a, vs, rfl, h2, h3⟩ := r
    exact .tup (SqT.of h2) (toPys_ok ds vs ps h3 e1)
  | .scr _, _, _, _, e => by simp [toPy] at e
  | .ty _, _, _, _, e => by simp [toPy] at e
  | .dic _ _, _, _, _, e => by simp [toPy] at e
  | .dit _ _, _, _, _, e => by simp [toPy] at e
  | .obj _ _ _, _, _, _, e => by simp [toPy] at e
theorem toPys_ok {K : Frag} {H : Hp} : ∀ (ds : List D) (vs : List V) (ps : List PyData), Rs K H ds vs → toPys ds = some ps → DpAll K H vs ps
  | [], vs, ps, r, e => by
    rw [r.inv0]
    simp only [toPys, Option.some.injEq] at e
    subst e
    exact .nil
  | d :: ds, vs, ps, r, e => by
    obtain ⟨v, us, rfl, h2, h3⟩ := r.inv
    simp only [toPys] at e
    split at e
    · rename_i p qs e1 e2
      cases e
      exact .cons (toPy_ok d v p h2 e1) (toPys_ok ds us qs h3 e2)
    · cases e
end
theorem dp_same {K : Frag} {H : Hp} {ex m : List Addr} {mu : Mu} {d : D} {v : V} {p : PyData} (r : RS K m (vw ex m mu H) (.d d) v) (e : toPy d = some p) : Dp K H v p :=
  toPy_ok d v p (R.mono vw_sub d v r) e
section
variable {X : Cx}
/-- what a value is now, as data -/
def pk (s : S) (mu : Mu) : Option D := match s with
  | .d x => some x
  | .h k => match mu[k]? with
    | some (some mo) => mo.asD
    | _ => none
theorem pk_ok {K : Frag} {ex m : List Addr} {mu : Mu} {H : Hp} {s : S} {x : V} {d : D} (cf : Cfg K ex m mu H) (r : RS K m (vw ex m mu H) s x) (e : pk s mu = some d) : R K H d x := by
  unfold pk at e
  split at e
  · cases e
    exact R.mono vw_sub _ _ r
  · split at e
    · rename_i mo em
      obtain ⟨a, h1, rfl⟩ := r
      obtain ⟨b, o, g1, g2, g3⟩ := cf.st _ mo em
      rw [h1] at g1
      cases g1
      exact RM.asD e (g3.same vw_sub) g2
    · cases e
def dEqG (neg : Bool) : G2 := fun s1 s2 mu => (pk s1 mu).bind fun a => (pk s2 mu).bind fun b => (toPy a).bind fun p => (toPy b).bind fun q =>
  if SeqAt.shaped p && SeqAt.shaped q then some (.bl (if neg then !PyData.eqv p q else PyData.eqv p q)) else none
theorem dEqG_inv {neg : Bool} {s1 s2 : S} {mu : Mu} {d : D} (e : dEqG neg s1 s2 mu = some d) : ∃ a b p q, pk s1 mu = some a ∧ pk s2 mu = some b ∧ toPy a = some p ∧ toPy b = some q ∧ SeqAt.shaped p = true ∧ SeqAt.shaped q = true ∧ d = .bl (if neg then !PyData.eqv p q else PyData.eqv p q) := by
  unfold dEqG at e
  obtain ⟨a, e1, e⟩ := Option.bind_eq_some_iff.mp e
  obtain ⟨b, e2, e⟩ := Option.bind_eq_some_iff.mp e
  obtain ⟨p, e3, e⟩ := Option.bind_eq_some_iff.mp e
  obtain ⟨q, e4, e⟩ := Option.bind_eq_some_iff.mp e
  split at e
  · rename_i h
    cases e
    rw [Bool.and_eq_true] at h
    exact ⟨a, b, p, q, e1, e2, e3, e4, h.1, h.2, rfl⟩
  · cases e
theorem op_dEqG (hu : X.A.units + 64 < cLine) : OpR X (compareOp .Eq) (r2D X.K (dEqG false)) := by
  refine opr_imp (op_eqD hu) fun x y H Q q => ?_
  obtain ⟨ex, m, mu, s1, s2, d, cf, r1, r2, e, k⟩ := q
  obtain ⟨a, b, p, q, e1, e2, e3, e4, h1, h2, rfl⟩ := dEqG_inv e
  exact ⟨p, q, toPy_ok _ _ _ (pk_ok cf r1 e1) e3, toPy_ok _ _ _ (pk_ok cf r2 e2) e4, h1, h2, k _ _ (grown_refl cf) (r_bl _)⟩
theorem op_dNeG (hu : X.A.units + 64 < cLine) : OpR X (compareOp .NotEq) (r2D X.K (dEqG true)) := by
  refine opr_imp (op_neD hu) fun x y H Q q => ?_
  obtain ⟨ex, m, mu, s1, s2, d, cf, r1, r2, e, k⟩ := q
  obtain ⟨a, b, p, q, e1, e2, e3, e4, h1, h2, rfl⟩ := dEqG_inv e
  exact ⟨p, q, toPy_ok _ _ _ (pk_ok cf r1 e1) e3, toPy_ok _ _ _ (pk_ok cf r2 e2) e4, h1, h2, k _ _ (grown_refl cf) (r_bl _)⟩
/-- == and != : two texts straight, else over data -/
def dEq (neg : Bool) : G2 := fun s1 s2 mu => match s1, s2 with
  | .d (.str a), .d (.str b) => some (.bl (if neg then !decide (a = b) else decide (a = b)))
  | .d (.lst a), .d (.lst b) => if a.length = b.length then dEqG neg (.d (.lst a)) (.d (.lst b)) mu else some (.bl neg)
  | s1, s2 => dEqG neg s1 s2 mu
theorem dEq_cases {neg : Bool} {s1 s2 : S} {mu : Mu} {d : D} (e : dEq neg s1 s2 mu = some d) : (∃ a b, s1 = .d (.str a) ∧ s2 = .d (.str b) ∧ d = .bl (if neg then !decide (a = b) else decide (a = b))) ∨ (∃ a b, s1 = .d (.lst a) ∧ s2 = .d (.lst b) ∧ a.length ≠ b.length ∧ d = .bl neg) ∨ dEqG neg s1 s2 mu = some d := by
  unfold dEq at e
  split at e
  · cases e
    exact .inl ⟨_, _, rfl, rfl, rfl⟩
  · split at e
    · exact .inr (.inr e)
    · rename_i h
      cases e
      exact .inr (.inl ⟨_, _, rfl, rfl, h, rfl⟩)
  · exact .inr (.inr e)
theorem str_eqV (a b : Str) : decide (V.str a = V.str b) = decide (a = b) := by
  rw [Bool.eq_iff_iff]
  simp
theorem two_lists {K : Frag} {m : List Addr} {ex : List Addr} {mu : Mu} {P : Program} {w : World} {X : Cx} {pins : List (Addr × Obj)} {σ : L2.St} {H : Hp} {s : Shared} {a b : List D} {x y : V} {v u : Value} (I : Inv X pins σ H s) (rx : RelV x v) (ry : RelV y u)
    (r1 : RS K m (vw ex m mu H) (.d (.lst a)) x) (r2 : RS K m (vw ex m mu H) (.d (.lst b)) y) (h : a.length ≠ b.length) :
    ∃ p q its jts, v = .ref p ∧ u = .ref q ∧ s.heap.IsList p its ∧ s.heap.IsList q jts ∧ (its.size != jts.size) = true := by
  simp only [RS, R] at r1 r2
  obtain ⟨p, vs, rfl, h1, g1⟩ := r1
  obtain ⟨q, us, rfl, h2, g2⟩ := r2
  cases rx
  cases ry
  obtain ⟨its, c1, pl1, _⟩ := I.list (SqL.of (vw_sub _ _ h1))
  obtain ⟨jts, c2, pl2, _⟩ := I.list (SqL.of (vw_sub _ _ h2))
  refine ⟨p, q, its.toArray, jts.toArray, rfl, rfl, pl1.isList, pl2.isList, ?_⟩
  have e1 := c1.length
  have e2 := c2.length
  have e3 := g1.length
  have e4 := g2.length
  simp only [List.size_toArray, bne_iff_ne, ne_eq]
  omega
theorem op_dEq (hu : X.A.units + 64 < cLine) : OpR X (compareOp .Eq) (r2D X.K (dEq false)) := by
  intro pins s σ H x y v u Q I rx ry q
  obtain ⟨ex, m, mu, s1, s2, d, cf, r1, r2, e, k⟩ := q
  rcases dEq_cases e with ⟨a, b, rfl, rfl, rfl⟩ | ⟨a, b, rfl, rfl, hne, rfl⟩ | e2
  · simp only [RS, R] at r1 r2
    subst r1 r2
    refine op_eq pins s σ H _ _ v u Q I rx ry ⟨rfl, ?_⟩
    rw [str_eqV]
    exact k _ _ (grown_refl cf) (r_bl _)
  · obtain ⟨p, q, its, jts, rfl, rfl, i1, i2, ne⟩ := two_lists (P := X.prog) (w := X.w) I rx ry r1 r2 hne
    exact SeqAt.RcAt.lists_lengths i1 i2 ne (by omega) X.prog X.w _ _ ⟨.bl false, H, I, rfl, k _ _ (grown_refl cf) (r_bl _)⟩
  · exact op_dEqG hu pins s σ H x y v u Q I rx ry ⟨ex, m, mu, s1, s2, d, cf, r1, r2, e2, k⟩
theorem op_dNe (hu : X.A.units + 64 < cLine) : OpR X (compareOp .NotEq) (r2D X.K (dEq true)) := by
  intro pins s σ H x y v u Q I rx ry q
  obtain ⟨ex, m, mu, s1, s2, d, cf, r1, r2, e, k⟩ := q
  rcases dEq_cases e with ⟨a, b, rfl, rfl, rfl⟩ | ⟨a, b, rfl, rfl, hne, rfl⟩ | e2
  · simp only [RS, R] at r1 r2
    subst r1 r2
    refine op_ne pins s σ H _ _ v u Q I rx ry ⟨rfl, ?_⟩
    rw [str_eqV]
    exact k _ _ (grown_refl cf) (r_bl _)
  · obtain ⟨p, q, its, jts, rfl, rfl, i1, i2, ne⟩ := two_lists (P := X.prog) (w := X.w) I rx ry r1 r2 hne
    exact SeqAt.RcNeAt.lists_lengths i1 i2 ne (by omega) X.prog X.w _ _ ⟨.bl true, H, I, rfl, k _ _ (grown_refl cf) (r_bl _)⟩
  · exact op_dNeG hu pins s σ H x y v u Q I rx ry ⟨ex, m, mu, s1, s2, d, cf, r1, r2, e2, k⟩

/-! ### in -/
def flatD : D → Bool
  | .non => true
  | .bl _ => true
  | .int _ => true
  | .str _ => true
  | _ => false
def toV : D → V
  | .bl b => .bl b
  | .int i => .int i
  | .str x => .str x
  | _ => .non
theorem flat_val {K : Frag} {H : Hp} {d : D} {v : V} (r : R K H d v) (h : flatD d = true) : v = toV d ∧ flatV v = true := by
  cases d <;> first
    | (simp only [R] at r
       subst r
       exact ⟨rfl, rfl⟩)
    | cases h
theorem flat_vals {K : Frag} {H : Hp} : ∀ {ds : List D} {vs : List V}, Rs K H ds vs → ds.all flatD = true → vs = ds.map toV ∧ vs.all flatV = true
  | [], vs, r, _ => by
    rw [r.inv0]
    exact ⟨rfl, rfl⟩
  | d :: ds, vs, r, h => by
    obtain ⟨v, us, rfl, h2, h3⟩ := r.inv
    rw [List.all_cons, Bool.and_eq_true] at h
    obtain ⟨e1, f1⟩ := flat_val h2 h.1
    obtain ⟨e2, f2⟩ := flat_vals h3 h.2
    refine ⟨by rw [e1, e2]; rfl, ?_⟩
    rw [List.all_cons, f1, f2]
    rfl
def hasD (x : D) (ds : List D) : Bool := inV (toV x) (ds.map toV)
def dIn (neg : Bool) : G2 := fun s1 s2 mu => match s1, s2 with
  | .d (.str a), .d (.str z) => match a.cps.toList with
    | [c] => some (.bl (if neg then !decide (c ∈ z.cps.toList) else decide (c ∈ z.cps.toList)))
    | _ => none
  | .d x, s2 => match rdQ s2 mu with
    | some ds => if flatD x && ds.all flatD then some (.bl (if neg then !hasD x ds else hasD x ds)) else none
    | none => none
  | _, _ => none
theorem dIn_val {K : Frag} {ex m : List Addr} {H : Hp} {neg : Bool} {s1 s2 : S} {mu : Mu} {d : D} {x y : V} (e : dIn neg s1 s2 mu = some d) (cf : Cfg K ex m mu H) (r1 : RS K m (vw ex m mu H) s1 x) (r2 : RS K m (vw ex m mu H) s2 y) :
    (∃ (c : Nat) (z : Str), x = .str ⟨#[c]⟩ ∧ y = .str z ∧ d = .bl (if neg then !decide (c ∈ z.cps.toList) else decide (c ∈ z.cps.toList))) ∨
    (∃ p xs, y = .ref p ∧ (SqL K H p xs ∨ SqT K H p xs) ∧ flatV x = true ∧ xs.all flatV = true ∧ d = .bl (if neg then !inV x xs else inV x xs)) := by
  unfold dIn at e
  split at e
  · rename_i a z
    split at e
    · rename_i c ec
      cases e
      have ea : a = ⟨#[c]⟩ := by
        obtain ⟨⟨l⟩⟩ := a
        simp only at ec
        rw [ec]
      exact .inl ⟨c, z, by rw [rs_str r1, ea], rs_str r2, rfl⟩
    · cases e
  · split at e
    · rename_i ds e2
      split at e
      · rename_i h
        cases e
        rw [Bool.and_eq_true] at h
        obtain ⟨p, vs, rfl, hq, g⟩ := rdQ_ok cf r2 e2
        obtain ⟨e3, f3⟩ := flat_val r1 h.1
        obtain ⟨e4, f4⟩ := flat_vals g h.2
        refine .inr ⟨p, vs, rfl, hq, f3, f4, ?_⟩
        unfold hasD
        rw [e3, e4]
      · cases e
    · cases e
  · cases e
theorem op_dIn : OpR X (compareOp .In) (r2D X.K (dIn false)) := by
  refine opr_imp (OpR.or op_in_sign op_in_seq) fun x y H Q q => ?_
  obtain ⟨ex, m, mu, s1, s2, d, cf, r1, r2, e, k⟩ := q
  rcases dIn_val e cf r1 r2 with ⟨c, z, e1, e2, rfl⟩ | ⟨p, xs, e1, e2, e3, e4, rfl⟩
  · exact .inl ⟨c, z, e1, e2, k _ _ (grown_refl cf) (r_bl _)⟩
  · exact .inr ⟨p, xs, e1, e2, e3, e4, k _ _ (grown_refl cf) (r_bl _)⟩
theorem op_dNotIn : OpR X (compareOp .NotIn) (r2D X.K (dIn true)) := by
  refine opr_imp (OpR.or op_notIn_sign op_notIn_seq) fun x y H Q q => ?_
  obtain ⟨ex, m, mu, s1, s2, d, cf, r1, r2, e, k⟩ := q
  rcases dIn_val e cf r1 r2 with ⟨c, z, e1, e2, rfl⟩ | ⟨p, xs, e1, e2, e3, e4, rfl⟩
  · exact .inl ⟨c, z, e1, e2, k _ _ (grown_refl cf) (r_bl _)⟩
  · exact .inr ⟨p, xs, e1, e2, e3, e4, k _ _ (grown_refl cf) (r_bl _)⟩
end
end DL
set_option Elab.async false
set_option linter.all false
set_option maxRecDepth 100000
set_option maxHeartbeats 1000000
namespace DL
open PySem PySem.Spec L2

/-! ### built-ins by their names -/
section
variable {X : Cx} {x : Str} {p pos : Pos} {e : Expr} {es : List Expr} {fs : WA} {id T : String} {g : GN}
theorem re_callB (hc : CallR X (.builtin id) (rND X.K g)) (hg : Gl X x) (hm : X.mg x = none) (hv : bootBuiltins x = some (.builtin id)) (ha : RA X (e :: es) fs) (hn : x ≠ "__name__" := by decide) (hdb : (x == ("__debug__" : Str)) = false := by decide)
    (he : starEach (e :: es) X.env = (false, eval e X.env) :: starEach es X.env := by rfl) (hpl : (backTo pos (starEach es X.env)).any (·.1) = false := by rfl) : RE X (.Call (.Name x p) (e :: es) [] pos) (wCall g fs) :=
  pe_imp (pe_callB hc hg hm hv ha hn hdb he hpl) fun _ _ _ q => call_red q
theorem re_callTy (hc : CallR X (.type T) (rND X.K g)) (hg : Gl X x) (hm : X.mg x = none) (hv : bootBuiltins x = some (.type T)) (ha : RA X (e :: es) fs) (hn : x ≠ "__name__" := by decide) (hdb : (x == ("__debug__" : Str)) = false := by decide)
    (he : starEach (e :: es) X.env = (false, eval e X.env) :: starEach es X.env := by rfl) (hpl : (backTo pos (starEach es X.env)).any (·.1) = false := by rfl) : RE X (.Call (.Name x p) (e :: es) [] pos) (wCall g fs) :=
  pe_imp (pe_callTy hc hg hm hv ha hn hdb he hpl) fun _ _ _ q => call_red q
end
section
variable {X : Cx}
theorem rss1 {K : Frag} {m : List Addr} {H : Hp} {s : S} {xs : List V} (r : RSs K m H [s] xs) : ∃ x, xs = [x] ∧ RS K m H s x := by
  cases r with
  | cons r t =>
    cases t
    exact ⟨_, rfl, r⟩
theorem rss2 {K : Frag} {m : List Addr} {H : Hp} {s t : S} {xs : List V} (r : RSs K m H [s, t] xs) : ∃ x y, xs = [x, y] ∧ RS K m H s x ∧ RS K m H t y := by
  cases r with
  | cons r q =>
    cases q with
    | cons q w =>
      cases w
      exact ⟨_, _, rfl, r, q⟩
def d1 (g : S → Mu → Option D) : GN := fun ss mu => match ss with
  | [s] => g s mu
  | _ => none
theorem d1_inv {g : S → Mu → Option D} {ss : List S} {mu : Mu} {d : D} (e : d1 g ss mu = some d) : ∃ s, ss = [s] ∧ g s mu = some d := by
  unfold d1 at e
  split at e
  · exact ⟨_, rfl, e⟩
  · cases e
/-! len -/
def dLen : GN := d1 fun s mu => match s with
  | .d (.str z) => if z.length ≤ sizeLine then some (.int z.length) else none
  | s => (rdQ s mu).map fun ds => .int (ds.length : Nat)
theorem cr_len : CallR X (.builtin "len") (rND X.K dLen) := by
  refine callr_imp (CallR.or call_len_str call_len_seq) fun xs H Q q => ?_
  obtain ⟨ex, m, mu, ss, d, cf, rs, e, k⟩ := q
  obtain ⟨s, rfl, e0⟩ := d1_inv e
  clear e
  have e := e0
  clear e0
  obtain ⟨x, rfl, r⟩ := rss1 rs
  split at e
  · split at e
    · cases e
      exact .inl ⟨_, by rw [rs_str r], by assumption, k _ _ (grown_refl cf) (r_int _)⟩
    · cases e
  · obtain ⟨ds, e1, rfl⟩ := Option.map_eq_some_iff.mp e
    obtain ⟨a, vs, rfl, hq, g⟩ := rdQ_ok cf r e1
    refine .inr ⟨a, vs, rfl, hq, ?_⟩
    rw [← g.length]
    exact k _ _ (grown_refl cf) (r_int _)
/-! tuple, list of a list, a tuple -/
theorem rdQ_ok2 {K : Frag} {ex m : List Addr} {mu : Mu} {H : Hp} {s : S} {x : V} {ds : List D} (cf : Cfg K ex m mu H) (r : RS K m (vw ex m mu H) s x) (e : rdQ s mu = some ds) :
    (∃ a vs, x = .ref a ∧ H a = some (.lst vs) ∧ Rs K (vw ex m mu H) ds vs) ∨ (s = .d (.tup ds) ∧ ∃ a vs, x = .ref a ∧ SqT K H a vs ∧ Rs K (vw ex m mu H) ds vs) := by
  unfold rdQ at e
  split at e
  · cases e
    exact .inr ⟨rfl, rs_tup r⟩
  · exact .inl (rdL_ok cf r e)
def dTuple : GN := d1 fun s mu => (rdQ s mu).map D.tup
theorem cr_tuple : CallR X (.type "tuple") (rND X.K dTuple) := by
  refine callr_imp call_tuple_of fun xs H Q q => ?_
  obtain ⟨ex, m, mu, ss, d, cf, rs, e, k⟩ := q
  obtain ⟨s, rfl, e0⟩ := d1_inv e
  clear e
  have e := e0
  clear e0
  obtain ⟨x, rfl, r⟩ := rss1 rs
  obtain ⟨ds, e1, rfl⟩ := Option.map_eq_some_iff.mp e
  rcases rdQ_ok2 cf r e1 with ⟨a, vs, rfl, h, g⟩ | ⟨rfl, a, vs, rfl, h, g⟩
  · exact ⟨a, vs, rfl, .inl ⟨SqL.of h, fun p hp => k _ _ (grown cf hp) (new_tup cf hp g)⟩⟩
  · exact ⟨a, vs, rfl, .inr ⟨h, k _ _ (grown_refl cf) r⟩⟩
def dList : GN := d1 fun s mu => (rdQ s mu).map D.lst
theorem cr_list : CallR X (.type "list") (rND X.K dList) := by
  refine callr_imp call_list_of fun xs H Q q => ?_
  obtain ⟨ex, m, mu, ss, d, cf, rs, e, k⟩ := q
  obtain ⟨s, rfl, e0⟩ := d1_inv e
  clear e
  have e := e0
  clear e0
  obtain ⟨x, rfl, r⟩ := rss1 rs
  obtain ⟨ds, e1, rfl⟩ := Option.map_eq_some_iff.mp e
  obtain ⟨a, vs, rfl, hq, g⟩ := rdQ_ok cf r e1
  exact ⟨a, vs, rfl, hq, fun p hp => k _ _ (grown cf hp) (new_lst cf hp g)⟩
/-! all, any -/
def asBs : List D → Option (List Bool)
  | [] => some []
  | .bl b :: ds => (asBs ds).map (b :: ·)
  | _ :: _ => none
theorem asBs_ok {K : Frag} {H : Hp} : ∀ {ds : List D} {vs : List V} {bs : List Bool}, Rs K H ds vs → asBs ds = some bs → vs = bs.map V.bl
  | [], vs, bs, r, e => by
    cases e
    rw [r.inv0]
    rfl
  | d :: ds, vs, bs, r, e => by
    obtain ⟨v, us, rfl, h2, h3⟩ := r.inv
    cases d <;> first
      | cases e
      | (obtain ⟨bs', e1, rfl⟩ := Option.map_eq_some_iff.mp e
         simp only [R] at h2
         rw [h2, asBs_ok h3 e1]
         rfl)
def dAll : GN := d1 fun s mu => (rdL s mu).bind fun ds => (asBs ds).map fun bs => .bl (bs.all id)
def dAny : GN := d1 fun s mu => (rdL s mu).bind fun ds => (asBs ds).map fun bs => .bl (bs.any id)
theorem cr_dAll (hc : X.calm = true) : CallR X (.builtin "all") (rND X.K dAll) := by
  refine callr_imp (cr_all hc) fun xs H Q q => ?_
  obtain ⟨ex, m, mu, ss, d, cf, rs, e, k⟩ := q
  obtain ⟨s, rfl, e0⟩ := d1_inv e
  clear e
  have e := e0
  clear e0
  obtain ⟨x, rfl, r⟩ := rss1 rs
  obtain ⟨ds, e1, e⟩ := Option.bind_eq_some_iff.mp e
  obtain ⟨bs, e2, rfl⟩ := Option.map_eq_some_iff.mp e
  obtain ⟨a, vs, rfl, h, g⟩ := rdL_ok cf r e1
  obtain rfl := asBs_ok g e2
  exact ⟨a, bs, rfl, SqL.of h, k _ _ (grown_refl cf) (r_bl _)⟩
theorem cr_dAny (hc : X.calm = true) : CallR X (.builtin "any") (rND X.K dAny) := by
  refine callr_imp (cr_any hc) fun xs H Q q => ?_
  obtain ⟨ex, m, mu, ss, d, cf, rs, e, k⟩ := q
  obtain ⟨s, rfl, e0⟩ := d1_inv e
  clear e
  have e := e0
  clear e0
  obtain ⟨x, rfl, r⟩ := rss1 rs
  obtain ⟨ds, e1, e⟩ := Option.bind_eq_some_iff.mp e
  obtain ⟨bs, e2, rfl⟩ := Option.map_eq_some_iff.mp e
  obtain ⟨a, vs, rfl, h, g⟩ := rdL_ok cf r e1
  obtain rfl := asBs_ok g e2
  exact ⟨a, bs, rfl, SqL.of h, k _ _ (grown_refl cf) (r_bl _)⟩
/-! numbers -/
def dInt1 : GN := d1 fun s _ => match s with
  | .d (.int i) => some (.int i)
  | .d (.bl b) => some (.int (if b then 1 else 0))
  | _ => none
theorem cr_int : CallR X (.type "int") (rND X.K dInt1) := by
  refine callr_imp call_int1 fun xs H Q q => ?_
  obtain ⟨ex, m, mu, ss, d, cf, rs, e, k⟩ := q
  obtain ⟨s, rfl, e0⟩ := d1_inv e
  clear e
  have e := e0
  clear e0
  obtain ⟨x, rfl, r⟩ := rss1 rs
  split at e
  · cases e
    exact .inl ⟨_, by rw [rs_int r], k _ _ (grown_refl cf) (r_int _)⟩
  · cases e
    exact .inr ⟨_, by rw [rs_bool r], k _ _ (grown_refl cf) (r_int _)⟩
  · cases e
def dAbs : GN := d1 fun s _ => match s with
  | .d (.int i) => some (.int (if i < 0 then -i else i))
  | _ => none
theorem cr_abs : CallR X (.builtin "abs") (rND X.K dAbs) := by
  refine callr_imp call_abs fun xs H Q q => ?_
  obtain ⟨ex, m, mu, ss, d, cf, rs, e, k⟩ := q
  obtain ⟨s, rfl, e0⟩ := d1_inv e
  clear e
  have e := e0
  clear e0
  obtain ⟨x, rfl, r⟩ := rss1 rs
  split at e
  · cases e
    exact ⟨_, by rw [rs_int r], k _ _ (grown_refl cf) (r_int _)⟩
  · cases e
/-! sorted of texts, of whole numbers -/
def asStrs : List D → Option (List Str)
  | [] => some []
  | .str b :: ds => (asStrs ds).map (b :: ·)
  | _ :: _ => none
def asInts : List D → Option (List Int)
  | [] => some []
  | .int b :: ds => (asInts ds).map (b :: ·)
  | _ :: _ => none
theorem asStrs_ok {K : Frag} {H : Hp} : ∀ {ds : List D} {vs : List V} {bs : List Str}, Rs K H ds vs → asStrs ds = some bs → vs = bs.map V.str
  | [], vs, bs, r, e => by
    cases e
    rw [r.inv0]
    rfl
  | d :: ds, vs, bs, r, e => by
    obtain ⟨v, us, rfl, h2, h3⟩ := r.inv
    cases d <;> first
      | cases e
      | (obtain ⟨bs', e1, rfl⟩ := Option.map_eq_some_iff.mp e
         simp only [R] at h2
         rw [h2, asStrs_ok h3 e1]
         rfl)
theorem asInts_ok {K : Frag} {H : Hp} : ∀ {ds : List D} {vs : List V} {bs : List Int}, Rs K H ds vs → asInts ds = some bs → vs = bs.map V.int
  | [], vs, bs, r, e => by
    cases e
    rw [r.inv0]
    rfl
  | d :: ds, vs, bs, r, e => by
    obtain ⟨v, us, rfl, h2, h3⟩ := r.inv
    cases d <;> first
      | cases e
      | (obtain ⟨bs', e1, rfl⟩ := Option.map_eq_some_iff.mp e
         simp only [R] at h2
         rw [h2, asInts_ok h3 e1]
         rfl)
theorem asStrs_map : ∀ (ss : List Str), asStrs (ss.map D.str) = some ss
  | [] => rfl
  | s :: ss => by
    show (asStrs (ss.map D.str)).map (s :: ·) = _
    rw [asStrs_map ss]
    rfl
theorem asInts_map : ∀ (ss : List Int), asInts (ss.map D.int) = some ss
  | [] => rfl
  | s :: ss => by
    show (asInts (ss.map D.int)).map (s :: ·) = _
    rw [asInts_map ss]
    rfl
end
end DL
set_option Elab.async false
set_option linter.all false
set_option maxRecDepth 100000
set_option maxHeartbeats 1000000
namespace DL
open PySem PySem.Spec L2

/-! ### the order of texts -/
theorem str_ext {a b : Str} (h : a.cps.toList = b.cps.toList) : a = b := by
  obtain ⟨⟨l⟩⟩ := a
  obtain ⟨⟨r⟩⟩ := b
  simp only at h
  rw [h]
theorem strLt_irrefl (a : Str) : strLt a a = false := decide_eq_false (List.lt_irrefl _)
theorem strLt_trans {a b c : Str} (h : strLt a b = true) (g : strLt b c = true) : strLt a c = true :=
  decide_eq_true (List.lt_trans (of_decide_eq_true h) (of_decide_eq_true g))
theorem strLt_asymm {a b : Str} (h : strLt a b = true) : strLt b a = false := by
  cases e : strLt b a with
  | false => rfl
  | true =>
    have := strLt_trans h e
    rw [strLt_irrefl] at this
    cases this
theorem strLt_total {a b : Str} (h : strLt a b = false) (g : strLt b a = false) : a = b := by
  have h1 := of_decide_eq_false h
  have h2 := of_decide_eq_false g
  exact str_ext (List.le_antisymm (List.not_lt.mp h2) (List.not_lt.mp h1))
theorem strLe_trans {a b c : Str} (h : strLt b a = false) (g : strLt c b = false) : strLt c a = false := by
  cases e : strLt c a with
  | false => rfl
  | true =>
    cases e2 : strLt a b with
    | true =>
      have := strLt_trans e e2
      rw [g] at this
      cases this
    | false =>
      have := strLt_total e2 h
      subst this
      rw [g] at e
      cases e
def insS (x : Str) : List Str → List Str
  | [] => [x]
  | y :: r => if strLt y x then y :: insS x r else x :: y :: r
def sortS : List Str → List Str
  | [] => []
  | x :: r => insS x (sortS r)
theorem insS_perm (x : Str) : ∀ l : List Str, (insS x l).Perm (x :: l)
  | [] => .refl _
  | y :: r => by
    unfold insS
    split
    · exact ((insS_perm x r).cons y).trans (.swap ..)
    · exact .refl _
theorem sortS_perm : ∀ l : List Str, (sortS l).Perm l
  | [] => .refl _
  | x :: r => (insS_perm x (sortS r)).trans ((sortS_perm r).cons x)
abbrev StrLe (a b : Str) : Prop := strLt b a = false
theorem insS_pair {x : Str} : ∀ {l : List Str}, l.Pairwise StrLe → (insS x l).Pairwise StrLe
  | [], _ => by
    unfold insS
    exact List.pairwise_singleton ..
  | y :: r, h => by
    obtain ⟨h1, h2⟩ := List.pairwise_cons.mp h
    unfold insS
    split
    · rename_i c
      refine List.pairwise_cons.mpr ⟨fun z hz => ?_, insS_pair h2⟩
      rcases List.mem_cons.mp ((insS_perm x r).mem_iff.mp hz) with e | e
      · subst e
        exact strLt_asymm c
      · exact h1 z e
    · rename_i c
      have c' : strLt y x = false := by simpa using c
      refine List.pairwise_cons.mpr ⟨fun z hz => ?_, h⟩
      rcases List.mem_cons.mp hz with e | e
      · subst e
        exact c'
      · exact strLe_trans c' (h1 z e)
theorem sortS_pair : ∀ l : List Str, (sortS l).Pairwise StrLe
  | [] => .nil
  | x :: r => insS_pair (sortS_pair r)
theorem pair_unique : ∀ {a b : List Str}, a.Perm b → a.Pairwise StrLe → b.Pairwise StrLe → a = b
  | [], b, p, _, _ => p.nil_eq
  | x :: r, [], p, _, _ => by
    have := p.length_eq
    simp at this
  | x :: r, y :: t, p, h, g => by
    obtain ⟨h1, h2⟩ := List.pairwise_cons.mp h
    obtain ⟨g1, g2⟩ := List.pairwise_cons.mp g
    have e : x = y := by
      have m1 : x ∈ y :: t := p.mem_iff.mp (List.mem_cons_self ..)
      have m2 : y ∈ x :: r := p.mem_iff.mpr (List.mem_cons_self ..)
      rcases List.mem_cons.mp m1 with e | e
      · exact e
      · rcases List.mem_cons.mp m2 with e2 | e2
        · exact e2.symm
        · exact strLt_total (g1 x e) (h1 y e2)
    subst e
    rw [pair_unique (List.Perm.cons_inv p) h2 g2]
theorem rising_pair : ∀ (p : Str) (l : List Str), PyProof.Rows.risingS p l = true → (p :: l).Pairwise StrLe
  | p, [], _ => List.pairwise_singleton ..
  | p, x :: r, h => by
    have h' : (!ltCps x.cps.toList p.cps.toList && PyProof.Rows.risingS x r) = true := h
    rw [Bool.and_eq_true] at h'
    have ih := rising_pair x r h'.2
    have hx : StrLe p x := by
      have h1 := h'.1
      rw [PyProof.Rows.ltCps_eq] at h1
      show decide (x.cps.toList < p.cps.toList) = false
      cases e : decide (x.cps.toList < p.cps.toList) with
      | false => rfl
      | true =>
        rw [e] at h1
        cases h1
    refine List.pairwise_cons.mpr ⟨fun z hz => ?_, ih⟩
    rcases List.mem_cons.mp hz with e | e
    · subst e
      exact hx
    · exact strLe_trans hx ((List.pairwise_cons.mp ih).1 z e)
theorem sortedS_pair : ∀ (l : List Str), PyProof.Rows.sortedS l = true → l.Pairwise StrLe
  | [], _ => .nil
  | x :: r, h => rising_pair x r h
theorem sorted_is {xs ys : List Str} (p : ys.Perm xs) (h : PyProof.Rows.sortedS ys = true) : ys = sortS xs :=
  pair_unique (p.trans (sortS_perm xs).symm) (sortedS_pair ys h) (sortS_pair xs)
theorem sortS_length (xs : List Str) : (sortS xs).length = xs.length := (sortS_perm xs).length_eq
theorem sortS_mem {x : Str} {xs : List Str} : x ∈ sortS xs ↔ x ∈ xs := (sortS_perm xs).mem_iff
theorem sortS_same {xs ys : List Str} (p : xs.Perm ys) : sortS xs = sortS ys := pair_unique ((sortS_perm xs).trans (p.trans (sortS_perm ys).symm)) (sortS_pair xs) (sortS_pair ys)
theorem sortS_id {xs : List Str} (p : xs.Pairwise StrLe) : sortS xs = xs := pair_unique (sortS_perm xs) (sortS_pair xs) p

section
variable {X : Cx}
theorem callr_or {f : Value} {r r' : List V → Hp → VK → Prop} (h : CallR X f r) (h' : CallR X f r') : CallR X f (fun xs H Q => r xs H Q ∨ r' xs H Q) := CallR.or h h'
/-- sorted of a list of texts (fewer than 64) -/
def dSortS : GN := d1 fun s mu => (rdL s mu).bind fun ds => (asStrs ds).bind fun ss => if ss.length < 64 then some (.lst ((sortS ss).map D.str)) else none
theorem cr_dSortS : CallR X (.builtin "sorted") (rND X.K dSortS) := by
  refine callr_imp cr_sortedS fun xs H Q q => ?_
  obtain ⟨ex, m, mu, ss, d, cf, rs, e0, k⟩ := q
  obtain ⟨s, rfl, e⟩ := d1_inv e0
  clear e0
  obtain ⟨x, rfl, r⟩ := rss1 rs
  obtain ⟨ds, e1, e⟩ := Option.bind_eq_some_iff.mp e
  obtain ⟨ts, e2, e⟩ := Option.bind_eq_some_iff.mp e
  split at e
  · rename_i hl
    cases e
    obtain ⟨a, vs, rfl, h, g⟩ := rdL_ok cf r e1
    obtain rfl := asStrs_ok g e2
    refine ⟨a, ts, rfl, SqL.of h, hl, fun ys p py sy hp => ?_⟩
    rw [sorted_is py sy]
    exact k _ _ (grown cf hp) (new_lst cf hp (rs_strs _))
  · cases e
end

/-! ### a tuple sorted: sorted(one + other) of tuples -/
end DL
set_option Elab.async false
set_option linter.all false
set_option maxRecDepth 100000
set_option maxHeartbeats 1000000
namespace DL
open PySem PySem.Spec L2

section
variable {X : Cx} {pos : Pos} {a b c : Expr} {fa fb fc : WE}
/-! ### a < b < c -/
def wChain (g g' : G2) (fa fb fc : WE) : WE := fun sl mu Q => fa sl mu fun s1 mu1 => fb sl mu1 fun s2 mu2 => On (g s1 s2 mu2) fun d => match d with
  | .bl k => if k = true then fc sl mu2 fun s3 mu3 => On (g' s2 s3 mu3) fun d => Q (.d d) mu3 else Q (.d (.bl false)) mu2
  | _ => False
theorem chain_red {g g' : G2} {σ : L2.St} {H : Hp} {Q : VK} (q : tE X.K (wChain g g' fa fb fc) σ H Q) : tChain (r2D X.K g) (r2D X.K g') (tE X.K fa) (tE X.K fb) (tE X.K fc) σ H Q := by
  obtain ⟨ex, m, sl, mu, Qd, cf, sr, w, k⟩ := q
  refine seq2 cf sr w fun s1 s2 mu' m' H' v1 v2 cf' e' r1 r2 q => ?_
  obtain ⟨d, ed, q⟩ := On.elim q
  refine ⟨ex, m', mu', s1, s2, d, cf', r1, r2, ed, fun H2 v gr r => ?_⟩
  cases d <;> first
    | exact q.elim
    | skip
  rename_i b
  have r : v = .bl b := by simpa only [R] using r
  refine ⟨b, r, ?_⟩
  have e2 := e'.trans gr.2
  dsimp only at q
  cases b with
  | false =>
    rw [if_neg Bool.false_ne_true] at q ⊢
    exact k _ _ _ _ _ gr.1 e2 (rs_bl false) q
  | true =>
    rw [if_pos rfl] at q ⊢
    refine ⟨ex, m', sl, mu', _, gr.1, sr.ext e2, q, fun s3 mu3 m3 H3 v3 cf3 e3 r3 q3 => ?_⟩
    obtain ⟨d3, ed3, q3⟩ := On.elim q3
    exact ⟨ex, m3, mu3, s2, s3, d3, cf3, (r2.ext gr.2).ext e3, r3, ed3, fun H4 v4 g4 r4 => k (.d d3) _ _ _ _ g4.1 ((e2.trans e3).trans g4.2) r4 q3⟩
theorem re_chain {op op' : CmpOp} {g g' : G2} (ho : OpR X (compareOp op) (r2D X.K g)) (ho' : OpR X (compareOp op') (r2D X.K g')) (ha : RE X a fa) (hb : RE X b fb) (hc : RE X c fc)
    (hm : lastMarks [op, op'] [b, c] = false := by with_unfolding_all rfl) : RE X (.Compare a [op, op'] [b, c] pos) (wChain g g' fa fb fc) :=
  pe_imp (pe_chain ho ho' ha hb hc hm) fun _ _ _ q => chain_red q
theorem rt_chain {op op' : CmpOp} {g g' : G2} (ho : OpR X (compareOp op) (r2D X.K g)) (ho' : OpR X (compareOp op') (r2D X.K g')) (ha : RE X a fa) (hb : RE X b fb) (hc : RE X c fc)
    (hm : lastMarks [op, op'] [b, c] = false := by with_unfolding_all rfl) : RT X (.Compare a [op, op'] [b, c] pos) (wB (wChain g g' fa fb fc)) := by
  refine pt_imp (pt_chain ho ho' ha hb hc hm) fun σ H Q q => ?_
  obtain ⟨ex, m, sl, mu, Qd, cf, sr, w, k⟩ := q
  refine chain_red ⟨ex, m, sl, mu, _, cf, sr, w, fun s mu1 m1 H1 v cf1 e1 r1 q1 => ?_⟩
  cases s with
  | h _ => exact q1.elim
  | d x =>
    cases x <;> first
      | exact q1.elim
      | (rename_i c
         have r1 : v = .bl c := by simpa only [RS, R] using r1
         exact ⟨c, r1, k _ _ _ _ cf1 e1 q1⟩)

/-! ### subscripts -/
def dIx : G2 := fun s1 s2 mu => match s1, s2 with
  | .d (.str z), .d (.int i) => if z.length ≤ sizeLine then (atI z.cps.toList i).map fun c => .str ⟨#[c]⟩ else none
  | s1, .d (.int i) => (rdQ s1 mu).bind fun ds => atI ds i
  | _, _ => none
theorem atI_rel {K : Frag} {H : Hp} {ds : List D} {vs : List V} {i : Int} {d : D} (r : Rs K H ds vs) (e : atI ds i = some d) : ∃ v, atI vs i = some v ∧ R K H d v := by
  unfold atI at e ⊢
  rw [← r.length]
  cases ej : ixN ds.length i with
  | none =>
    rw [ej] at e
    cases e
  | some j =>
    rw [ej] at e
    exact r.get e
theorem ix_any : IxR X (r2D X.K dIx) := by
  refine ixr_imp (IxR.or ix_str (IxR.or ix_list ix_tup)) fun x y H Q q => ?_
  obtain ⟨ex, m, mu, s1, s2, d, cf, r1, r2, e, k⟩ := q
  unfold dIx at e
  split at e
  · split at e
    · rename_i hz
      obtain ⟨c, ec, rfl⟩ := Option.map_eq_some_iff.mp e
      exact .inl ⟨_, _, c, rs_str r1, rs_int r2, hz, ec, k _ _ (grown_refl cf) (r_str _)⟩
    · cases e
  · obtain ⟨ds, e1, e2⟩ := Option.bind_eq_some_iff.mp e
    rcases rdQ_ok2 cf r1 e1 with ⟨a, vs, rfl, h, g⟩ | ⟨_, a, vs, rfl, h, g⟩
    · obtain ⟨v, ev, rv⟩ := atI_rel g e2
      exact .inr (.inl ⟨a, vs, _, v, rfl, rs_int r2, SqL.of h, ev, k _ _ (grown_refl cf) rv⟩)
    · obtain ⟨v, ev, rv⟩ := atI_rel g e2
      exact .inr (.inr ⟨a, vs, _, v, rfl, rs_int r2, h, ev, k _ _ (grown_refl cf) rv⟩)
  · cases e
theorem re_ix (ha : RE X a fa) (hb : RE X b fb) (hs : PlainIx b) : RE X (.Subscript a b pos) (wBin dIx fa fb) :=
  pe_imp (pe_ix ix_any ha hb hs) fun _ _ _ q => bin_red q

/-! ### slices -/
abbrev WO := Sl → Mu → (Option Int → Mu → Prop) → Prop
def tOd (K : Frag) (f : WO) : L2.TO := fun σ H Q => ∃ ex m sl mu Qd, Cfg K ex m mu H ∧ SlR K m (vw ex m mu H) sl σ ∧ f sl mu Qd ∧
  ∀ o mu' m' H', Cfg K ex m' mu' H' → Ext ex m mu H m' mu' H' → Qd o mu' → Q o H'
def RO (X : Cx) (e : Option Expr) (f : WO) : Prop := PO X e (tOd X.K f)
def wNoPart : WO := fun _ mu Q => Q none mu
def wPart (f : WE) : WO := fun sl mu Q => f sl mu fun s mu1 => match s with
  | .d (.int i) => Q (some i) mu1
  | _ => False
theorem ro_none : RO X none wNoPart := ⟨fun pins s σ H Q I q => by
  obtain ⟨ex, m, sl, mu, Qd, cf, sr, w, k⟩ := q
  exact po_none.run pins s σ H Q I (k _ _ _ _ cf Ext.refl w)⟩
theorem ro_some (h : RE X a fa) : RO X (some a) (wPart fa) := ⟨fun pins s σ H Q I q => by
  obtain ⟨ex, m, sl, mu, Qd, cf, sr, w, k⟩ := q
  refine (po_some h).run pins s σ H Q I ⟨ex, m, sl, mu, _, cf, sr, w, fun s mu1 m1 H1 v cf1 e1 r1 q1 => ?_⟩
  split at q1
  · exact ⟨_, rs_int r1, k _ _ _ _ cf1 e1 q1⟩
  · exact q1.elim⟩
/-- the items of xs[lo:hi] -/
def cutD {α : Type} (xs : List α) (lo hi : Option Int) : List α := (xs.drop (HT.sIx xs.length 0 lo)).take (HT.sIx xs.length xs.length hi - HT.sIx xs.length 0 lo)
theorem cutD_rel {K : Frag} {H : Hp} {ds : List D} {vs : List V} (lo hi : Option Int) (r : Rs K H ds vs) : Rs K H (cutD ds lo hi) (cutV vs lo hi) := by
  unfold cutD cutV
  rw [← r.length]
  exact Rs.take _ (Rs.drop _ r)
theorem cutD_all {α : Type} {xs : List α} {lo hi : Option Int} (h1 : HT.sIx xs.length 0 lo = 0) (h2 : HT.sIx xs.length xs.length hi = xs.length) : cutD xs lo hi = xs := by
  unfold cutD
  rw [h1, h2]
  simp
def dSlice (s : S) (lo hi : Option Int) (mu : Mu) : Option D := match s with
  | .d (.str z) => if z.length ≤ sizeLine then some (.str (cutS z lo hi)) else none
  | .d (.tup ds) => some (.tup (cutD ds lo hi))
  | s => (rdL s mu).map fun ds => .lst (cutD ds lo hi)
def wSlice (fa : WE) (fl fh : WO) : WE := fun sl mu Q => fa sl mu fun s mu1 => fl sl mu1 fun lo mu2 => fh sl mu2 fun hi mu3 => On (dSlice s lo hi mu3) fun d => Q (.d d) mu3
theorem re_slice {lo hi : Option Expr} {fl fh : WO} {p2 : Pos} (ha : RE X a fa) (hl : RO X lo fl) (hh : RO X hi fh) : RE X (.Subscript a (.Slice lo hi none p2) pos) (wSlice fa fl fh) := by
  refine pe_imp (pe_slice (SlR.or sl_str (SlR.or sl_list sl_tupA)) ha hl hh) fun σ H Q q => ?_
  obtain ⟨ex, m, sl, mu, Qd, cf, sr, w, k⟩ := q
  refine ⟨ex, m, sl, mu, _, cf, sr, w, fun s mu1 m1 H1 v cf1 e1 r1 q1 => ?_⟩
  refine ⟨ex, m1, sl, mu1, _, cf1, sr.ext e1, q1, fun l mu2 m2 H2 cf2 e2 q2 => ?_⟩
  refine ⟨ex, m2, sl, mu2, _, cf2, sr.ext (e1.trans e2), q2, fun u mu3 m3 H3 cf3 e3 q3 => ?_⟩
  obtain ⟨d, ed, q3⟩ := On.elim q3
  have r3 := (r1.ext e2).ext e3
  have ee := (e1.trans e2).trans e3
  unfold dSlice at ed
  split at ed
  · split at ed
    · rename_i hz
      cases ed
      exact .inl ⟨_, rs_str r3, hz, k (.d (.str _)) _ _ _ _ cf3 ee (by simp only [RS, R]) q3⟩
    · cases ed
  · cases ed
    obtain ⟨p, vs, rfl, h, g⟩ := rs_tup r3
    refine .inr (.inr ⟨p, vs, rfl, h, fun z => ?_, fun _ n hn => ?_⟩)
    · refine k (.d (.tup _)) _ _ _ _ cf3 ee ?_ q3
      rw [cutD_all (by rw [g.length]; exact z.1) (by rw [g.length]; exact z.2)]
      exact r3
    · have gr := grown (o := .tup (cutV vs l u)) cf3 hn
      exact k (.d (.tup _)) _ _ _ _ gr.1 (ee.trans gr.2) (new_tup cf3 hn (cutD_rel l u g)) q3
  · obtain ⟨ds, e1, rfl⟩ := Option.map_eq_some_iff.mp ed
    obtain ⟨p, vs, rfl, h, g⟩ := rdL_ok cf3 r3 e1
    refine .inr (.inl ⟨p, vs, rfl, SqL.of h, fun n hn => ?_⟩)
    have gr := grown (o := .lst (cutV vs l u)) cf3 hn
    exact k (.d (.lst _)) _ _ _ _ gr.1 (ee.trans gr.2) (new_lst cf3 hn (cutD_rel l u g)) q3
/-- xs[::-1] -/
def dRev : G1 := fun s mu => (rdL s mu).map fun ds => .lst ds.reverse
theorem re_rev {k : Nat} {p1 p2 p3 : Pos} (ha : RE X a fa) : RE X (.Subscript a (.Slice none none (some (.UnaryOp .USub (.Constant (.int 1) k p1) p2)) p3) pos) (wUn dRev fa) := by
  refine pe_imp (pe_revL ha) fun σ H Q q => ?_
  obtain ⟨ex, m, sl, mu, Qd, cf, sr, w, k⟩ := q
  refine ⟨ex, m, sl, mu, _, cf, sr, w, fun s mu1 m1 H1 v cf1 e1 r1 q1 => ?_⟩
  obtain ⟨d, ed, q⟩ := On.elim q1
  obtain ⟨ds, e2, rfl⟩ := Option.map_eq_some_iff.mp ed
  obtain ⟨p, vs, rfl, h, g⟩ := rdL_ok cf1 r1 e2
  refine ⟨p, vs, rfl, SqL.of h, fun n hn => ?_⟩
  have gr := grown (o := .lst vs.reverse) cf1 hn
  exact k (.d (.lst _)) _ _ _ _ gr.1 (e1.trans gr.2) (new_lst cf1 hn g.reverse) q

/-! ### displays -/
def allD : List S → Option (List D)
  | [] => some []
  | .d x :: r => (allD r).map (x :: ·)
  | .h _ :: _ => none
theorem allD_ok {K : Frag} {m : List Addr} {H : Hp} : ∀ {ss : List S} {vs : List V} {ds : List D}, RSs K m H ss vs → allD ss = some ds → Rs K H ds vs
  | [], vs, ds, r, e => by
    cases e
    cases r
    exact Rs.nil
  | .h _ :: _, _, _, _, e => by cases e
  | .d x :: ss, vs, ds, r, e => by
    cases r with
    | cons r t =>
      obtain ⟨ds', e1, rfl⟩ := Option.map_eq_some_iff.mp (show (allD ss).map (x :: ·) = some ds from e)
      exact Rs.cons r (allD_ok t e1)
def dDisp (f : List D → D) : GN := fun ss _ => if ss.length ≤ sizeLine then (allD ss).map f else none
variable {es : List Expr} {fs : WA}
theorem re_tup {x1} (h : RA X es fs) : RE X (.Tuple es x1 pos) (wCall (dDisp D.tup) fs) := by
  refine pe_imp (pe_tup h) fun σ H Q q => ?_
  obtain ⟨ex, m, sl, mu, Qd, cf, sr, w, k⟩ := q
  refine ⟨ex, m, sl, mu, _, cf, sr, w, fun ss mu1 m1 H1 vs cf1 e1 r1 q1 => ?_⟩
  obtain ⟨d, ed, q1⟩ := On.elim q1
  unfold dDisp at ed
  split at ed
  · rename_i hl
    obtain ⟨ds, e2, rfl⟩ := Option.map_eq_some_iff.mp ed
    refine ⟨by rw [← Paired.length r1]; exact hl, fun p hp => ?_⟩
    have gr := grown (o := .tup vs) cf1 hp
    exact k (.d (.tup ds)) _ _ _ _ gr.1 (e1.trans gr.2) (new_tup cf1 hp (allD_ok r1 e2)) q1
  · cases ed
theorem re_lst (h : RA X es fs) : RE X (.List es pos) (wCall (dDisp D.lst) fs) := by
  refine pe_imp (pe_lst h) fun σ H Q q => ?_
  obtain ⟨ex, m, sl, mu, Qd, cf, sr, w, k⟩ := q
  refine ⟨ex, m, sl, mu, _, cf, sr, w, fun ss mu1 m1 H1 vs cf1 e1 r1 q1 => ?_⟩
  obtain ⟨d, ed, q1⟩ := On.elim q1
  unfold dDisp at ed
  split at ed
  · rename_i hl
    obtain ⟨ds, e2, rfl⟩ := Option.map_eq_some_iff.mp ed
    refine ⟨by rw [← Paired.length r1]; exact hl, fun p hp => ?_⟩
    have gr := grown (o := .lst vs) cf1 hp
    exact k (.d (.lst ds)) _ _ _ _ gr.1 (e1.trans gr.2) (new_lst cf1 hp (allD_ok r1 e2)) q1
  · cases ed
end

/-! ### things that change: a new one -/
theorem lv_new {m : List Addr} {mu : Mu} {p : Addr} {mo : MO} (hl : m.length = mu.length) {q : Addr} : Lv (m ++ [p]) (mu ++ [some mo]) q ↔ Lv m mu q ∨ q = p := by
  constructor
  · rintro ⟨k, mo', h1, h2⟩
    by_cases hk : k < m.length
    · rw [List.getElem?_append_left hk] at h1
      rw [List.getElem?_append_left (by omega)] at h2
      exact .inl ⟨k, mo', h1, h2⟩
    · rw [List.getElem?_append_right (by omega)] at h1
      have : k - m.length = 0 := by
        have := (List.getElem?_eq_some_iff.mp h1).1
        simp at this
        omega
      rw [this] at h1
      simp at h1
      exact .inr h1.symm
  · rintro (⟨k, mo', h1, h2⟩ | rfl)
    · exact ⟨k, mo', by rw [List.getElem?_append_left (List.getElem?_eq_some_iff.mp h1).1]; exact h1, by rw [List.getElem?_append_left (List.getElem?_eq_some_iff.mp h2).1]; exact h2⟩
    · exact ⟨m.length, mo, by simp, by rw [hl]; simp⟩
theorem vw_add {K : Frag} {ex m : List Addr} {mu : Mu} {H : Hp} {p : Addr} {o : HO} {mo : MO} (cf : Cfg K ex m mu H) (hn : H p = none) : Same (vw ex m mu H) (vw ex (m ++ [p]) (mu ++ [some mo]) (upd H p o)) := fun b u h => by
  obtain ⟨h1, h2, h3⟩ := vw_some.mp h
  have nb := ne_of_none h3 hn
  refine vw_some.mpr ⟨h1, fun z => ?_, by rw [upd_ne nb]; exact h3⟩
  rcases (lv_new cf.len).mp z with z | z
  · exact h2 z
  · exact nb z
theorem Cfg.add {K : Frag} {ex m : List Addr} {mu : Mu} {H : Hp} {p : Addr} {o : HO} {mo : MO} (cf : Cfg K ex m mu H) (hn : H p = none) (r : RM K m (vw ex m mu H) mo o) :
    Cfg K ex (m ++ [p]) (mu ++ [some mo]) (upd H p o) ∧ Ext ex m mu H (m ++ [p]) (mu ++ [some mo]) (upd H p o) := by
  have nx : ∀ a, (∃ u, H a = some u) → a ≠ p := fun a ⟨u, e⟩ => ne_of_none e hn
  have sm : Same (vw ex m mu H) (vw ex (m ++ [p]) (mu ++ [some mo]) (upd H p o)) := vw_add cf hn
  refine ⟨⟨by rw [List.length_append, List.length_append, cf.len]; rfl, ?_, fun a ha => ?_, fun a ha => ?_, fun a ha z => ?_, fun k mo' e => ?_⟩, ⟨⟨[p], rfl⟩, sm, fun a ha => upd_ne (nx a (cf.exH a ha))⟩⟩
  · rw [List.nodup_append]
    refine ⟨cf.nd, by simp, fun a ha b hb => ?_⟩
    rw [List.mem_singleton] at hb
    rw [hb]
    exact nx a (cf.tr a ha)
  · rcases List.mem_append.mp ha with z | z
    · rw [upd_ne (nx a (cf.tr a z))]
      exact cf.tr a z
    · rw [List.mem_singleton] at z
      rw [z]
      exact ⟨o, upd_same⟩
  · rw [upd_ne (nx a (cf.exH a ha))]
    exact cf.exH a ha
  · rcases List.mem_append.mp z with z | z
    · exact cf.exd a ha z
    · rw [List.mem_singleton] at z
      exact nx a (cf.exH a ha) z
  · by_cases hk : k < mu.length
    · rw [List.getElem?_append_left hk] at e
      obtain ⟨a, u, h1, h2, h3⟩ := cf.st k mo' e
      exact ⟨a, u, by rw [List.getElem?_append_left (by rw [cf.len]; exact hk)]; exact h1, by rw [upd_ne (nx a ⟨u, h2⟩)]; exact h2, h3.mono sm⟩
    · rw [List.getElem?_append_right (by omega)] at e
      have hk0 : k - mu.length = 0 := by
        have := (List.getElem?_eq_some_iff.mp e).1
        simp at this
        omega
      rw [hk0] at e
      simp at e
      subst e
      have hk1 : k = m.length := by
        rw [cf.len]
        omega
      exact ⟨p, o, by rw [hk1]; simp, upd_same, r.mono sm⟩
/-- .. changed -/
theorem vw_chg {ex m : List Addr} {mu : Mu} {H : Hp} {k : Nat} {a : Addr} {o : HO} {mo mo' : MO} (h1 : m[k]? = some a) (h2 : mu[k]? = some (some mo)) : vw ex m (mu.set k (some mo')) (upd H a o) = vw ex m mu H := by
  have lk : k < mu.length := (List.getElem?_eq_some_iff.mp h2).1
  have lv : ∀ q, Lv m (mu.set k (some mo')) q ↔ Lv m mu q := by
    intro q
    constructor
    · rintro ⟨j, u, e1, e2⟩
      by_cases hj : k = j
      · subst hj
        exact ⟨k, mo, e1, h2⟩
      · rw [List.getElem?_set_ne hj] at e2
        exact ⟨j, u, e1, e2⟩
    · rintro ⟨j, u, e1, e2⟩
      by_cases hj : k = j
      · subst hj
        exact ⟨k, mo', e1, List.getElem?_set_self lk⟩
      · exact ⟨j, u, e1, by rw [List.getElem?_set_ne hj]; exact e2⟩
  funext q
  unfold vw
  by_cases hq : q = a
  · subst hq
    have l0 : Lv m mu q := ⟨k, mo, h1, h2⟩
    rw [if_pos (.inr ((lv q).mpr l0)), if_pos (.inr l0)]
  · rw [upd_ne hq]
    by_cases c : q ∈ ex ∨ Lv m mu q
    · rw [if_pos c, if_pos (c.imp id (lv q).mpr)]
    · rw [if_neg c, if_neg fun z => c (z.imp id (lv q).mp)]
theorem Cfg.chg {K : Frag} {ex m : List Addr} {mu : Mu} {H : Hp} {k : Nat} {a : Addr} {o : HO} {mo mo' : MO} (cf : Cfg K ex m mu H) (h1 : m[k]? = some a) (h2 : mu[k]? = some (some mo)) (r : RM K m (vw ex m mu H) mo' o) :
    Cfg K ex m (mu.set k (some mo')) (upd H a o) ∧ Ext ex m mu H m (mu.set k (some mo')) (upd H a o) := by
  have ma : a ∈ m := List.mem_of_getElem? h1
  have lk : k < mu.length := (List.getElem?_eq_some_iff.mp h2).1
  have tr : ∀ b, (∃ u, H b = some u) → ∃ u, (upd H a o) b = some u := fun b ⟨u, e⟩ => by
    by_cases hb : b = a
    · rw [hb]
      exact ⟨o, upd_same⟩
    · exact ⟨u, by rw [upd_ne hb]; exact e⟩
  refine ⟨⟨by rw [List.length_set]; exact cf.len, cf.nd, fun b hb => tr b (cf.tr b hb), fun b hb => tr b (cf.exH b hb), cf.exd, fun j u e => ?_⟩, ⟨⟨[], by simp⟩, by rw [vw_chg h1 h2]; exact Same.refl _, fun b hb => ?_⟩⟩
  · rw [vw_chg h1 h2]
    by_cases hj : k = j
    · subst hj
      rw [List.getElem?_set_self lk] at e
      cases e
      exact ⟨a, o, h1, upd_same, r⟩
    · rw [List.getElem?_set_ne hj] at e
      obtain ⟨b, v, g1, g2, g3⟩ := cf.st j u e
      refine ⟨b, v, g1, ?_, g3⟩
      rw [upd_ne fun z => ?_]
      · exact g2
      · subst z
        obtain ⟨q1, p1⟩ := List.getElem?_eq_some_iff.mp h1
        obtain ⟨q2, p2⟩ := List.getElem?_eq_some_iff.mp g1
        exact hj ((List.getElem_inj cf.nd).mp (p1.trans p2.symm))
  · have nb : b ≠ a := fun z => cf.exd b hb (z ▸ ma)
    exact upd_ne nb
section
variable {X : Cx} {pos : Pos} {o e : Expr} {es : List Expr} {fo fe : WE} {fs : WA}
/-- [..] that will change -/
def wNewL (fs : WA) : WE := fun sl mu Q => fs sl mu fun ss mu1 => ss.length ≤ sizeLine ∧ On (allD ss) fun ds => Q (.h mu1.length) (mu1 ++ [some (.lst ds)])
theorem re_newL (h : RA X es fs) : RE X (.List es pos) (wNewL fs) := by
  refine pe_imp (pe_lst h) fun σ H Q q => ?_
  obtain ⟨ex, m, sl, mu, Qd, cf, sr, w, k⟩ := q
  refine ⟨ex, m, sl, mu, _, cf, sr, w, fun ss mu1 m1 H1 vs cf1 e1 r1 q1 => ?_⟩
  obtain ⟨hl, q1⟩ := q1
  obtain ⟨ds, ed, q1⟩ := On.elim q1
  refine ⟨by rw [← Paired.length r1]; exact hl, fun p hp => ?_⟩
  obtain ⟨c2, e2⟩ := cf1.add (mo := .lst ds) (o := .lst vs) hp ⟨vs, rfl, allD_ok r1 ed⟩
  exact k (.h mu1.length) _ _ _ _ c2 (e1.trans e2) ⟨p, by rw [← cf1.len]; simp, rfl⟩ q1
/-- a list that changes: its place in the store, its items -/
def mutL (s : S) (mu : Mu) : Option (Nat × List D) := match s with
  | .h k => match mu[k]? with
    | some (some (.lst ds)) => some (k, ds)
    | _ => none
  | _ => none
theorem mutL_inv {s : S} {mu : Mu} {k : Nat} {ds : List D} (e : mutL s mu = some (k, ds)) : s = .h k ∧ mu[k]? = some (some (.lst ds)) := by
  unfold mutL at e
  split at e
  · split at e
    · rename_i em
      cases e
      exact ⟨rfl, em⟩
    · cases e
  · cases e
theorem hnd_l {K : Frag} {ex m : List Addr} {mu : Mu} {H : Hp} {k : Nat} {ds : List D} {v : V} (cf : Cfg K ex m mu H) (e : mu[k]? = some (some (.lst ds))) (r : RS K m (vw ex m mu H) (.h k) v) :
    ∃ a vs, v = .ref a ∧ m[k]? = some a ∧ H a = some (.lst vs) ∧ Rs K (vw ex m mu H) ds vs := by
  obtain ⟨a, h1, h2⟩ := r
  obtain ⟨b, o, g1, g2, g3⟩ := cf.st k _ e
  rw [h1] at g1
  cases g1
  obtain ⟨vs, rfl, g4⟩ := g3
  exact ⟨a, vs, h2, h1, g2, g4⟩
abbrev GM := List D → List S → Option (D × List D)
def rMut (K : Frag) (g : GM) : V → List V → Hp → VK → Prop := fun x xs H Q => ∃ ex m mu k ds ss d ds', Cfg K ex m mu H ∧ RS K m (vw ex m mu H) (.h k) x ∧ mu[k]? = some (some (.lst ds)) ∧ RSs K m (vw ex m mu H) ss xs ∧ g ds ss = some (d, ds') ∧
  ∀ H' v, Cfg K ex m (mu.set k (some (.lst ds'))) H' → Ext ex m mu H m (mu.set k (some (.lst ds'))) H' → R K (vw ex m (mu.set k (some (.lst ds'))) H') d v → Q v H'
def wMut (g : GM) (fo : WE) (fs : WA) : WE := fun sl mu Q => fo sl mu fun s mu1 => On (mutL s mu1) fun _ => fs sl mu1 fun ss mu2 => On (mutL s mu2) fun p => On (g p.2 ss) fun q => Q (.d q.1) (mu2.set p.1 (some (.lst q.2)))
theorem mut_red {K : Frag} {g : GM} {σ : L2.St} {H : Hp} {Q : VK} (q : tE K (wMut g fo fs) σ H Q) : tBM K "list" (rMut K g) (tE K fo) (tA K fs) σ H Q := by
  obtain ⟨ex, m, sl, mu, Qd, cf, sr, w, k⟩ := q
  refine ⟨ex, m, sl, mu, _, cf, sr, w, fun s mu1 m1 H1 v cf1 e1 r1 q1 => ?_⟩
  obtain ⟨⟨j, ds⟩, em, q1⟩ := On.elim q1
  obtain ⟨e6, em0⟩ := mutL_inv em
  subst e6
  clear em
  have em := em0
  refine ⟨?_, ex, m1, sl, mu1, _, cf1, sr.ext e1, q1, fun ss mu2 m2 H2 us cf2 e2 r2 q2 => ?_⟩
  · obtain ⟨a, vs, rfl, ha, hh, g⟩ := hnd_l cf1 em r1
    exact .inl ⟨rfl, vs, SqL.of hh⟩
  · obtain ⟨⟨j2, ds2⟩, em2, q2⟩ := On.elim q2
    obtain ⟨e5, em2⟩ := mutL_inv em2
    cases e5
    obtain ⟨⟨d, ds'⟩, eg, q2⟩ := On.elim q2
    exact ⟨ex, m2, mu2, j, ds2, ss, d, ds', cf2, r1.ext e2, em2, r2, eg, fun H3 v3 c3 e3 r3 => k (.d d) _ _ _ _ c3 ((e1.trans e2).trans e3) r3 q2⟩
theorem mut_red0 {K : Frag} {g : GM} {σ : L2.St} {H : Hp} {Q : VK} (q : tE K (wMut g fo wNil) σ H Q) : tBM0 K "list" (rMut K g) (tE K fo) σ H Q := by
  obtain ⟨ex, m, sl, mu, Qd, cf, sr, w, k⟩ := q
  refine ⟨ex, m, sl, mu, _, cf, sr, w, fun s mu1 m1 H1 v cf1 e1 r1 q1 => ?_⟩
  obtain ⟨⟨j, ds⟩, em, q1⟩ := On.elim q1
  obtain ⟨e6, em0⟩ := mutL_inv em
  subst e6
  clear em
  have em := em0
  obtain ⟨a, vs, rfl, ha, hh, g2⟩ := hnd_l cf1 em r1
  refine ⟨.inl ⟨rfl, vs, SqL.of hh⟩, ?_⟩
  obtain ⟨⟨j2, ds2⟩, em2, q2⟩ := On.elim q1
  obtain ⟨e5, em2⟩ := mutL_inv em2
  cases e5
  obtain ⟨⟨d, ds'⟩, eg, q2⟩ := On.elim q2
  exact ⟨ex, m1, mu1, j, ds2, [], d, ds', cf1, r1, em2, .nil, eg, fun H3 v3 c3 e3 r3 => k (.d d) _ _ _ _ c3 (e1.trans e3) r3 q2⟩
theorem mtr_imp {id : String} {r r' : V → List V → Hp → VK → Prop} (h : MtR X id r) (i : ∀ x xs H Q, r' x xs H Q → r x xs H Q) : MtR X id r' :=
  fun pins s σ H x xs v us Q I rx rs q => h pins s σ H x xs v us Q I rx rs (i x xs H Q q)
def gAppend : GM := fun ds ss => match ss with
  | [.d d] => if ds.length < sizeLine then some (.non, ds ++ [d]) else none
  | _ => none
theorem mt_gAppend : MtR X "list.append" (rMut X.K gAppend) := by
  refine mtr_imp mt_append fun x xs H Q q => ?_
  obtain ⟨ex, m, mu, k, ds, ss, d, ds', cf, r, em, rs, eg, kk⟩ := q
  obtain ⟨a, vs, rfl, ha, hh, g⟩ := hnd_l cf em r
  unfold gAppend at eg
  split at eg
  · split at eg
    · rename_i d1 hz
      cases eg
      obtain ⟨u, rfl, ru⟩ := rss1 rs
      refine ⟨a, vs, u, rfl, rfl, hh, by rw [← g.length]; exact hz, ?_⟩
      obtain ⟨c3, e3⟩ := cf.chg (mo' := .lst (ds ++ [d1])) (o := .lst (vs ++ [u])) ha em ⟨_, rfl, g.append (Rs.cons ru Rs.nil)⟩
      exact kk _ _ c3 e3 r_non
    · cases eg
  · cases eg
def gPop : GM := fun ds ss => match ss with
  | [] => (ds[ds.length - 1]?).map fun d => (d, ds.dropLast)
  | _ => none
theorem Rs.dropLast {K : Frag} {H : Hp} {ds : List D} {vs : List V} (r : Rs K H ds vs) : Rs K H ds.dropLast vs.dropLast := by
  rw [List.dropLast_eq_take, List.dropLast_eq_take, ← r.length]
  exact Rs.take _ r
theorem mt_gPop : MtR X "list.pop" (rMut X.K gPop) := by
  refine mtr_imp mt_pop fun x xs H Q q => ?_
  obtain ⟨ex, m, mu, k, ds, ss, d, ds', cf, r, em, rs, eg, kk⟩ := q
  obtain ⟨a, vs, rfl, ha, hh, g⟩ := hnd_l cf em r
  unfold gPop at eg
  split at eg
  · obtain ⟨d1, e1, e2⟩ := Option.map_eq_some_iff.mp eg
    cases e2
    cases rs
    obtain ⟨v, ev, rv⟩ := g.get e1
    refine ⟨a, vs, v, rfl, rfl, hh, by rw [← g.length]; exact ev, ?_⟩
    obtain ⟨c3, e3⟩ := cf.chg (mo' := .lst ds.dropLast) (o := .lst vs.dropLast) ha em ⟨_, rfl, g.dropLast⟩
    exact kk _ _ c3 e3 (R.mono e3.same _ _ rv)
  · cases eg
def gPopAt : GM := fun ds ss => match ss with
  | [.d (.int i)] => if inR62 i then (ixN ds.length i).bind fun j => (ds[j]?).map fun d => (d, ds.eraseIdx j) else none
  | _ => none
theorem mt_gPopAt : MtR X "list.pop" (rMut X.K gPopAt) := by
  refine mtr_imp mt_popAt fun x xs H Q q => ?_
  obtain ⟨ex, m, mu, k, ds, ss, d, ds', cf, r, em, rs, eg, kk⟩ := q
  obtain ⟨a, vs, rfl, ha, hh, g⟩ := hnd_l cf em r
  unfold gPopAt at eg
  split at eg
  · split at eg
    · rename_i i hi
      have hi := of_decide_eq_true hi
      obtain ⟨j, ej, eg⟩ := Option.bind_eq_some_iff.mp eg
      obtain ⟨d1, e1, e2⟩ := Option.map_eq_some_iff.mp eg
      cases e2
      obtain ⟨u, rfl, ru⟩ := rss1 rs
      obtain ⟨v, ev, rv⟩ := g.get e1
      refine ⟨a, vs, i, j, v, rfl, by rw [rs_int ru], hh, by omega, by omega, ?_, ev, ?_⟩
      · rw [← g.length]
        exact (ixN_seq ej).1
      · obtain ⟨c3, e3⟩ := cf.chg (mo' := .lst (ds.eraseIdx j)) (o := .lst (vs.eraseIdx j)) ha em ⟨_, rfl, g.eraseIdx j⟩
        exact kk _ _ c3 e3 (R.mono e3.same _ _ rv)
    · cases eg
  · cases eg
variable {apos : Pos}
theorem re_append (ho : RE X o fo) (ha : RA X [e] fs) (hbase : attributeBase o "append" X.env (eval o X.env) = eval o X.env := by rfl)
    (hfew : ((backTo pos (starEach (e :: []) X.env)).all (fun x => !x.1) && (backToKw pos (keywordEach [] X.env)).all (fun x => x.1.isSome)
      && decide ((e :: []).length + ([] : List Keyword).length + (if ([] : List Keyword).isEmpty then 0 else 1) < 30)) = true := by rfl)
    (hline : (apos.endLine == pos.line) = true := by rfl) (hs : starEach [e] X.env = (false, eval e X.env) :: starEach [] X.env := by rfl) :
    RE X (.Call (.Attribute o "append" apos) [e] [] pos) (wMut gAppend fo fs) :=
  pe_imp (pe_bm PySem.F.plainAttrs_list PySem.F.slot_list_append PySem.F.type_list_append mt_gAppend ho ha hbase hfew hline hs rfl) fun _ _ _ q => mut_red q
theorem re_popAt (ho : RE X o fo) (ha : RA X [e] fs) (hbase : attributeBase o "pop" X.env (eval o X.env) = eval o X.env := by rfl)
    (hfew : ((backTo pos (starEach (e :: []) X.env)).all (fun x => !x.1) && (backToKw pos (keywordEach [] X.env)).all (fun x => x.1.isSome)
      && decide ((e :: []).length + ([] : List Keyword).length + (if ([] : List Keyword).isEmpty then 0 else 1) < 30)) = true := by rfl)
    (hline : (apos.endLine == pos.line) = true := by rfl) (hs : starEach [e] X.env = (false, eval e X.env) :: starEach [] X.env := by rfl) :
    RE X (.Call (.Attribute o "pop" apos) [e] [] pos) (wMut gPopAt fo fs) :=
  pe_imp (pe_bm PySem.F.plainAttrs_list PySem.F.slot_list_pop PySem.F.type_list_pop mt_gPopAt ho ha hbase hfew hline hs rfl) fun _ _ _ q => mut_red q
theorem re_pop (ho : RE X o fo) (hbase : attributeBase o "pop" X.env (eval o X.env) = eval o X.env := by rfl) (hline : (apos.endLine == pos.line) = true := by rfl) :
    RE X (.Call (.Attribute o "pop" apos) [] [] pos) (wMut gPop fo wNil) :=
  pe_imp (pe_bm0 PySem.F.plainAttrs_list PySem.F.slot_list_pop PySem.F.type_list_pop mt_gPop ho hbase hline) fun _ _ _ q => mut_red0 q
end
end DL
set_option Elab.async false
set_option linter.all false
set_option maxRecDepth 100000
set_option maxHeartbeats 1000000
namespace DL
open PySem PySem.Spec L2

/-! ### pairs as targets, of tuples and of lists -/
section
variable {X : Cx} {pos : Pos}
def itemsOf : D → Option (List D)
  | .tup ds => some ds
  | .lst ds => some ds
  | _ => none
def g2 (g h : WG) : WG := fun d sl => match itemsOf d with
  | some [x, y] => (g x sl).bind fun sl1 => h y sl1
  | _ => none
theorem pg_or {tg : Expr} {t t' : TG} (h : PG X tg t) (h' : PG X tg t') : PG X tg (fun v σ H Q => t v σ H Q ∨ t' v σ H Q) :=
  ⟨fun pins s σ H v u Q I r q => q.elim (h.run pins s σ H v u Q I r) (h'.run pins s σ H v u Q I r)⟩
theorem rg_two {a b : Expr} {k : Nat} {vs us : List Nat} {g h : WG} (hc : X.calm = true) (ha : RG X a vs g) (hb : RG X b us h)
    (hn : (assignEach [a, b] X.env).length = 2 := by rfl) (hst : (assignEach [a, b] X.env).findIdx? (·.1) = none := by rfl)
    (hs1 : (assignEach [a, b] X.env).map (·.2) = assign a X.env :: (assignEach [b] X.env).map (·.2) := by rfl) (hs2 : (assignEach [b] X.env).map (·.2) = assign b X.env :: (assignEach [] X.env).map (·.2) := by rfl) :
    RG X (.Tuple [a, b] k pos) (vs ++ us) (g2 g h) := by
  have pgs := pgs_cons ha (pgs_cons hb pgs_nil hs2) hs1
  refine pg_imp (pg_or (pg_tup (n := 2) hc pgs hn hst) (pg_unl (n := 2) hc pgs hn hst)) fun v σ H Q q => ?_
  obtain ⟨ex, m, sl, mu, d, sl', cf, sr, r, e, k⟩ := q
  unfold g2 at e
  split at e
  · rename_i x y ei
    obtain ⟨sl1, e1, e⟩ := Option.bind_eq_some_iff.mp e
    have body : ∀ ws, Rs X.K (vw ex m mu H) [x, y] ws → ws.length = 2 ∧ gCons (tG X.K vs g) (gCons (tG X.K us h) gNil) ws σ H Q := by
      intro ws rs
      obtain ⟨v1, r1, rfl, h1, rs⟩ := rs.inv
      obtain ⟨v2, r2, rfl, h2, rs⟩ := rs.inv
      obtain rfl := rs.inv0
      refine ⟨rfl, v1, _, rfl, ex, m, sl, mu, x, sl1, cf, sr, h1, e1, fun σ1 sr1 ag1 => ?_⟩
      refine ⟨v2, _, rfl, ex, m, sl1, mu, y, sl', cf, sr1, h2, e, fun σ2 sr2 ag2 => ⟨rfl, k σ2 sr2 ⟨ag2.1.trans ag1.1, fun i hi => ?_⟩⟩⟩
      rw [ag2.2 i fun z => hi (List.mem_append_right _ z), ag1.2 i fun z => hi (List.mem_append_left _ z)]
    cases d <;> first
      | cases ei
      | skip
    all_goals
      simp only [R] at r
      obtain ⟨p, ws, rfl, hq, rs⟩ := r
      obtain ⟨b1, b2⟩ := body ws rs
      first
        | exact .inl ⟨p, ws, rfl, SqT.of (vw_sub _ _ hq), b1, b2⟩
        | exact .inr ⟨p, ws, rfl, SqL.of (vw_sub _ _ hq), b1, b2⟩
  · cases e
def wAsg (f : WE) (g : WG) : WS := fun E sl mu => f sl mu fun s mu1 => match s with
  | .d d => On (g d sl) fun sl1 => E.nx sl1 mu1
  | .h _ => False
theorem rs_asg {tg e : Expr} {f : WE} {vs : List Nat} {g : WG} (he : RE X e f) (hg : RG X tg vs g) (hs : swapsWithSole [tg] e pos.line X.env = pure false := by rfl) (hw : swappedStores [tg] e X.env = pure none := by rfl)
    (h1 : (assignEach [tg] X.env).map (·.2) = [assign tg X.env] := by rfl) : RSt X (.Assign [tg] e pos) (wAsg f g) := by
  refine ps_imp (ps_asg he hg hs hw h1) fun E σ H q => ?_
  obtain ⟨ex, m, sl, mu, Ed, cf, sr, w, k, _⟩ := q
  refine ⟨ex, m, sl, mu, _, cf, sr, w, fun s mu1 m1 H1 v cf1 e1 r1 q1 => ?_⟩
  cases s with
  | h _ => exact q1.elim
  | d d =>
    obtain ⟨sl1, eg, q1⟩ := On.elim q1
    exact ⟨ex, m1, sl, mu1, d, sl1, cf1, sr.ext e1, r1, eg, fun σ' sr' _ => (k _ _ _ _ _ cf1 e1 sr').1 q1⟩
/-- a, b = x, y with plain local names -/
def wPar (i j : Nat) (fs : WA) : WS := fun E sl mu => fs sl mu fun ss mu1 => match ss with
  | [s, t] => E.nx ((sl.set i (some s)).set j (some t)) mu1
  | _ => False
theorem rs_par {i j : Nat} {x y : Str} {a b : Expr} {fs : WA} {px py pt : Pos} {kt k2 pt2} (hc : X.calm = true) (hN : X.N.Nodup) (hi : X.N[i]? = some x) (hj : X.N[j]? = some y) (hij : i ≠ j)
    (hx : X.env.scope.names.lookup x = some .local) (hy : X.env.scope.names.lookup y = some .local) (ha : RA X [a, b] fs)
    (hw : swappedStores [.Tuple [.Name x px, .Name y py] kt pt] (.Tuple [a, b] k2 pt2) X.env = pure (some [x, y]))
    (hs : swapsWithSole [.Tuple [.Name x px, .Name y py] kt pt] (.Tuple [a, b] k2 pt2) pos.line X.env = pure false := by rfl) :
    RSt X (.Assign [.Tuple [.Name x px, .Name y py] kt pt] (.Tuple [a, b] k2 pt2) pos) (wPar i j fs) := by
  refine ps_imp (ps_par hc hN hi hj hij hx hy ha hw hs) fun E σ H q => ?_
  obtain ⟨ex, m, sl, mu, Ed, cf, sr, w, k, _⟩ := q
  refine ⟨ex, m, sl, mu, _, cf, sr, w, fun ss mu1 m1 H1 vs cf1 e1 r1 q1 => ?_⟩
  split at q1
  · rename_i s t
    obtain ⟨u, v, rfl, ru, rv⟩ := rss2 r1
    exact ⟨u, v, rfl, (k _ _ _ _ _ cf1 e1 (((sr.ext e1).set ru i).set rv j)).1 q1⟩
  · exact q1.elim
end

/-! ### zip, enumerate -/
section
variable {K : Frag} {ex m : List Addr} {mu : Mu} {H : Hp}
theorem rs_pair {d e : D} {x y : V} {p : Addr} (cf : Cfg K ex m mu H) (hn : H p = none) (h1 : R K (vw ex m mu H) d x) (h2 : R K (vw ex m mu H) e y) : R K (vw ex m mu (upd H p (.tup [x, y]))) (.tup [d, e]) (.ref p) :=
  new_tup cf hn (Rs.cons h1 (Rs.cons h2 Rs.nil))
def zipD (a b : List D) : List D := List.zipWith (fun x y => .tup [x, y]) a b
theorem wk_zip {a b : Addr} {vs us : List V} {ds es : List D} (h1 : vw ex m mu H a = some (.lst vs)) (h2 : vw ex m mu H b = some (.lst us)) (r1 : Rs K (vw ex m mu H) ds vs) (r2 : Rs K (vw ex m mu H) es us) : WkD K ex m mu H (Itz K a b) (zipD ds es) := by
  have hl : (zipD ds es).length = min vs.length us.length := by
    rw [← r1.length, ← r2.length]
    simp [zipD]
  refine ⟨fun i ex2 m2 mu2 H2 hi cf le => ?_, fun i ex2 m2 mu2 H2 x H3 hi cf le y => ?_, fun ex2 m2 mu2 H2 cf le => ?_⟩
  · rw [hl] at hi
    have i1 : i < vs.length := by omega
    have i2 : i < us.length := by omega
    exact ⟨vs, us, vs[i], us[i], SqL.of (vw_sub _ _ (le.same _ _ h1)), SqL.of (vw_sub _ _ (le.same _ _ h2)), List.getElem?_eq_getElem i1, List.getElem?_eq_getElem i2⟩
  · obtain ⟨T, u, v, rfl, hT, rfl, g1, g2⟩ := y
    obtain ⟨d, e1, q1⟩ := r1.getV (g1 vs (SqL.of (vw_sub _ _ (le.same _ _ h1))))
    obtain ⟨e, e2, q2⟩ := r2.getV (g2 us (SqL.of (vw_sub _ _ (le.same _ _ h2))))
    refine ⟨.tup [d, e], ?_, grown cf hT, rs_pair cf hT (R.mono le.same _ _ q1) (R.mono le.same _ _ q2)⟩
    unfold zipD
    rw [List.getElem?_zipWith, e1, e2]
  · rw [hl]
    refine ⟨vs, us, SqL.of (vw_sub _ _ (le.same _ _ h1)), SqL.of (vw_sub _ _ (le.same _ _ h2)), ?_⟩
    omega
theorem wk_zipT {a b : Addr} {vs us : List V} {ds es : List D} (h1 : vw ex m mu H a = some (.tup vs)) (h2 : vw ex m mu H b = some (.tup us)) (r1 : Rs K (vw ex m mu H) ds vs) (r2 : Rs K (vw ex m mu H) es us) : WkD K ex m mu H (RZ.ItzT K a b) (zipD ds es) := by
  have hl : (zipD ds es).length = min vs.length us.length := by
    rw [← r1.length, ← r2.length]
    simp [zipD]
  refine ⟨fun i ex2 m2 mu2 H2 hi cf le => ?_, fun i ex2 m2 mu2 H2 x H3 hi cf le y => ?_, fun ex2 m2 mu2 H2 cf le => ?_⟩
  · rw [hl] at hi
    have i1 : i < vs.length := by omega
    have i2 : i < us.length := by omega
    exact ⟨vs, us, vs[i], us[i], SqT.of (vw_sub _ _ (le.same _ _ h1)), SqT.of (vw_sub _ _ (le.same _ _ h2)), List.getElem?_eq_getElem i1, List.getElem?_eq_getElem i2⟩
  · obtain ⟨T, u, v, rfl, hT, rfl, g1, g2⟩ := y
    obtain ⟨d, e1, q1⟩ := r1.getV (g1 vs (SqT.of (vw_sub _ _ (le.same _ _ h1))))
    obtain ⟨e, e2, q2⟩ := r2.getV (g2 us (SqT.of (vw_sub _ _ (le.same _ _ h2))))
    refine ⟨.tup [d, e], ?_, grown cf hT, rs_pair cf hT (R.mono le.same _ _ q1) (R.mono le.same _ _ q2)⟩
    unfold zipD
    rw [List.getElem?_zipWith, e1, e2]
  · rw [hl]
    refine ⟨vs, us, SqT.of (vw_sub _ _ (le.same _ _ h1)), SqT.of (vw_sub _ _ (le.same _ _ h2)), ?_⟩
    have : min vs.length us.length = vs.length ∨ min vs.length us.length = us.length := by omega
    rcases this with z | z
    · exact .inl (Nat.le_of_eq z.symm)
    · exact .inr (Nat.le_of_eq z.symm)
def wZip (fs : WA) : WI := fun sl mu Q => fs sl mu fun ss mu1 => match ss with
  | [.d (.lst a), .d (.lst b)] => Q (zipD a b) mu1
  | [.d (.tup a), .d (.tup b)] => Q (zipD a b) mu1
  | _ => False
def enumD : Nat → List D → List D
  | _, [] => []
  | i, d :: ds => .tup [.int (i : Nat), d] :: enumD (i + 1) ds
theorem enumD_len : ∀ (i : Nat) (ds : List D), (enumD i ds).length = ds.length
  | _, [] => rfl
  | i, d :: ds => by
    unfold enumD
    rw [List.length_cons, List.length_cons, enumD_len]
theorem enumD_get : ∀ (n : Nat) (ds : List D) (i : Nat) (d : D), ds[i]? = some d → (enumD n ds)[i]? = some (.tup [.int ((n + i : Nat) : Int), d])
  | _, [], _, _, h => by simp at h
  | n, x :: ds, 0, d, h => by
    simp at h
    subst h
    rfl
  | n, x :: ds, i + 1, d, h => by
    have ih := enumD_get (n + 1) ds i d (by simpa using h)
    rw [show n + 1 + i = n + (i + 1) by omega] at ih
    exact ih
theorem wk_enum {a : Addr} {vs : List V} {ds : List D} (h1 : vw ex m mu H a = some (.lst vs)) (r1 : Rs K (vw ex m mu H) ds vs) : WkD K ex m mu H (Ite K a) (enumD 0 ds) := by
  have hl : (enumD 0 ds).length = vs.length := by rw [enumD_len, r1.length]
  refine ⟨fun i ex2 m2 mu2 H2 hi cf le => ?_, fun i ex2 m2 mu2 H2 x H3 hi cf le y => ?_, fun ex2 m2 mu2 H2 cf le => ?_⟩
  · rw [hl] at hi
    exact ⟨vs, vs[i], SqL.of (vw_sub _ _ (le.same _ _ h1)), List.getElem?_eq_getElem hi⟩
  · obtain ⟨T, v, rfl, hT, rfl, g1⟩ := y
    obtain ⟨d, e1, q1⟩ := r1.getV (g1 vs (SqL.of (vw_sub _ _ (le.same _ _ h1))))
    refine ⟨.tup [.int (i : Nat), d], ?_, grown cf hT, rs_pair cf hT (r_int _) (R.mono le.same _ _ q1)⟩
    have := enumD_get 0 ds i d e1
    rwa [Nat.zero_add] at this
  · rw [hl]
    exact ⟨vs, SqL.of (vw_sub _ _ (le.same _ _ h1)), Nat.le_refl _⟩
def wEnum (fs : WA) : WI := fun sl mu Q => fs sl mu fun ss mu1 => match ss with
  | [.d (.lst a)] => Q (enumD 0 a) mu1
  | _ => False
end
section
variable {X : Cx} {e e2 : Expr} {fs : WA} {p pos tpos : Pos} {elts : List Expr} {kk : Nat}
theorem ri_zip (hg : Gl X "zip") (hm : X.mg "zip" = none) (ha : RA X [e, e2] fs)
    (hs : starEach [e, e2] X.env = (false, eval e X.env) :: starEach [e2] X.env := by rfl) (hpl : (backTo pos (starEach [e2] X.env)).any (·.1) = false := by rfl) :
    RI X (.Tuple elts kk tpos) (.Call (.Name "zip" p) [e, e2] [] pos) (wZip fs) := by
  refine pi_imp (RZ.pi_zipA hg hm ha hs hpl) fun σ H Q q => ?_
  obtain ⟨ex, m, sl, mu, Qd, cf, sr, w, k⟩ := q
  refine ⟨ex, m, sl, mu, _, cf, sr, w, fun ss mu1 m1 H1 v cf1 e1 rs q1 => ?_⟩
  split at q1
  · obtain ⟨x, y, rfl, r1, r2⟩ := rss2 rs
    simp only [RS, R] at r1 r2
    obtain ⟨a, vs, rfl, h1, g1⟩ := r1
    obtain ⟨b, us, rfl, h2, g2⟩ := r2
    exact ⟨a, b, vs, us, rfl, .inl ⟨SqL.of (vw_sub _ _ h1), SqL.of (vw_sub _ _ h2), k _ _ _ _ _ cf1 e1 (wk_zip h1 h2 g1 g2) q1⟩⟩
  · obtain ⟨x, y, rfl, r1, r2⟩ := rss2 rs
    simp only [RS, R] at r1 r2
    obtain ⟨a, vs, rfl, h1, g1⟩ := r1
    obtain ⟨b, us, rfl, h2, g2⟩ := r2
    exact ⟨a, b, vs, us, rfl, .inr ⟨SqT.of (vw_sub _ _ h1), SqT.of (vw_sub _ _ h2), k _ _ _ _ _ cf1 e1 (wk_zipT h1 h2 g1 g2) q1⟩⟩
  · exact q1.elim
theorem ri_enum (hg : Gl X "enumerate") (hm : X.mg "enumerate" = none) (ha : RA X [e] fs) (hs : starEach [e] X.env = [(false, eval e X.env)] := by rfl) :
    RI X (.Tuple elts kk tpos) (.Call (.Name "enumerate" p) [e] [] pos) (wEnum fs) := by
  refine pi_imp (pi_enum hg hm ha hs) fun σ H Q q => ?_
  obtain ⟨ex, m, sl, mu, Qd, cf, sr, w, k⟩ := q
  refine ⟨ex, m, sl, mu, _, cf, sr, w, fun ss mu1 m1 H1 v cf1 e1 rs q1 => ?_⟩
  split at q1
  · obtain ⟨x, rfl, r1⟩ := rss1 rs
    simp only [RS, R] at r1
    obtain ⟨a, vs, rfl, h1, g1⟩ := r1
    exact ⟨a, vs, rfl, SqL.of (vw_sub _ _ h1), k _ _ _ _ _ cf1 e1 (wk_enum h1 g1) q1⟩
  · exact q1.elim
end

/-! ### isinstance -/
def kindOf : D → Option String
  | .non => some "NoneType"
  | .bl _ => some "bool"
  | .int _ => some "int"
  | .str _ => some "str"
  | .lst _ => some "list"
  | .tup _ => some "tuple"
  | .dic _ _ => some "dict"
  | .dit _ _ => some "dict"
  | _ => none
def isKind (a b : String) : Bool := a == b || (a == "bool" && b == "int")
def kinds : List String := ["NoneType", "bool", "int", "str", "list", "tuple", "dict"]
def asked : List String := ["bool", "int", "str", "list", "tuple", "dict"]
theorem kit_all : (kinds.all fun a => asked.all fun b => decide (kitB a b = some (isKind a b))) = true := by decide +kernel
theorem kit_is {a b : String} (ha : a ∈ kinds) (hb : b ∈ asked) : kitB a b = some (isKind a b) := by
  have h := kit_all
  rw [List.all_eq_true] at h
  have h2 := h a ha
  rw [List.all_eq_true] at h2
  exact of_decide_eq_true (h2 b hb)
theorem kindOf_mem {d : D} {a : String} (e : kindOf d = some a) : a ∈ kinds := by
  cases d <;> first
    | cases e
    | skip
  all_goals decide
theorem kindOf_ty {K : Frag} {ex m : List Addr} {mu : Mu} {H : Hp} {d : D} {x : V} {a : String} (r : RS K m (vw ex m mu H) (.d d) x) (e : kindOf d = some a) : TyX K H x (.type a) := by
  cases d <;> first
    | cases e
    | skip
  · rw [rs_non r]
    exact .base .non
  · rw [rs_bool r]
    exact .base (.bl _)
  · rw [rs_int r]
    exact .base (.int _)
  · rw [rs_str r]
    exact .base (.str _)
  all_goals
    simp only [RS, R] at r
    obtain ⟨p, vs, rfl, h, _⟩ := r
    first
      | exact .base (.lst (vw_sub _ _ h))
      | exact .base (.tup (vw_sub _ _ h))
      | exact .base (.dK (vw_sub _ _ h))
      | exact .base (.dT (vw_sub _ _ h))
def dIsi : GN := fun ss _ => match ss with
  | [.d x, .d (.ty b)] => (kindOf x).bind fun a => if asked.contains b then some (.bl (isKind a b)) else none
  | [.d x, .d (.tup [.ty b, .ty c])] => (kindOf x).bind fun a => if asked.contains b && asked.contains c then some (.bl (isKind a b || isKind a c)) else none
  | _ => none
section
variable {X : Cx}
theorem cls_ty (b : String) : ClsV (.ty b) (.type b) := by
  constructor
theorem cr_isi : CallR X (.builtin "isinstance") (rND X.K dIsi) := by
  refine callr_imp (CallR.or call_isi call_isiT) fun xs H Q q => ?_
  obtain ⟨ex, m, mu, ss, d, cf, rs, e, k⟩ := q
  unfold dIsi at e
  split at e
  · obtain ⟨a, ea, e⟩ := Option.bind_eq_some_iff.mp e
    split at e
    · rename_i hb
      cases e
      obtain ⟨x, y, rfl, r1, r2⟩ := rss2 rs
      simp only [RS, R] at r2
      subst r2
      exact .inl ⟨x, _, _, _, _, rfl, cls_ty _, kindOf_ty r1 ea, kit_ty (kit_is (kindOf_mem ea) (List.contains_iff_mem.mp hb)), k _ _ (grown_refl cf) (r_bl _)⟩
    · cases e
  · rename_i xd b c
    obtain ⟨a, ea, e0⟩ := Option.bind_eq_some_iff.mp e
    clear e
    split at e0
    · rename_i hb
      cases e0
      rw [Bool.and_eq_true] at hb
      obtain ⟨x, y, rfl, r1, r2⟩ := rss2 rs
      obtain ⟨p, vs, rfl, h, g⟩ := rs_tup' r2
      obtain ⟨v1, w1, rfl, g1, g⟩ := g.inv
      obtain ⟨v2, w2, rfl, g2, g⟩ := g.inv
      obtain rfl := g.inv0
      simp only [R] at g1 g2
      subst g1 g2
      refine .inr ⟨x, p, _, _, [.type b, .type c], _, rfl, h, .cons (cls_ty _) (.cons (cls_ty _) .nil), kindOf_ty r1 ea, ?_, k _ _ (grown_refl cf) (r_bl _)⟩
      have k1 := kit_ty (K := X.K) (kit_is (kindOf_mem ea) (List.contains_iff_mem.mp hb.1))
      have k2 := kit_ty (K := X.K) (kit_is (kindOf_mem ea) (List.contains_iff_mem.mp hb.2))
      refine kitAny_cons k1 (fun z => ?_) (fun z => by rw [z, Bool.true_or])
      rw [z, Bool.false_or]
      cases e2 : isKind a c with
      | true =>
        rw [e2] at k2
        exact kitAny_cons k2 (fun w => nomatch w) fun _ => rfl
      | false =>
        rw [e2] at k2
        exact kitAny_cons k2 (fun _ => rfl) fun w => nomatch w
    · cases e0
  · cases e
/-- a built-in class as a value -/
theorem re_ty {x : Str} {n : String} {pos : Pos} (hg : Gl X x) (hm : X.mg x = none) (hv : bootBuiltins x = some (.type n)) (hn : x ≠ "__name__" := by decide) (hd : (x == ("__debug__" : Str)) = false := by decide) : RE X (.Name x pos) (wC (.ty n)) :=
  re_c (pe_bltn (v := .ty n) hg hm hv rfl hn hd) fun _ => by simp only [R]

/-! ### join -/
def dJoin : S → S → Mu → Option D := fun s1 s2 mu => match s1 with
  | .d (.str a) => (rdQ s2 mu).bind fun ds => (asStrs ds).bind fun ys => if (ys.map (·.length)).sum + ys.length * a.length ≤ 16777216 then some (.str (Txt.join a ys)) else none
  | _ => none
def wJoin (fa fb : WE) : WE := fun sl mu Q => fa sl mu fun s1 mu1 => (∃ a, s1 = .d (.str a)) ∧ fb sl mu1 fun s2 mu2 => On (dJoin s1 s2 mu2) fun d => Q (.d d) mu2
theorem re_join {o e : Expr} {fo fe : WE} {apos pos : Pos} (ho : RE X o fo) (he : RE X e fe) (hs : starEach [e] X.env = [(false, eval e X.env)] := by rfl) (hbase : attributeBase o "join" X.env (eval o X.env) = eval o X.env := by rfl)
    (hline : (apos.endLine == pos.line) = true := by rfl) : RE X (.Call (.Attribute o "join" apos) [e] [] pos) (wJoin fo fe) := by
  refine pe_imp (pe_join ho he hs hbase hline) fun σ H Q q => ?_
  obtain ⟨ex, m, sl, mu, Qd, cf, sr, w, k⟩ := q
  refine ⟨ex, m, sl, mu, _, cf, sr, w, fun s1 mu1 m1 H1 v cf1 e1 r1 q1 => ?_⟩
  obtain ⟨⟨a, ea⟩, q1⟩ := q1
  subst ea
  refine ⟨⟨a, rs_str r1⟩, ex, m1, sl, mu1, _, cf1, sr.ext e1, q1, fun s2 mu2 m2 H2 u cf2 e2 r2 q2 => ?_⟩
  obtain ⟨d, ed, q2⟩ := On.elim q2
  unfold dJoin at ed
  obtain ⟨ds, ed1, ed⟩ := Option.bind_eq_some_iff.mp ed
  obtain ⟨ys, ed2, ed⟩ := Option.bind_eq_some_iff.mp ed
  split at ed
  · rename_i hz
    cases ed
    obtain ⟨p, vs, rfl, hq, g⟩ := rdQ_ok cf2 r2 ed1
    obtain rfl := asStrs_ok g ed2
    exact ⟨a, p, ys, rs_str r1, rfl, hq, hz, k (.d (.str _)) _ _ _ _ cf2 (e1.trans e2) (by simp only [RS, R]) q2⟩
  · cases ed
end
end DL
set_option Elab.async false
set_option linter.all false
set_option maxRecDepth 100000
set_option maxHeartbeats 1000000
namespace DL
open PySem PySem.Spec L2

/-! ### repr -/
mutual
def toPyR : D → Option PyData
  | .non => some .none
  | .bl b => some (.bool b)
  | .int i => some (.int i)
  | .str x => some (.str x)
  | .lst ds => (toPyRs ds).map .list
  | .tup ds => (toPyRs ds).map .tuple
  | .dic [] [] => some (.dict [])
  | _ => none
def toPyRs : List D → Option (List PyData)
  | [] => some []
  | d :: ds => match toPyR d, toPyRs ds with
    | some p, some ps => some (p :: ps)
    | _, _ => none
end
mutual
def noList : PyData → Bool
  | .list _ => false
  | .tuple ps => noLists ps
  | _ => true
def noLists : List PyData → Bool
  | [] => true
  | p :: ps => noList p && noLists ps
end
/-- where a dict stands within, no list does -/
def okr : PyData → Bool
  | .list ps => !PyData.hasDictAll ps || noLists ps
  | .tuple ps => !PyData.hasDictAll ps || noLists ps
  | _ => true
section
variable {X : Cx} {pins : List (Addr × Obj)} {σ : L2.St} {H : Hp} {s : Shared}
theorem dict_reads (I : Inv X pins σ H s) {a : Addr} (h : H a = some (.dK [])) : ∃ o n, s.heap.get? a = some o ∧ o.cls = .type "dict" ∧ o.data = .dict #[] n ∧ a ≠ sysModules := by
  obtain ⟨z, lo, vs, rel, o, es, ep, e, ex, ed, kof, prs, nd⟩ := I.hok a _ h
  cases rel
  have hes : es.toList = [] := by
    cases hq : es.toList with
    | nil => rfl
    | cons x r =>
      rw [hq] at prs
      cases prs
  have hes' : es = #[] := by
    obtain ⟨l⟩ := es
    simp only at hes
    rw [hes]
  subst hes'
  exact ⟨o, ep, e, ex.1, ed, beq_eq_false_iff_ne.mp lo⟩
mutual
theorem readsR (I : Inv X pins σ H s) : ∀ (d : D) (v : V) (u : Value) (p : PyData), R X.K H d v → RelV v u → toPyR d = some p → ∃ as, Reads s.heap u p as ∧ (noList p = true → sysModules ∉ as)
  | .non, v, u, p, r, ru, e => by
    simp only [R] at r
    simp only [toPyR, Option.some.injEq] at e
    subst r e
    cases ru
    exact ⟨_, Reads.none, fun _ => by simp⟩
  | .bl b, v, u, p, r, ru, e => by
    simp only [R] at r
    simp only [toPyR, Option.some.injEq] at e
    subst r e
    cases ru
    exact ⟨_, Reads.bool b, fun _ => by simp⟩
  | .int i, v, u, p, r, ru, e => by
    simp only [R] at r
    simp only [toPyR, Option.some.injEq] at e
    subst r e
    obtain ⟨t, rfl⟩ := ru
    exact ⟨_, Reads.int i t, fun _ => by simp⟩
  | .str x, v, u, p, r, ru, e => by
    simp only [R] at r
    simp only [toPyR, Option.some.injEq] at e
    subst r e
    obtain ⟨t, rfl⟩ := ru
    exact ⟨_, Reads.str x t, fun _ => by simp⟩
  | .lst ds, v, u, p, r, ru, e => by
    simp only [R] at r
    simp only [toPyR] at e
    obtain ⟨ps, e1, rfl⟩ := Option.map_eq_some_iff.mp e
    obtain ⟨a, vs, rfl, h2, h3⟩ := r
    cases ru
    obtain ⟨its, rv, ⟨o, n, ho, hc, _, hd⟩, _⟩ := I.list (SqL.of h2)
    obtain ⟨as, hr, hs⟩ := readsRs I ds vs its ps h3 rv e1
    refine ⟨_, Reads.list ho hc hd hr, fun z1 => ?_⟩
    simp only [noList] at z1
    cases z1
  | .tup ds, v, u, p, r, ru, e => by
    simp only [R] at r
    simp only [toPyR] at e
    obtain ⟨ps, e1, rfl⟩ := Option.map_eq_some_iff.mp e
    obtain ⟨a, vs, rfl, h2, h3⟩ := r
    cases ru
    obtain ⟨its, rv, ⟨o, ho, hc, n, hd⟩, _⟩ := I.tuple (SqT.of h2)
    obtain ⟨as, hr, hs⟩ := readsRs I ds vs its ps h3 rv e1
    refine ⟨_, Reads.tuple ho hc hd hr, fun z1 => ?_⟩
    simp only [noList] at z1
    exact hs z1
  | .dic [] [], v, u, p, r, ru, e => by
    simp only [R] at r
    simp only [toPyR, Option.some.injEq] at e
    subst e
    obtain ⟨a, vs, rfl, h2, h3, h4⟩ := r
    cases ru
    have hv : vs = [] := h4.inv0
    subst hv
    obtain ⟨o, n, ho, hc, hd, na⟩ := dict_reads I h2
    refine ⟨_, Reads.dict (as := []) (bs := []) ho hc hd ReadsAll.nil ReadsAll.nil, fun _ => ?_⟩
    simp only [List.append_nil, List.mem_singleton]
    exact fun z => na z.symm
  | .dic (_ :: _) _, _, _, _, _, _, e => by simp [toPyR] at e
  | .dic [] (_ :: _), _, _, _, _, _, e => by simp [toPyR] at e
  | .scr _, _, _, _, _, _, e => by simp [toPyR] at e
  | .ty _, _, _, _, _, _, e => by simp [toPyR] at e
  | .dit _ _, _, _, _, _, _, e => by simp [toPyR] at e
  | .obj _ _ _, _, _, _, _, _, e => by simp [toPyR] at e
theorem readsRs (I : Inv X pins σ H s) : ∀ (ds : List D) (vs : List V) (us : List Value) (ps : List PyData), Rs X.K H ds vs → Vals vs us → toPyRs ds = some ps → ∃ as, ReadsAll s.heap us ps as ∧ (noLists ps = true → sysModules ∉ as)
  | [], vs, us, ps, r, ru, e => by
    obtain rfl := r.inv0
    simp only [toPyRs, Option.some.injEq] at e
    subst e
    cases ru
    exact ⟨_, ReadsAll.nil, fun _ => by simp⟩
  | d :: ds, vs, us, ps, r, ru, e => by
    obtain ⟨v, ws, rfl, h2, h3⟩ := r.inv
    simp only [toPyRs] at e
    split at e
    · rename_i p qs e1 e2
      cases e
      cases ru with
      | cons r1 r2 =>
        obtain ⟨as, q1, s1⟩ := readsR I d v _ p h2 r1 e1
        obtain ⟨bs, q2, s2⟩ := readsRs I ds ws _ qs h3 r2 e2
        refine ⟨_, ReadsAll.cons q1 q2, fun z => ?_⟩
        simp only [noLists, Bool.and_eq_true] at z
        intro hm
        rcases List.mem_append.mp hm with y | y
        · exact s1 z.1 y
        · exact s2 z.2 y
    · cases e
end
end
open PyProof.Rows in
theorem list_shows {prog : Program} {w : World} {h0 : Heap} {a : Addr} {o : Obj} {its : Array Value} {n : Nat} {ps : List PyData} {as : List Addr} (ho : h0.get? a = some o) (hc : o.cls = .type "list") (hd : o.data = .seq its n)
    (hr : ReadsAll h0 its.toList ps as) (sh : PyData.showableAll ps = true) (sm : PyData.hasDictAll ps = true → sysModules ∉ as) (sz : (PyData.list ps).shown.length ≤ sizeLine) : ShowsBy prog w h0 a (.list ps) "list" "list.__repr__" := by
  have sz' : (listText (PyData.shownAll ps)).length ≤ sizeLine := by simpa only [PyData.shown] using sz
  obtain ⟨bs, rm, kk⟩ := ReprAllK.of_readsAll (prog := prog) (w := w) hr sh sm fun t ht => Nat.le_trans (listText_mem_le ht) sz'
  have out : a ∉ bs := by
    refine not_mem_of_deeper (.list ho hc hd hr) ?_ rm
    simp only [PyData.depth]
    omega
  refine ⟨F.slot_list_repr.toG, F.slot_list_str, F.slot_list_format, fun s k0 => ⟨o, k0 _ _ ho, hc⟩, fun A E s Q g0 room k0 fin => ?_⟩
  simp only [PyData.depth] at room
  simp only [PyData.shown] at fin
  obtain ⟨l⟩ := its
  cases l with
  | nil =>
    have hr' : ReadsAll h0 [] ps as := hr
    cases hr'
    simp only [PyData.shownAll, listText_nil] at fin
    refine call_list_repr_empty ⟨o, k0 _ _ ho, hc⟩ (k0 _ _ ho) hd (fin s.heap _ _ ?_)
    exact fun _ _ e => e
  | cons x l =>
    refine call_list_reprK ho hc hd out (by simpa using kk.length_eq) ?_ g0 (fun b _ => Clear.nil b) room k0 fin sz'
    exact fun i y e => kk.item i y (by simpa using e)
section
variable {X : Cx}
/-- a text that repr gives -/
def dRepr : GN := d1 fun s mu => (pk s mu).bind fun d => (toPyR d).bind fun p => if (p.showable && decide (p.shown.length ≤ sizeLine) && decide (p.depth ≤ 60) && okr p) = true then some (.str p.shown) else none
theorem depth_pos (p : PyData) (h : p.depth ≤ 60) {n : Nat} (hu : n + 64 < cLine) : n + (p.depth + 1) < cLine := by omega
theorem cr_repr (hG : X.A.guards = some []) (hu : X.A.units + 64 < cLine) : CallR X (.builtin "repr") (rND X.K dRepr) := by
  intro pins s σ H xs us Q I rv q
  obtain ⟨ex, m, mu, ss, d, cf, rs, e0, k⟩ := q
  obtain ⟨t, rfl, e⟩ := d1_inv e0
  clear e0
  obtain ⟨x, rfl, r⟩ := rss1 rs
  obtain ⟨dd, e1, e⟩ := Option.bind_eq_some_iff.mp e
  obtain ⟨p, e2, e⟩ := Option.bind_eq_some_iff.mp e
  split at e
  · rename_i hc
    cases e
    simp only [Bool.and_eq_true, decide_eq_true_eq] at hc
    obtain ⟨⟨⟨sh, sz⟩, dp⟩, ok⟩ := hc
    have rd := pk_ok cf r e1
    have ru : ∃ u, us = [u] ∧ RelV x u := by
      cases rv with
      | cons a b =>
        cases b
        exact ⟨_, rfl, a⟩
    obtain ⟨u, rfl, ru⟩ := ru
    have fin : ∀ (h' : Heap) (tk : Nat) (v : Tok), (∀ b o, s.heap.get? b = some o → h'.get? b = some o) → EP X pins σ Q (.str p.shown v) { s with heap := h', toks := tk } := fun h' tk v kp =>
      ⟨.str p.shown, H, I.kept kp, ⟨v, rfl⟩, k _ _ (grown_refl cf) (r_str _)⟩
    have fin0 : ∀ (tk : Nat) (v : Tok), EP X pins σ Q (.str p.shown v) { s with toks := tk } := fun tk v => fin s.heap tk v fun _ _ z => z
    have room := depth_pos p dp hu
    cases dd with
    | non =>
      simp only [R] at rd
      simp only [toPyR, Option.some.injEq] at e2
      subst rd e2
      cases ru
      exact PySem.P.repr_of_none (fin0 _ _)
    | bl b =>
      simp only [R] at rd
      simp only [toPyR, Option.some.injEq] at e2
      subst rd e2
      cases ru
      refine PySem.P.repr_of_bool ?_
      simp only [PyData.shown] at fin0
      cases b <;> exact fin0 _ _
    | int i =>
      simp only [R] at rd
      simp only [toPyR, Option.some.injEq] at e2
      subst rd e2
      obtain ⟨t, rfl⟩ := ru
      refine PySem.P.repr_of_int (by simpa [PyData.showable] using sh) ?_
      simp only [PyData.shown] at fin0
      exact fin0 _ _
    | str z =>
      simp only [R] at rd
      simp only [toPyR, Option.some.injEq] at e2
      subst rd e2
      obtain ⟨t, rfl⟩ := ru
      simp only [PyData.shown] at fin0 sz
      exact PySem.P.repr_of_str (fin0 _ _) sz
    | lst ds =>
      simp only [R] at rd
      simp only [toPyR] at e2
      obtain ⟨ps, e3, rfl⟩ := Option.map_eq_some_iff.mp e2
      obtain ⟨a, vs, rfl, h2, h3⟩ := rd
      cases ru
      obtain ⟨its, rv, ⟨o, n, ho, hc, _, hd⟩, _⟩ := I.list (SqL.of h2)
      obtain ⟨as, hr, hs⟩ := readsRs I ds vs its ps h3 rv e3
      simp only [okr, Bool.or_eq_true] at ok
      have sm : PyData.hasDictAll ps = true → sysModules ∉ as := fun z => by
        rcases ok with y | y
        · rw [z] at y
          cases y
        · exact hs y
      have S := list_shows (prog := X.prog) (w := X.w) ho hc hd hr (by simpa [PyData.showable] using sh) sm sz
      refine call_repr_slot (by omega) (S.typeIs s fun _ _ z => z) S.slotRepr (S.call X.A.in1 _ s _ hG ?_ (fun _ _ z => z) fun h' v tk hk => ⟨_, _, rfl, fin h' tk v hk⟩)
      show X.A.units + 1 + _ < cLine
      omega
    | tup ds =>
      obtain ⟨ps, e3, e4⟩ := Option.map_eq_some_iff.mp (show (toPyRs ds).map PyData.tuple = some p by simpa only [toPyR] using e2)
      obtain ⟨as, reads, ns⟩ := readsR I (.tup ds) x u p rd ru e2
      subst e4
      simp only [okr, Bool.or_eq_true] at ok
      simp only [R] at rd
      obtain ⟨a, vs, rfl, h2, h3⟩ := rd
      cases ru
      refine repr_of_reads' reads sh (fun z => ?_) hG room (fun _ _ z => z) (fun h' v tk hk => fin h' tk v hk) sz
      simp only [PyData.hasDict] at z
      rcases ok with y | y
      · rw [z] at y
        cases y
      · exact ns (by simpa only [noList] using y)
    | dic ks ds =>
      have ep : PyData.dict [] = p := by
        cases ks <;> cases ds <;> simp [toPyR] at e2
        exact e2
      subst ep
      obtain ⟨as, reads, ns⟩ := readsR I (.dic ks ds) x u _ rd ru e2
      simp only [R] at rd
      obtain ⟨a, vs, rfl, h2, h3⟩ := rd
      cases ru
      refine repr_of_reads' reads sh (fun _ => ns ?_) hG room (fun _ _ z => z) (fun h' v tk hk => fin h' tk v hk) sz
      simp only [noList]
    | scr _ => simp [toPyR] at e2
    | ty _ => simp [toPyR] at e2
    | dit _ _ => simp [toPyR] at e2
    | obj _ _ _ => simp [toPyR] at e2
  · cases e
end
end DL
set_option Elab.async false
set_option linter.all false
set_option maxRecDepth 100000
set_option maxHeartbeats 1000000
namespace DL
open PySem PySem.Spec L2

/-! ### sorted, from what is gathered -/
section
variable {X : Cx}
/-- what gathering the value u comes to: the texts ss, in some order -/
def GathAt (X : Cx) (s : Shared) (u : Value) (ss : List Str) : Prop := ∀ (Q : List Value → Shared → Prop),
  (∀ (s2 : Shared) (us : List Value) (ts : List Str), (∀ b o, s.heap.get? b = some o → s2.heap.get? b = some o) → s2.gens = s.gens → s2.os = s.os → ts.Perm ss → Vals (ts.map V.str) us → Q us s2) →
    wpAny (model X.prog X.w) X.A.in1 (collect u) Q X.xe s
theorem Inv.ahead {pins : List (Addr × Obj)} {σ : L2.St} {H : Hp} {s s2 : Shared} (I : Inv X pins σ H s) (k : ∀ b o, s.heap.get? b = some o → s2.heap.get? b = some o) (g : s2.gens = s.gens) (o : s2.os = s.os) : Inv X pins σ H s2 := by
  have J : Inv X pins σ H { s with heap := s2.heap, gens := s2.gens, drawn := s2.drawn, toks := s2.toks } := I.call (ch := []) (Un.kept k) (I.hok.kept k) (by rw [g]; exact I.bare) (fun _ z => nomatch z)
  have e : s2 = { s with heap := s2.heap, gens := s2.gens, drawn := s2.drawn, toks := s2.toks } := by
    cases s2
    cases s
    cases o
    rfl
  rw [e]
  exact J
open PyProof.Rows in
theorem sort_run {pins : List (Addr × Obj)} {σ : L2.St} {H : Hp} {s : Shared} {u : Value} {Q : VK} {ss : List Str} (I : Inv X pins σ H s) (h64 : ss.length < 64) (hc : GathAt X s u ss)
    (q : ∀ p, H p = none → Q (.ref p) (upd H p (.lst ((sortS ss).map V.str)))) : wpAny (model X.prog X.w) X.A (call (.builtin "sorted") [u]) (EP X pins σ Q) X.xe s := by
  apply PySem.Calls.call_function_entry kind_sorted plain_sorted entry_sorted (args_sorted1 _)
  unfold Builtin.«sorted»
  apply wpAny_bind (m := checkCount "sorted" 1 1 _)
  apply wpAny_pure
  apply wpAny_bind
  refine hc _ fun s2 acc ts kp hgens hos pm hv => ?_
  have hS : StrsAre acc ts := hv.strs
  have hal : acc.length = ss.length := by
    have z := hv.length
    rw [List.length_map] at z
    exact z.symm.trans pm.length_eq
  have line : acc.length ≤ sizeLine := by
    rw [hal, sizeLine_eq]
    omega
  have I1 : Inv X pins σ H s2 := Inv.ahead I kp hgens hos
  clear hc hgens hos kp
  obtain ⟨h', gg, dd, tk, oo⟩ := s2
  apply wpAny_bind
  refine wpAny_newList ?_ line
  have hoL : (h'.push (seqObj "list" acc.toArray 0)).get? h'.objs.size = some (seqObj "list" acc.toArray 0) := Heap.get?_push_size _ rfl
  apply wpAny_bind
  apply wpAny_holding
  refine wpAny_call_entry slot_list_sort ⟨_, hoL, rfl⟩ entry_list_sort (list_sort_treeK strKind_oneLt (s := { heap := h'.push (seqObj "list" acc.toArray 0), gens := gg, drawn := dd, toks := tk, os := oo }) hoL hS.keysOf
    (fun v₁ v₂ rest e => keyKind_strs (by rw [← e]; exact hS)) (by rw [hal]; exact h64) fun st' hp hs => ⟨_, rfl, ?_⟩) (args_list_sort _)
  obtain ⟨ys, g1, g2, g3⟩ := sorted_out_str hS hp hs
  obtain ⟨e', he'⟩ := sortedHeap_at (vs := acc) (out := (arrOf st').map (·.2)) hoL
  have ey : ys = sortS ss := (sorted_is g2 g3).trans (sortS_same pm)
  have hlen : (ys.map V.str).length ≤ sizeLine := by
    rw [List.length_map, g2.length_eq, pm.length_eq, sizeLine_eq]
    omega
  have hn : H h'.objs.size = none := I1.hok.fresh (Nat.le_refl _)
  have old : ∀ b o, h'.get? b = some o → (sortedHeap (h'.push (seqObj "list" acc.toArray 0)) h'.objs.size acc ((arrOf st').map (·.2))).get? b = some o := fun b o e => by
    have hb : b < h'.objs.size := Heap.lt_size e
    rw [sortedHeap_old (Nat.ne_of_lt hb) (by rw [size_push']; exact Nat.lt_succ_of_lt hb)]
    exact Heap.get?_push_of_some _ e
  have ob : ObjOk X.prog X.w (upd H h'.objs.size (.lst (ys.map V.str))) (sortedHeap (h'.push (seqObj "list" acc.toArray 0)) h'.objs.size acc ((arrOf st').map (·.2))) h'.objs.size (.lst (ys.map V.str)) :=
    ⟨hlen, ((arrOf st').map (·.2)).toList, e', vals_of_strs g1, by rw [Array.toArray_toList]; exact he'⟩
  have qq := q _ hn
  rw [← ey] at qq
  exact wpAny_pure ⟨_, rfl, .ref h'.objs.size, upd H h'.objs.size (.lst (ys.map V.str)), I1.laid (t' := tk) old (Nat.le_refl _) ob, rfl, qq⟩
theorem gath_seq {pins : List (Addr × Obj)} {σ : L2.St} {H : Hp} {s : Shared} {a : Addr} {ss : List Str} (I : Inv X pins σ H s) (h : SqL X.K H a (ss.map V.str) ∨ SqT X.K H a (ss.map V.str)) : GathAt X s (.ref a) ss := by
  intro Q k
  rcases h with h | h
  · obtain ⟨its, rv, ⟨o, n, ho, hc, _, hd⟩, hz⟩ := I.list h
    refine wpAny_collect_seq a (.inl rfl) ho hc hd (fun h' kp => ?_) (by rw [List.size_toArray, ← rv.length]; exact hz)
    exact k _ its ss kp rfl rfl (.refl _) rv
  · obtain ⟨its, rv, ⟨o, ho, hc, n, hd⟩, hz⟩ := I.tuple h
    refine wpAny_collect_seq a (.inr rfl) ho hc hd (fun h' kp => ?_) (by rw [List.size_toArray, ← rv.length]; exact hz)
    exact k _ its ss kp rfl rfl (.refl _) rv
/-- sorted of a list or a tuple of texts (fewer than 64) -/
def dSorted : GN := d1 fun s mu => (rdQ s mu).bind fun ds => (asStrs ds).bind fun ss => if ss.length < 64 then some (.lst ((sortS ss).map D.str)) else none
theorem cr_dSorted : CallR X (.builtin "sorted") (rND X.K dSorted) := by
  intro pins st σ H xs us Q I rv q
  obtain ⟨ex, m, mu, ss, d, cf, rs, e0, k⟩ := q
  obtain ⟨s, rfl, e⟩ := d1_inv e0
  clear e0
  obtain ⟨x, rfl, r⟩ := rss1 rs
  obtain ⟨ds, e1, e⟩ := Option.bind_eq_some_iff.mp e
  obtain ⟨ts, e2, e⟩ := Option.bind_eq_some_iff.mp e
  split at e
  · rename_i hl
    cases e
    obtain ⟨a, vs, rfl, h, g⟩ := rdQ_ok cf r e1
    obtain rfl := asStrs_ok g e2
    rw [Vals.ref1 rv]
    exact sort_run I hl (gath_seq I h) fun p hp => k _ _ (grown cf hp) (new_lst cf hp (rs_strs _))
  · cases e
end

/-! ### dicts: get, put, new -/
def keyD : D → Option Key
  | .int i => some (.inl i)
  | .str x => some (.inr x)
  | _ => none
theorem keyD_ok {K : Frag} {H : Hp} {d : D} {v : V} {k : Key} (r : R K H d v) (e : keyD d = some k) : v = kV k := by
  unfold keyD at e
  split at e
  · simp only [R] at r
    cases e
    exact r
  · simp only [R] at r
    cases e
    exact r
  · cases e
def lookS (kvs : List (Key × S)) (k : Key) : Option S := (kvs.find? fun p => decide (p.1 = k)).map fun p => p.2
theorem lookS_ok {K : Frag} {m : List Addr} {H : Hp} {k : Key} : ∀ {kvs : List (Key × S)} {ws : List (Key × V)} {s : S}, RKv K m H kvs ws → lookS kvs k = some s → ∃ v, valV ws k = some v ∧ RS K m H s v
  | [], _, _, _, e => by cases e
  | p :: kvs, _, s, r, e => by
    cases r with
    | cons r t =>
      rename_i q l
      unfold lookS at e
      rw [List.find?_cons] at e
      unfold valV
      rw [List.find?_cons, ← r.1]
      by_cases h : p.1 = k
      · rw [decide_eq_true h] at e ⊢
        cases e
        exact ⟨q.2, rfl, r.2⟩
      · rw [decide_eq_false h] at e ⊢
        exact lookS_ok t e
/-- d[k] of a dict that changes -/
def dGet (s : S) (k : S) (mu : Mu) : Option S := match s, k with
  | .h j, .d kd => match mu[j]? with
    | some (some (.dic kvs)) => (keyD kd).bind fun k => lookS kvs k
    | _ => none
  | _, _ => none
section
variable {X : Cx} {o i e : Expr} {fo fi fe : WE} {pos pos' : Pos}
def wDget (fo fi : WE) : WE := fun sl mu Q => fo sl mu fun s mu1 => fi sl mu1 fun k mu2 => On (dGet s k mu2) fun r => Q r mu2
theorem re_dget (hu : X.A.units + 1 < cLine) (ho : RE X o fo) (hi : RE X i fi) (hs : NoSl i) : RE X (.Subscript o i pos) (wDget fo fi) := by
  refine pe_imp (pe_dget hu ho hi hs) fun σ H Q q => ?_
  obtain ⟨ex, m, sl, mu, Qd, cf, sr, w, k⟩ := q
  refine seq2 cf sr w fun s1 s2 mu' m' H' v1 v2 cf' e' r1 r2 q => ?_
  obtain ⟨r, er, q4⟩ := On.elim q
  unfold dGet at er
  split at er
  · split at er
    · rename_i j kd kvs em
      obtain ⟨key, ek, el⟩ := Option.bind_eq_some_iff.mp er
      obtain ⟨a, h1, rfl⟩ := r1
      obtain ⟨b, ob, g1, g2, g3⟩ := cf'.st _ _ em
      rw [h1] at g1
      cases g1
      obtain ⟨ws, rfl, g4⟩ := g3
      obtain ⟨v, ev, rv⟩ := lookS_ok g4 el
      have ey := keyD_ok r2 ek
      subst ey
      refine ⟨a, v, rfl, ?_, k _ _ _ _ _ cf' e' rv q4⟩
      have z := DGet.k (k := key) g2
      rw [ev] at z
      exact z
    · cases er
  · cases er
def putS (kvs : List (Key × S)) (k : Key) (s : S) : List (Key × S) := if (kvs.any fun p => decide (p.1 = k)) = true then kvs.map (fun p => if p.1 = k then (p.1, s) else p) else kvs ++ [(k, s)]
theorem rkv_any {K : Frag} {m : List Addr} {H : Hp} {k : Key} : ∀ {kvs : List (Key × S)} {ws : List (Key × V)}, RKv K m H kvs ws → (ws.any fun p => decide (p.1 = k)) = kvs.any fun p => decide (p.1 = k)
  | [], _, r => by
    cases r
    rfl
  | p :: kvs, _, r => by
    cases r with
    | cons r t =>
      rw [List.any_cons, List.any_cons, ← r.1, rkv_any t]
theorem rkv_map {K : Frag} {m : List Addr} {H : Hp} {k : Key} {s : S} {v : V} (rs : RS K m H s v) : ∀ {kvs : List (Key × S)} {ws : List (Key × V)}, RKv K m H kvs ws →
    RKv K m H (kvs.map fun p => if p.1 = k then (p.1, s) else p) (ws.map fun p => if p.1 = k then (p.1, v) else p)
  | [], _, r => by
    cases r
    exact .nil
  | p :: kvs, _, r => by
    cases r with
    | cons r t =>
      refine .cons ?_ (rkv_map rs t)
      rename_i q l
      obtain ⟨qk, qv⟩ := q
      obtain ⟨pk, ps⟩ := p
      obtain ⟨e1, e2⟩ := r
      simp only at e1 e2
      subst e1
      by_cases h : pk = k
      · simp only [if_pos h]
        exact ⟨by trivial, rs⟩
      · simp only [if_neg h]
        exact ⟨by trivial, e2⟩
theorem rkv_app {K : Frag} {m : List Addr} {H : Hp} {k : Key} {s : S} {v : V} (rs : RS K m H s v) : ∀ {kvs : List (Key × S)} {ws : List (Key × V)}, RKv K m H kvs ws → RKv K m H (kvs ++ [(k, s)]) (ws ++ [(k, v)])
  | [], _, r => by
    cases r
    exact .cons ⟨rfl, rs⟩ .nil
  | p :: kvs, _, r => by
    cases r with
    | cons r t => exact .cons r (rkv_app rs t)
theorem rkv_put {K : Frag} {m : List Addr} {H : Hp} {k : Key} {s : S} {v : V} {kvs : List (Key × S)} {ws : List (Key × V)} (r : RKv K m H kvs ws) (rs : RS K m H s v) : RKv K m H (putS kvs k s) (putK ws k v) := by
  unfold putS putK
  rw [rkv_any r]
  split
  · exact rkv_map rs r
  · exact rkv_app rs r
def mutD (s : S) (mu : Mu) : Option (Nat × List (Key × S)) := match s with
  | .h j => match mu[j]? with
    | some (some (.dic kvs)) => some (j, kvs)
    | _ => none
  | _ => none
theorem mutD_inv {s : S} {mu : Mu} {k : Nat} {kvs : List (Key × S)} (e : mutD s mu = some (k, kvs)) : s = .h k ∧ mu[k]? = some (some (.dic kvs)) := by
  unfold mutD at e
  split at e
  · split at e
    · rename_i em
      cases e
      exact ⟨rfl, em⟩
    · cases e
  · cases e
/-- d[k] = v -/
def wDput (fo fi fe : WE) : WS := fun E sl mu => fe sl mu fun v mu1 => fo sl mu1 fun s mu2 => fi sl mu2 fun k mu3 => match k with
  | .d kd => On (keyD kd) fun key => On (mutD s mu3) fun p => p.2.length < sizeLine ∧ E.nx sl (mu3.set p.1 (some (.dic (putS p.2 key v))))
  | .h _ => False
theorem rs_dput (hu : X.A.units + 1 < cLine) (ho : RE X o fo) (hi : RE X i fi) (he : RE X e fe) (hs : swapsWith e (some (.Subscript o i pos')) pos.line X.env = pure false := by rfl) :
    RSt X (.Assign [.Subscript o i pos'] e pos) (wDput fo fi fe) := by
  refine ps_imp (ps_dput hu ho hi he hs) fun E σ H q => ?_
  obtain ⟨ex, m, sl, mu, Ed, cf, sr, w, k, _⟩ := q
  refine ⟨ex, m, sl, mu, _, cf, sr, w, fun v mu1 m1 H1 x1 cf1 e1 r1 q1 => ?_⟩
  refine ⟨ex, m1, sl, mu1, _, cf1, sr.ext e1, q1, fun s mu2 m2 H2 x2 cf2 e2 r2 q2 => ?_⟩
  refine ⟨ex, m2, sl, mu2, _, cf2, sr.ext (e1.trans e2), q2, fun kk mu3 m3 H3 x3 cf3 e3 r3 q3 => ?_⟩
  cases kk with
  | h _ => exact q3.elim
  | d kd =>
    obtain ⟨key, ek, q3⟩ := On.elim q3
    obtain ⟨⟨j, kvs⟩, em, q4⟩ := On.elim q3
    clear q3
    obtain ⟨hz, q5⟩ := q4
    obtain ⟨es, em2⟩ := mutD_inv em
    subst es
    obtain ⟨a, h1, rfl⟩ := r2.ext e3
    obtain ⟨b, ob, g1, g2, g3⟩ := cf3.st _ _ em2
    rw [h1] at g1
    cases g1
    obtain ⟨ws, rfl, g4⟩ := g3
    have ey := keyD_ok r3 ek
    subst ey
    have rv := (r1.ext e2).ext e3
    have hlw : ws.length = kvs.length := (Paired.length g4).symm
    obtain ⟨c4, e4⟩ := cf3.chg (mo' := .dic (putS kvs key v)) (o := .dK (putK ws key x1)) h1 em2 ⟨_, rfl, rkv_put g4 rv⟩
    have ee := ((e1.trans e2).trans e3).trans e4
    refine ⟨a, _, rfl, DPut.k g2 (by rw [hlw]; exact hz), (k _ _ _ _ _ c4 ee (sr.ext ee)).1 q5⟩

/-! new dicts -/
/-- {}: data -/
theorem re_emptyD : RE X (.Dict [] [] pos) (wC (.dic [] [])) := by
  refine pe_imp pe_dnewK fun σ H Q q => ?_
  obtain ⟨ex, m, sl, mu, Qd, cf, sr, w, k⟩ := q
  intro p hp
  have gr := grown (o := .dK []) cf hp
  refine k (.d (.dic [] [])) _ _ _ _ gr.1 gr.2 ?_ w
  simp only [RS, R]
  exact ⟨p, [], rfl, vw_new cf hp, rfl, Rs.nil⟩
/-- the pairs of a display -/
def wPairs : List (WE × WE) → Sl → Mu → (List (S × S) → Mu → Prop) → Prop
  | [], _, mu, Q => Q [] mu
  | (fk, fv) :: r, sl, mu, Q => fk sl mu fun k mu1 => fv sl mu1 fun v mu2 => wPairs r sl mu2 fun ps mu3 => Q ((k, v) :: ps) mu3
def trsOf (K : Frag) (fs : List (WE × WE)) : List (TE × TE) := fs.map fun p => (tE K p.1, tE K p.2)
def RPs (X : Cx) (pos : Pos) (keys : List (Option Expr)) (values : List Expr) (fs : List (WE × WE)) : Prop := PPs X pos keys values (trsOf X.K fs)
theorem rps_nil : RPs X pos [] [] [] := pps_nil
theorem rps_cons {k v : Expr} {ks : List (Option Expr)} {vs : List Expr} {fk fv : WE} {fs : List (WE × WE)} (hk : RE X k fk) (hv : RE X v fv) (hr : RPs X pos ks vs fs) : RPs X pos (some k :: ks) (v :: vs) ((fk, fv) :: fs) := pps_cons hk hv hr
theorem pairs_red {K : Frag} {σ : L2.St} : ∀ (fs : List (WE × WE)) {H : Hp} {Q : List (V × V) → Hp → Prop} {ex m : List Addr} {sl : Sl} {mu : Mu} {Qd : List (S × S) → Mu → Prop}, Cfg K ex m mu H → SlR K m (vw ex m mu H) sl σ → wPairs fs sl mu Qd →
    (∀ ps mu' m' H' vs, Cfg K ex m' mu' H' → Ext ex m mu H m' mu' H' → Paired (fun (p : S × S) (q : V × V) => RS K m' (vw ex m' mu' H') p.1 q.1 ∧ RS K m' (vw ex m' mu' H') p.2 q.2) ps vs → Qd ps mu' → Q vs H') → tPairs (trsOf K fs) σ H Q
  | [], H, Q, ex, m, sl, mu, Qd, cf, sr, w, k => k [] _ _ _ [] cf Ext.refl .nil w
  | (fk, fv) :: fs, H, Q, ex, m, sl, mu, Qd, cf, sr, w, k => by
    refine ⟨ex, m, sl, mu, _, cf, sr, w, fun s1 mu1 m1 H1 v1 cf1 e1 r1 q1 => ?_⟩
    refine ⟨ex, m1, sl, mu1, _, cf1, sr.ext e1, q1, fun s2 mu2 m2 H2 v2 cf2 e2 r2 q2 => ?_⟩
    refine pairs_red fs cf2 (sr.ext (e1.trans e2)) q2 fun ps mu3 m3 H3 vs cf3 e3 rs q3 => ?_
    exact k _ _ _ _ _ cf3 ((e1.trans e2).trans e3) (.cons ⟨(r1.ext e2).ext e3, r2.ext e3⟩ rs) q3
def keysOf2 : List (S × S) → Option (List (Key × S))
  | [] => some []
  | (.d k, v) :: r => match keyD k, keysOf2 r with
    | some k, some l => some ((k, v) :: l)
    | _, _ => none
  | (.h _, _) :: _ => none
def putAll (kvs more : List (Key × S)) : List (Key × S) := more.foldl (fun acc p => putS acc p.1 p.2) kvs
theorem rkv_merge {K : Frag} {m : List Addr} {H : Hp} : ∀ {more : List (Key × S)} {ws : List (Key × V)} {kvs : List (Key × S)} {us : List (Key × V)}, RKv K m H more ws → RKv K m H kvs us → RKv K m H (putAll kvs more) (mergeK us ws)
  | [], _, kvs, us, r, g => by
    cases r
    exact g
  | p :: more, _, kvs, us, r, g => by
    cases r with
    | cons r t =>
      rename_i q l
      have z := rkv_put (k := p.1) g r.2
      have z2 : RKv K m H (putS kvs p.1 p.2) (putK us q.1 q.2) := by
        rw [← r.1]
        exact z
      exact rkv_merge (more := more) (ws := l) t z2
theorem keys_ok {K : Frag} {m : List Addr} {H : Hp} : ∀ {ps : List (S × S)} {vs : List (V × V)} {kvs : List (Key × S)}, Paired (fun (p : S × S) (q : V × V) => RS K m H p.1 q.1 ∧ RS K m H p.2 q.2) ps vs → keysOf2 ps = some kvs →
    ∃ ws : List (Key × V), vs = ws.map (fun kv => (kV kv.1, kv.2)) ∧ RKv K m H kvs ws ∧ ws.length = ps.length
  | [], _, kvs, r, e => by
    cases r
    cases e
    exact ⟨[], rfl, .nil, rfl⟩
  | (.h _, _) :: _, _, _, _, e => by cases e
  | (.d kd, v) :: ps, _, kvs, r, e => by
    cases r with
    | cons r t =>
      rename_i q l
      unfold keysOf2 at e
      split at e
      · rename_i key l2 e1 e2
        cases e
        obtain ⟨ws, h1, h2, h3⟩ := keys_ok t e2
        refine ⟨(key, q.2) :: ws, ?_, .cons ⟨rfl, r.2⟩ h2, by rw [List.length_cons, List.length_cons, h3]⟩
        rw [h1]
        have := keyD_ok r.1 e1
        rw [List.map_cons, ← this]
      · cases e
/-- {k: v, ..} that will change -/
def wDisp (fs : List (WE × WE)) : WE := fun sl mu Q => wPairs fs sl mu fun ps mu1 => ps.length ≤ 15 ∧ On (keysOf2 ps) fun kvs => Q (.h mu1.length) (mu1 ++ [some (.dic (putAll [] kvs))])
theorem re_disp {keys : List (Option Expr)} {values : List Expr} {fs : List (WE × WE)} (h : RPs X pos keys values fs) (hall : keys.all (·.isSome) = true := by rfl) (hl : keys.length = values.length := by rfl) (h0 : keys ≠ [] := by exact fun z => by cases z) (h15 : keys.length ≤ 15 := by decide) :
    RE X (.Dict keys values pos) (wDisp fs) := by
  refine pe_imp (pe_disp h hall hl h0 h15) fun σ H Q q => ?_
  obtain ⟨ex, m, sl, mu, Qd, cf, sr, w, k⟩ := q
  intro p hp
  have np : p ∉ ex := fun z => by
    obtain ⟨o, e⟩ := cf.exH p z
    rw [hp] at e
    cases e
  have c1 : Cfg X.K (p :: ex) m mu (upd H p (.dK [])) := cf.hide hp
  have s1 : SlR X.K m (vw (p :: ex) m mu (upd H p (.dK []))) sl σ := by
    rw [vw_hide hp]
    exact sr
  refine pairs_red fs c1 s1 w fun ps mu2 m2 H2 vs cf2 e2 rs q2 => ?_
  obtain ⟨hn, q2⟩ := q2
  obtain ⟨kvs, ek, q2⟩ := On.elim q2
  obtain ⟨ws, h1, h2, h3⟩ := keys_ok rs ek
  have hp2 : H2 p = some (.dK []) := by rw [e2.exk p (List.mem_cons_self ..), upd_same]
  refine ⟨hp2, ws, h1, by rw [h3]; exact hn, ?_⟩
  -- the new dict joins the store
  have nm : p ∉ m2 := cf2.exd p (List.mem_cons_self ..)
  have nl : ∀ k : Nat, m2[k]? ≠ some p := fun k z => nm (List.mem_of_getElem? z)
  have rm : RM X.K m2 (vw (p :: ex) m2 mu2 H2) (.dic (putAll [] kvs)) (.dK (mergeK [] ws)) := ⟨_, rfl, rkv_merge h2 .nil⟩
  have sm : Same (vw (p :: ex) m2 mu2 H2) (vw ex (m2 ++ [p]) (mu2 ++ [some (.dic (putAll [] kvs))]) (upd H2 p (.dK (mergeK [] ws)))) := fun b u z => by
    obtain ⟨z1, z2, z3⟩ := vw_some.mp z
    have nb : b ≠ p := fun y => z1 (by rw [y]; exact List.mem_cons_self ..)
    refine vw_some.mpr ⟨fun y => z1 (List.mem_cons_of_mem _ y), fun y => ?_, by rw [upd_ne nb]; exact z3⟩
    rcases (lv_new cf2.len).mp y with y | y
    · exact z2 y
    · exact nb y
  have c3 : Cfg X.K ex (m2 ++ [p]) (mu2 ++ [some (.dic (putAll [] kvs))]) (upd H2 p (.dK (mergeK [] ws))) := by
    have nx : ∀ a, a ≠ p → (upd H2 p (.dK (mergeK [] ws))) a = H2 a := fun a h => upd_ne h
    refine ⟨by rw [List.length_append, List.length_append, cf2.len]; rfl, ?_, fun a ha => ?_, fun a ha => ?_, fun a ha z => ?_, fun j mo e => ?_⟩
    · rw [List.nodup_append]
      refine ⟨cf2.nd, by simp, fun a ha b hb => ?_⟩
      rw [List.mem_singleton] at hb
      rw [hb]
      exact fun z => nm (z ▸ ha)
    · rcases List.mem_append.mp ha with z | z
      · rw [nx a fun y => nm (y ▸ z)]
        exact cf2.tr a z
      · rw [List.mem_singleton] at z
        rw [z]
        exact ⟨_, upd_same⟩
    · rw [nx a fun y => np (y ▸ ha)]
      exact cf2.exH a (List.mem_cons_of_mem _ ha)
    · rcases List.mem_append.mp z with y | y
      · exact cf2.exd a (List.mem_cons_of_mem _ ha) y
      · rw [List.mem_singleton] at y
        exact np (y ▸ ha)
    · by_cases hk : j < mu2.length
      · rw [List.getElem?_append_left hk] at e
        obtain ⟨a, u, g1, g2, g3⟩ := cf2.st j mo e
        have na : a ≠ p := fun y => nl j (y ▸ g1)
        exact ⟨a, u, by rw [List.getElem?_append_left (by rw [cf2.len]; exact hk)]; exact g1, by rw [nx a na]; exact g2, g3.mono sm⟩
      · rw [List.getElem?_append_right (by omega)] at e
        have hk0 : j - mu2.length = 0 := by
          have := (List.getElem?_eq_some_iff.mp e).1
          simp at this
          omega
        rw [hk0] at e
        simp at e
        subst e
        have hk1 : j = m2.length := by
          rw [cf2.len]
          omega
        exact ⟨p, _, by rw [hk1]; simp, upd_same, rm.mono sm⟩
  obtain ⟨l, el⟩ := e2.pre
  have e3 : Ext ex m mu H (m2 ++ [p]) (mu2 ++ [some (.dic (putAll [] kvs))]) (upd H2 p (.dK (mergeK [] ws))) := by
    refine ⟨⟨l ++ [p], by rw [el, List.append_assoc]⟩, ?_, fun a ha => ?_⟩
    · have z := e2.same
      rw [vw_hide hp] at z
      exact z.trans sm
    · have na : a ≠ p := fun y => np (y ▸ ha)
      rw [upd_ne na, e2.exk a (List.mem_cons_of_mem _ ha), upd_ne na]
  exact k (.h mu2.length) _ _ _ _ c3 e3 ⟨p, by rw [← cf2.len]; simp, rfl⟩ q2

/-! new lists that will change -/
variable {es : List Expr} {fs : WA} {x : Str} {p : Pos}
theorem hnd_new {K : Frag} {ex m : List Addr} {mu : Mu} {H : Hp} {ds : List D} {vs : List V} {a : Addr} (cf : Cfg K ex m mu H) (hn : H a = none) (r : Rs K (vw ex m mu H) ds vs) :
    Cfg K ex (m ++ [a]) (mu ++ [some (.lst ds)]) (upd H a (.lst vs)) ∧ Ext ex m mu H (m ++ [a]) (mu ++ [some (.lst ds)]) (upd H a (.lst vs)) ∧ RS K (m ++ [a]) (vw ex (m ++ [a]) (mu ++ [some (.lst ds)]) (upd H a (.lst vs))) (.h mu.length) (.ref a) := by
  obtain ⟨c, e⟩ := cf.add (mo := .lst ds) (o := .lst vs) hn ⟨vs, rfl, r⟩
  exact ⟨c, e, a, by rw [← cf.len]; simp, rfl⟩
/-- list(xs) -/
def wListM (fs : WA) : WE := fun sl mu Q => fs sl mu fun ss mu1 => match ss with
  | [s] => On (rdQ s mu1) fun ds => Q (.h mu1.length) (mu1 ++ [some (.lst ds)])
  | _ => False
theorem re_listM (hg : Gl X x) (hm : X.mg x = none) (hv : bootBuiltins x = some (.type "list")) (ha : RA X [e] fs) (hn : x ≠ "__name__" := by decide) (hdb : (x == ("__debug__" : Str)) = false := by decide)
    (he : starEach [e] X.env = (false, eval e X.env) :: starEach [] X.env := by rfl) : RE X (.Call (.Name x p) [e] [] pos) (wListM fs) := by
  refine pe_imp (pe_callTy call_list_of hg hm hv ha hn hdb he rfl) fun σ H Q q => ?_
  obtain ⟨ex, m, sl, mu, Qd, cf, sr, w, k⟩ := q
  refine ⟨ex, m, sl, mu, _, cf, sr, w, fun ss mu1 m1 H1 vs cf1 e1 r1 q1 => ?_⟩
  split at q1
  · obtain ⟨ds, ed, q1⟩ := On.elim q1
    obtain ⟨y, rfl, r⟩ := rss1 r1
    obtain ⟨a, ws, rfl, hq, g⟩ := rdQ_ok cf1 r ed
    refine ⟨a, ws, rfl, hq, fun l hl => ?_⟩
    obtain ⟨c, e2, rr⟩ := hnd_new cf1 hl g
    exact k _ _ _ _ _ c (e1.trans e2) rr q1
  · exact q1.elim
/-- xs[::-1] -/
def wRevM (fa : WE) : WE := fun sl mu Q => fa sl mu fun s mu1 => On (rdL s mu1) fun ds => Q (.h mu1.length) (mu1 ++ [some (.lst ds.reverse)])
theorem re_revM {k : Nat} {p1 p2 p3 : Pos} (ha : RE X e fe) : RE X (.Subscript e (.Slice none none (some (.UnaryOp .USub (.Constant (.int 1) k p1) p2)) p3) pos) (wRevM fe) := by
  refine pe_imp (pe_revL ha) fun σ H Q q => ?_
  obtain ⟨ex, m, sl, mu, Qd, cf, sr, w, k⟩ := q
  refine ⟨ex, m, sl, mu, _, cf, sr, w, fun s mu1 m1 H1 v cf1 e1 r1 q1 => ?_⟩
  obtain ⟨ds, ed, q1⟩ := On.elim q1
  obtain ⟨a, vs, rfl, h, g⟩ := rdL_ok cf1 r1 ed
  refine ⟨a, vs, rfl, SqL.of h, fun l hl => ?_⟩
  obtain ⟨c, e2, rr⟩ := hnd_new cf1 hl g.reverse
  exact k _ _ _ _ _ c (e1.trans e2) rr q1
end
end DL
set_option Elab.async false
set_option linter.all false
set_option maxRecDepth 100000
set_option maxHeartbeats 3200000
/-! DJ0: sets of keys of one kind that can be walked; set(xs); sorted(set(xs)) -/
namespace DL
open PySem PySem.Spec L2 PyProof.Rows
section
variable {P : Program} {w : World} {κ : Type} [DecidableEq κ]
/-- the rows of a set's table, and their keys -/
def Rws (kd : PySem.KeyKind P w κ) : List (Int × Value) → List κ → Prop := Paired fun e k => kd.is k e.2 = true ∧ e.1 = kd.hash k ∧ e.2.scannable = true
def SetG (kd : PySem.KeyKind P w κ) (h : Heap) (a : Addr) (ks : List κ) : Prop :=
  ∃ ob el ec tb ms, h.get? a = some ob ∧ ob.ExactSet ∧ ob.data = .set el ec tb ∧ Rws kd el.toList ms ∧ ms.Perm ks ∧ ks.Nodup ∧ el.size < scanBound ∧ tb.fits el.size = true ∧ Ris tb.place.toList ∧
    (w.params.followText "set-order" = true ∨ tb.led = true)
variable {kd : PySem.KeyKind P w κ}
theorem rws_elems : ∀ {es : List (Int × Value)} {ms : List κ}, Rws kd es ms → ElemsOf kd es
  | [], _, _ => fun e he => by cases he
  | e :: es, _, r => by
    cases r with
    | cons p q =>
      rename_i k ms
      intro x hx
      rcases List.mem_cons.mp hx with z | z
      · rw [z]
        exact ⟨⟨k, p.1, p.2.1⟩, p.2.2⟩
      · exact rws_elems q x z
theorem rws_mem {k : κ} : ∀ {es : List (Int × Value)} {ms : List κ}, Rws kd es ms → (k ∈ ms ↔ ∃ e ∈ es, kd.is k e.2 = true)
  | [], _, r => by
    cases r
    simp
  | e :: es, _, r => by
    cases r with
    | cons p q =>
      rename_i k0 ms
      rw [List.mem_cons, rws_mem q]
      constructor
      · rintro (z | ⟨x, h1, h2⟩)
        · exact ⟨e, List.mem_cons_self .., by rw [z]; exact p.1⟩
        · exact ⟨x, List.mem_cons_of_mem _ h1, h2⟩
      · rintro ⟨x, h1, h2⟩
        rcases List.mem_cons.mp h1 with z | z
        · rw [z] at h2
          exact .inl (kd.inj _ _ _ h2 p.1)
        · exact .inr ⟨x, z, h2⟩
theorem rws_perm {es fs : List (Int × Value)} (pm : es.Perm fs) : ∀ {ms : List κ}, Rws kd es ms → ∃ ns, Rws kd fs ns ∧ ns.Perm ms := by
  induction pm with
  | nil =>
    intro ms r
    exact ⟨ms, r, .refl _⟩
  | cons x pq ih =>
    intro ms r
    cases r with
    | cons p q =>
      rename_i k ms
      obtain ⟨ns, h1, h2⟩ := ih q
      exact ⟨k :: ns, .cons p h1, h2.cons k⟩
  | swap x y l =>
    intro ms r
    cases r with
    | cons p q =>
      rename_i k ms
      cases q with
      | cons p2 q2 =>
        rename_i k2 ms2
        exact ⟨k2 :: k :: ms2, .cons p2 (.cons p q2), .swap _ _ _⟩
  | trans _ _ ih1 ih2 =>
    intro ms r
    obtain ⟨ns, h1, h2⟩ := ih1 r
    obtain ⟨ns2, h3, h4⟩ := ih2 h1
    exact ⟨ns2, h3, h4.trans h2⟩
theorem rws_len {es : List (Int × Value)} {ms : List κ} (r : Rws kd es ms) : es.length = ms.length := Paired.length r
theorem SetG.at {h h2 : Heap} {a : Addr} {ks : List κ} (G : SetG kd h a ks) (k : ∀ ob, h.get? a = some ob → h2.get? a = some ob) : SetG kd h2 a ks := by
  obtain ⟨ob, el, ec, tb, ms, ho, r⟩ := G
  exact ⟨ob, el, ec, tb, ms, k ob ho, r⟩
theorem SetG.perm {h : Heap} {a : Addr} {ks ls : List κ} (G : SetG kd h a ks) (pm : ks.Perm ls) : SetG kd h a ls := by
  obtain ⟨ob, el, ec, tb, ms, h1, h2, h3, h4, h5, h6, r⟩ := G
  exact ⟨ob, el, ec, tb, ms, h1, h2, h3, h4, h5.trans pm, pm.nodup_iff.mp h6, r⟩

variable {A : Around} {E : Value → Shared → Prop} {s : Shared} {a : Addr}
theorem addG_tail {g : Bool → Sem Unit} (hg : ∀ (b : Bool) (s1 : Shared) (Q1 : Unit → Shared → Prop), Q1 () s1 → wpAny (model P w) A (g b) Q1 E s1)
    {ob : Obj} {el e1 : Array (Int × Value)} {ec : Nat} {tb t2 : SetTable} {ms ks : List κ} (ho : s.heap.get? a = some ob) (hx : ob.ExactSet) (hd : ob.data = .set el ec tb)
    (rw1 : Rws kd e1.toList ms) (pk : ms.Perm ks) (nk : ks.Nodup) (few : e1.size < scanBound) (fit2 : t2.fits e1.size = true) (ris2 : Ris t2.place.toList) (led2 : w.params.followText "set-order" = true ∨ t2.led = true) {was : Bool} {R : Option Bool → Shared → Prop}
    (fin : ∀ h2, Heap.SameBut a s.heap h2 → SetG kd h2 a ks → R (some true) { s with heap := h2 }) :
    wpAny (model P w) A (do
        storeSet a e1 t2
        if (!was && t2.tooFull) = true then do
            g (relayAll t2 e1 (SetTable.grown e1.size)).2.2
            storeSet a (relayAll t2 e1 (SetTable.grown e1.size)).1 (relayAll t2 e1 (SetTable.grown e1.size)).2.1
            pure (some true)
          else pure (some true)) R E s := by
  refine wpAny_bind (wpAny_storeSet_of ho hd ?_ (fits_of_scanBound few))
  have at1 := store_at (es' := e1) (t' := t2) ho hd
  have but1 := Heap.SameBut.update s.heap a (Obj.putSet e1 t2)
  split
  · have q1 := relayAll_perm t2 e1 (SetTable.grown e1.size)
    have q2 := relayAll_fits t2 e1 (SetTable.grown e1.size)
    have q3 := relayAll_ris t2 e1 (SetTable.grown e1.size)
    have q4 := relayAll_led t2 e1 (SetTable.grown e1.size)
    generalize relayAll t2 e1 (SetTable.grown e1.size) = Y at q1 q2 q3 q4 ⊢
    obtain ⟨e2, t3, way⟩ := Y
    dsimp only at q1 q2 q3 q4 ⊢
    have sz : e2.size = e1.size := by rw [← Array.length_toList, q1.length_eq, Array.length_toList]
    have few2 : e2.size < scanBound := by rw [sz]; exact few
    refine wpAny_bind (hg _ _ _ ?_)
    refine wpAny_bind (wpAny_storeSet_of at1 rfl ?_ (fits_of_scanBound few2))
    have at2 := store_at (es' := e2) (t' := t3) at1 rfl
    obtain ⟨ns, r2, p2⟩ := rws_perm q1.symm rw1
    exact wpAny_pure (fin _ (but1.trans (Heap.SameBut.update _ a _)) ⟨_, e2, _, t3, ns, at2, hx, rfl, r2, p2.trans pk, nk, few2, q2, q3, led2.imp id fun z => by rw [q4]; exact z⟩)
  · exact wpAny_pure (fin _ but1 ⟨_, e1, _, t2, ms, at1, hx, rfl, rw1, pk, nk, few, fit2, ris2, led2⟩)

def withK (ks : List κ) (k : κ) : List κ := if k ∈ ks then ks else k :: ks
theorem addG {k : κ} {x : Value} {ks : List κ} {Q : Bool → Shared → Prop} (hk : kd.is k x = true) (sc : x.scannable = true) (G : SetG kd s.heap a ks) (room : ks.length + 1 < scanBound)
    (fin : ∀ h2, Heap.SameBut a s.heap h2 → SetG kd h2 a (withK ks k) → ∀ b, Q b { s with heap := h2 }) :
    wpAny (model P w) A (setAddHashed a x (kd.hash k)) Q E s := by
  obtain ⟨ob, el, ec, tb, ms, ho, hx, hd, rw0, pk, nk, few, fit, ris, led⟩ := G
  have elems := rws_elems rw0
  have hlen : el.size = ks.length := by rw [← Array.length_toList, rws_len rw0, pk.length_eq]
  unfold setAddHashed setAddHashedIn
  refine wpAny_holding (wpAny_bind (wpAny_setState_of ho hd fit ?_))
  dsimp only
  rw [byScan_of sc few elems]
  simp only [↓reduceIte]
  unfold setAddByScan
  refine wpAny_bind ?_
  refine wpAny_bind (wpAny_rule ?_)
  refine wpAny_bind (wpAny_setScan_of hk ho hd fit elems ?_)
  cases hi : List.findIdx? (fun e => kd.is k e.2) el.toList with
  | some j =>
    dsimp only
    obtain ⟨hj, pj, _⟩ := List.findIdx?_eq_some_iff_getElem.mp hi
    have hin : k ∈ ks := pk.mem_iff.mp ((rws_mem rw0).mpr ⟨el.toList[j], List.getElem_mem hj, pj⟩)
    refine wpAny_pure (wpAny_pure ?_)
    refine fin s.heap (Heap.SameBut.refl a s.heap) ?_ _
    unfold withK
    rw [if_pos hin]
    exact ⟨ob, el, ec, tb, ms, ho, hx, hd, rw0, pk, nk, few, fit, ris, led⟩
  | none =>
    dsimp only
    have hout : k ∉ ks := fun z => by
      obtain ⟨e, he, y⟩ := (rws_mem rw0).mp (pk.mem_iff.mpr z)
      have c := List.findIdx?_eq_none_iff.mp hi e he
      rw [y] at c
      cases c
    have calm : ∀ (b : Bool) {s1 : Shared} {Q1 : Unit → Shared → Prop}, Q1 () s1 → wpAny (model P w) A (match b with | true => rule "set.scan.the-table-gave-way" | false => pure ()) Q1 E s1 :=
      fun b s1 Q1 y => by cases b <;> first | exact wpAny_pure y | exact wpAny_rule y
    have q1 := layNew_perm tb el (kd.hash k) x
    have q2 := layNew_fits tb el (kd.hash k) x
    have q3 := layNew_ris tb el (kd.hash k) x ris
    have q4 := layNew_led tb el (kd.hash k) x
    generalize layNew tb el (kd.hash k) x = Y at q1 q2 q3 q4 ⊢
    obtain ⟨e1, t1, was, way⟩ := Y
    dsimp only at q1 q2 q3 q4 ⊢
    rw [Array.toList_push] at q1
    have pc : e1.toList.Perm ((kd.hash k, x) :: el.toList) := q1.trans (List.perm_append_singleton _ _)
    have rw1 : Rws kd ((kd.hash k, x) :: el.toList) (k :: ms) := .cons ⟨hk, rfl, sc⟩ rw0
    obtain ⟨ns, r2, p2⟩ := rws_perm pc.symm rw1
    have pk2 : ns.Perm (k :: ks) := p2.trans (pk.cons k)
    have nk2 : (k :: ks).Nodup := List.nodup_cons.mpr ⟨hout, nk⟩
    have sz : e1.size = ks.length + 1 := by rw [← Array.length_toList, pc.length_eq, List.length_cons, Array.length_toList, hlen]
    have few1 : e1.size < scanBound := by rw [sz]; exact room
    have led1 : w.params.followText "set-order" = true ∨ t1.led = true := led.imp id fun z => by rw [q4]; exact z
    have fin2 : ∀ h2, Heap.SameBut a s.heap h2 → SetG kd h2 a (k :: ks) → Q true { s with heap := h2 } := fun h2 sb r => by
      refine fin h2 sb ?_ true
      unfold withK
      rw [if_neg hout]
      exact r
    refine wpAny_bind (calm _ ?_)
    split
    · refine wpAny_bind ?_
      rw [hashByValue_scannable 8 sc]
      refine wpAny_pure ?_
      refine addG_tail ?_ ho hx hd r2 pk2 nk2 few1 ?_ ?_ ?_ ?_
      · intro b s1 Q1 y; cases b <;> first | exact wpAny_pure y | exact wpAny_rule y
      · first | (split <;> first | exact q2 | exact SetTable.fits_plain_off q2) | exact q2
      · first | (split <;> exact q3) | exact q3
      · first | (split <;> exact led1) | exact led1
      · intro h2 sb r; dsimp only; exact wpAny_pure (fin2 h2 sb r)
    · refine wpAny_bind (wpAny_pure ?_)
      simp only [↓reduceIte]
      refine addG_tail ?_ ho hx hd r2 pk2 nk2 few1 q2 q3 led1 ?_
      · intro b s1 Q1 y; cases b <;> first | exact wpAny_pure y | exact wpAny_rule y
      · intro h2 sb r; dsimp only; exact wpAny_pure (fin2 h2 sb r)
end
end DL
set_option Elab.async false
set_option linter.all false
set_option maxRecDepth 100000
set_option maxHeartbeats 3200000
/-! DJ1: set(xs) of a list or a tuple whose members are keys of one kind -/
namespace DL
open PySem PySem.Spec L2 PyProof.Rows
section
variable {P : Program} {w : World} {κ : Type} [DecidableEq κ] {kd : PySem.KeyKind P w κ} {A : Around} {E : Value → Shared → Prop} {s : Shared}
def withAll (xs : List κ) : List κ → List κ := fun ks => xs.foldl withK ks
theorem withK_len (ks : List κ) (k : κ) : (withK ks k).length ≤ ks.length + 1 := by
  unfold withK
  split
  · omega
  · rw [List.length_cons]
    omega
def GoodAt (kd : PySem.KeyKind P w κ) (xs : List κ) (i : Nat) (v : Value) : Prop := ∃ k, xs[i]? = some k ∧ kd.is k v = true ∧ v.scannable = true
abbrev nakedSet (w : World) : Obj := { cls := .type "set", dict := none, data := .set #[] 0 (.fresh 0 0 (!w.params.followText "set-order")) }
theorem setG_naked {h : Heap} {a : Addr} (e : h.get? a = some (nakedSet w)) : SetG kd h a [] := by
  refine ⟨_, #[], 0, _, [], e, ⟨rfl, rfl, rfl⟩, rfl, .nil, .refl _, .nil, by decide, by rfl, List.Pairwise.nil, ?_⟩
  show _ ∨ (!w.params.followText "set-order") = true
  cases w.params.followText "set-order" <;> simp
theorem updateG {I : Addr} {fp wr : List Addr} {G : Array GenState → Array GenState → Prop} {n : Nat} {Pv : Nat → Value → Prop} {St : Nat → Shared → Prop} {R : Result → Shared → Prop}
    (W : WalksS P w A.in1 I fp wr G n Pv St) (a : Addr) (nf : a ∉ fp) (xs : List κ) (hn : n = xs.length) (few : xs.length + 1 < scanBound) (good : ∀ i v, Pv i v → GoodAt kd xs i v)
    (fin : ∀ s2, Moved (a :: wr) G s s2 → SetG kd s2.heap a (withAll xs []) → R (.ok (.ret .none)) s2) :
    ∀ (m i : Nat) (s1 : Shared) (ks : List κ), n - i = m → i ≤ n → St i s1 → Moved (a :: wr) G s s1 → ks.length ≤ i → withAll (xs.drop i) ks = withAll xs [] → SetG kd s1.heap a ks →
      codeAny (model P w) A (.builtin "set.update.loop" ⟨[.ref a, .ref I], []⟩) R s1 := by
  have nw : a ∉ wr := fun h => nf (W.sub _ h)
  have wider : ∀ b ∈ wr, b ∈ a :: wr := fun b hb => List.mem_cons_of_mem _ hb
  intro m
  induction m with
  | zero =>
    intro i s1 ks hm hi hst mv hl hw hG
    have hin : i = n := by omega
    subst hin
    refine codeAny_builtin F.entry_set_update_loop ?_
    rw [Around.under_plainId F.plain_set_update_loop _]
    show wpAny _ A.in1 (pyNext (.ref I) >>= _) _ _ s1
    refine wpAny_bind (W.done s1 _ _ hst fun s2 mv2 => ?_)
    show wpAny _ A.in1 (ret Value.none) _ _ s2
    rw [List.drop_of_length_le (by omega)] at hw
    have e : withAll xs [] = ks := hw.symm
    refine wpAny_pure (fin s2 (Moved.trans W.gtrans mv (mv2.mono wider)) ?_)
    rw [e]
    exact hG.at fun ob q => mv2.heap a ob nw q
  | succ m ih =>
    intro i s1 ks hm hi hst mv hl hw hG
    have lt : i < n := by omega
    refine codeAny_builtin F.entry_set_update_loop ?_
    rw [Around.under_plainId F.plain_set_update_loop _]
    show wpAny _ A.in1 (pyNext (.ref I) >>= _) _ _ s1
    refine wpAny_bind (W.item i s1 _ _ lt hst fun v s2 hP st2 mv2 => ?_)
    obtain ⟨k, ek, is, sc⟩ := good i v hP
    have G2 : SetG kd s2.heap a ks := hG.at fun ob q => mv2.heap a ob nw q
    show wpAny _ A.in1 (holding [v] (setAdd a v) >>= _) _ _ s2
    refine wpAny_bind (wpAny_holding ?_)
    unfold setAdd
    refine wpAny_holding ?_
    refine wpAny_bind (kd.pyHash is ?_)
    refine addG (s := { s2 with toks := s2.toks + 1 }) is sc G2 (by omega) fun h3 sb G3 b => ?_
    have hd : xs.drop i = k :: xs.drop (i + 1) := by
      have z := (List.getElem?_eq_some_iff.mp ek)
      obtain ⟨z1, z2⟩ := z
      rw [← z2]
      exact List.drop_eq_getElem_cons z1
    have hw2 : withAll (xs.drop (i + 1)) (withK ks k) = withAll xs [] := by
      rw [← hw, hd]
      rfl
    have mv3 : Moved (a :: wr) G s { s2 with heap := h3, toks := s2.toks + 1 } := (Moved.trans W.gtrans mv (mv2.mono wider)).then_heap (Nat.le_succ _) fun b u nb e => by
      rw [sb.2 b (fun z => nb (by rw [z]; exact List.mem_cons_self ..))]
      exact e
    refine wpAny_pure ⟨plainId_quiet F.plain_set_update_loop _, ih (i + 1) _ _ (by omega) lt (W.frame _ s2 _ _ st2 (Nat.le_succ _) fun b hb u e => ?_) mv3 (Nat.le_trans (withK_len _ _) (by omega)) hw2 G3⟩
    rw [sb.2 b (fun z => nf (by rw [← z]; exact hb))]
    exact e
end
section
variable {P : Program} {w : World} {κ : Type} [DecidableEq κ] {kd : PySem.KeyKind P w κ} {A : Around} {E : Value → Shared → Prop} {s : Shared}
theorem call_setG_tuple {l : Addr} {its : Array Value} (xs : List κ) {Q : Value → Shared → Prop} (hh : A.handled = none) (hl : s.heap.IsTuple l its) (size : its.size = xs.length) (good : ∀ (i : Nat) (v : Value), its[i]? = some v → GoodAt kd xs i v) (few : xs.length + 1 < scanBound)
    (fin : ∀ (h2 : Heap) (tk : Nat), SetG kd h2 s.heap.objs.size (withAll xs []) → (∀ b u, s.heap.get? b = some u → h2.get? b = some u) → Q (.ref s.heap.objs.size) { s with heap := h2, toks := tk }) :
    wpAny (model P w) A (call (.type "set") [.ref l]) Q E s := by
  obtain ⟨mc, mt, mr⟩ := F.called_set.mro
  have fMade := F.called_set.made
  have fSub := F.called_set.sub
  refine wpAny_call (codeAny_of_tree ?_)
  show wpAny _ _ (callAny (.type "set") _) _ _ _
  refine wpAny_pure ⟨Code.quiet_builtin _ (by decide +kernel), codeAny_builtin F.entry_type_call ?_⟩
  rw [Around.under_plain (weight_type_call_type "set" [.ref l] []) rfl]
  have f1 := F.called_set.notType
  have f2 := F.called_set.canCreate
  have f3 := F.typeCall_set_1 (.ref l)
  repeat (any_goals (first | assumption | wp_step))

  refine codeAny_mono (code_set_led1 (.ref l) (E := E) (Q₁ := fun ob s1 => ob = .ref s.heap.objs.size ∧ s1 = { s with heap := s.heap.push (nakedSet w) }) ⟨rfl, rfl⟩) fun r s1 hr => ?_
  cases r with
  | error e => exact hr
  | ok fl =>
    cases fl with
    | ret ob =>
      obtain ⟨rfl, rfl⟩ := hr
      have gS : (s.heap.push (nakedSet w)).get? s.heap.objs.size = some (nakedSet w) := Heap.get?_push_size _ rfl
      have gT : Shared.TypeIs { s with heap := s.heap.push (nakedSet w) } (.ref s.heap.objs.size) "set" := ⟨_, gS, rfl⟩
      have g1 := F.called_set.init.lookup
      have g2 := F.called_set.init.bind (.ref s.heap.objs.size)
      repeat (any_goals (first | assumption | wp_step))

      refine codeAny_mono (codeAny_call_builtin (R := wants (fun r s2 => r = .none ∧ ∃ h2 tk, s2 = { s with heap := h2, toks := tk } ∧ SetG kd h2 s.heap.objs.size (withAll xs []) ∧
          (∀ b u, s.heap.get? b = some u → h2.get? b = some u)) E) F.called_set.init.plain F.entry_set_init (check_set_init_1 gT ?_)) fun r2 s2 hr2 => ?_
      · obtain ⟨ol, hol, e1, nl, e2⟩ := hl
        obtain ⟨oc, od, ot, os⟩ := ol
        simp only at e1 e2
        subst e1; subst e2
        have hol2 : (s.heap.push (nakedSet w)).get? l = some { cls := .type "tuple", dict := od, data := .seq its nl, slots := os } := Heap.get?_push_of_some _ hol
        have f4 := F.sub_tuple_set
        have f5 := F.sub_tuple_frozenset
        have f6 : (Value.type "tuple" == Value.type "dict") = false := by decide
        have hl1 : (s.heap.push (nakedSet w)).IsTuple l its := ⟨_, hol2, rfl, nl, rfl⟩
        unfold Builtin.«set.__init__» noKeywords Builtin.Frozenset.updateFrom
        generalize hPI : pyIter = PI
        wp_walk
        subst hPI
        refine wpAny_pyIter_tuple hl1 ?_
        refine wpAny_bind (wpAny_runValue ?_)
        have under : l < s.heap.objs.size := Heap.lt_size hol
        have quiet3 : A.in1.in1.in1.handled = none := by simp [hh]
        have apart : l ≠ (s.heap.push (nakedSet w)).objs.size := by
          rw [Heap.size_push]
          exact Nat.ne_of_lt (Nat.lt_succ_of_lt under)
        have off : s.heap.objs.size ∉ [(s.heap.push (nakedSet w)).objs.size, l] := by
          rw [Heap.size_push]
          simp only [List.mem_cons, List.mem_singleton, List.not_mem_nil, or_false, not_or]
          exact ⟨Nat.ne_of_lt (Nat.lt_succ_self _), Nat.ne_of_gt under⟩
        refine updateG ((Walks.tuple quiet3 _ l apart its).toS) s.heap.objs.size off xs size few good ?fin (its.size - 0) 0 _ [] (by omega) (Nat.zero_le _)
          ⟨⟨_, Heap.get?_push_size _ rfl, rfl, rfl⟩, (hl1.push _)⟩ (Moved.refl fun _ => rfl) (Nat.le_refl _) rfl (setG_naked (Heap.get?_push_of_some _ gS))
        case fin =>
          intro s2 mv hG
          obtain ⟨h2, gg, dd, tk, oo⟩ := s2
          have eg : gg = s.gens := mv.gens
          have ed : dd = s.drawn := mv.drawn
          have eo : oo = s.os := mv.os
          subst eg; subst ed; subst eo
          show wpAny _ _ _ _ _ _
          refine wpAny_pure ?_
          show wpAny _ _ (ret Value.none) _ _ _
          refine wpAny_pure ⟨rfl, h2, tk, rfl, hG, fun b u e => ?_⟩
          have b0 : b < s.heap.objs.size := Heap.lt_size e
          have b2 : b ≠ (s.heap.push (nakedSet w)).objs.size := by
            rw [Heap.size_push]
            exact Nat.ne_of_lt (Nat.lt_succ_of_lt b0)
          exact mv.heap b u (by simp only [List.mem_cons, List.mem_singleton, List.not_mem_nil, or_false, not_or]; exact ⟨Nat.ne_of_lt b0, b2⟩) (Heap.get?_push_of_some _ (Heap.get?_push_of_some _ e))
      · cases r2 with
        | error e => exact hr2
        | ok fl2 =>
          cases fl2 with
          | ret r =>
            obtain ⟨rfl, h2, tk, rfl, hG, kp⟩ := hr2
            repeat (any_goals (first | assumption | wp_step))
            exact fin _ _ hG kp
          | _ => exact hr2.elim
    | _ => exact hr.elim
end
end DL
set_option Elab.async false
set_option linter.all false
set_option maxRecDepth 100000
set_option maxHeartbeats 1000000
/-! DJ2: sorted(set(xs)) of a tuple of texts; names of the outer level; the boot's names -/
namespace DL
open PySem PySem.Spec L2
theorem bt_len : bootBuiltins "len" = some (.builtin "len") := by decide +kernel
theorem bt_all : bootBuiltins "all" = some (.builtin "all") := by decide +kernel
theorem bt_any : bootBuiltins "any" = some (.builtin "any") := by decide +kernel
theorem bt_abs : bootBuiltins "abs" = some (.builtin "abs") := by decide +kernel
theorem bt_repr : bootBuiltins "repr" = some (.builtin "repr") := by decide +kernel
theorem bt_sorted : bootBuiltins "sorted" = some (.builtin "sorted") := by decide +kernel
theorem bt_min : bootBuiltins "min" = some (.builtin "min") := by decide +kernel
theorem bt_max : bootBuiltins "max" = some (.builtin "max") := by decide +kernel
theorem bt_sum : bootBuiltins "sum" = some (.builtin "sum") := by decide +kernel
theorem bt_isinstance : bootBuiltins "isinstance" = some (.builtin "isinstance") := by decide +kernel
theorem bt_int : bootBuiltins "int" = some (.type "int") := by decide +kernel
theorem bt_str : bootBuiltins "str" = some (.type "str") := by decide +kernel
theorem bt_list : bootBuiltins "list" = some (.type "list") := by decide +kernel
theorem bt_tuple : bootBuiltins "tuple" = some (.type "tuple") := by decide +kernel
theorem bt_dict : bootBuiltins "dict" = some (.type "dict") := by decide +kernel
theorem bt_set : bootBuiltins "set" = some (.type "set") := by decide +kernel
theorem bt_zip : bootBuiltins "zip" = some (.type "zip") := by decide +kernel
section
variable {X : Cx} {pos : Pos} {x : Str}
theorem re_gstr {z : Str} (hg : Gl X x) (h : ∃ t, X.mg x = some (.str z t)) (hd : (x == ("__debug__" : Str)) = false := by decide) : RE X (.Name x pos) (wC (.str z)) := by
  obtain ⟨t, e⟩ := h
  exact re_c (v := .str z) (pe_glob (v := .str z) hg e ⟨t, rfl⟩ hd) fun _ => by simp only [R]
theorem re_gint {z : Int} (hg : Gl X x) (h : ∃ t, X.mg x = some (.int z t)) (hd : (x == ("__debug__" : Str)) = false := by decide) : RE X (.Name x pos) (wC (.int z)) := by
  obtain ⟨t, e⟩ := h
  exact re_c (v := .int z) (pe_glob (v := .int z) hg e ⟨t, rfl⟩ hd) fun _ => by simp only [R]

/-! ### sorted(set(xs)) -/
/-- the members, each once -/
def onceS (ss : List Str) : List Str := withAll ss []
def dSortSet : GN := d1 fun s mu => match s with
  | .d (.tup ds) => (asStrs ds).bind fun ss => if ss.length < 64 then some (.lst ((sortS (onceS ss)).map D.str)) else none
  | _ => none
theorem withAll_len {κ : Type} [DecidableEq κ] : ∀ (xs ks : List κ), (withAll xs ks).length ≤ xs.length + ks.length
  | [], ks => by
    show ks.length ≤ _
    omega
  | x :: xs, ks => by
    have z := withAll_len xs (withK ks x)
    have z2 := withK_len ks x
    show (withAll xs (withK ks x)).length ≤ _
    rw [List.length_cons]
    omega
theorem goods {P : Program} {w : World} : ∀ {ss : List Str} {us : List Value}, Vals (ss.map V.str) us → ∀ (i : Nat) (v : Value), us[i]? = some v → GoodAt (PySem.strKind P w) ss i v
  | [], _, .nil, i, v, e => by simp at e
  | y :: ss, _, .cons r t, 0, v, e => by
    obtain ⟨k, rfl⟩ := r
    simp at e
    subst e
    exact ⟨y, rfl, strKind_is P w y k, rfl⟩
  | y :: ss, _, .cons r t, i + 1, v, e => by
    obtain ⟨k, h1, h2, h3⟩ := goods t i v (by simpa using e)
    exact ⟨k, by simpa using h1, h2, h3⟩
theorem vals_rows {P : Program} {w : World} : ∀ {es : List (Int × Value)} {ms : List Str}, Rws (PySem.strKind P w) es ms → Vals (ms.map V.str) (es.map fun e => e.2)
  | [], _, r => by
    cases r
    exact .nil
  | e :: es, _, r => by
    cases r with
    | cons p q =>
      obtain ⟨t, ht⟩ := Value.isStrOf_shape p.1
      exact .cons ⟨t, ht⟩ (vals_rows q)
theorem vals_perm {us vs : List Value} (pm : us.Perm vs) : ∀ {ms : List Str}, Vals (ms.map V.str) vs → ∃ ns : List Str, ns.Perm ms ∧ Vals (ns.map V.str) us := by
  induction pm with
  | nil =>
    intro ms r
    exact ⟨ms, .refl _, r⟩
  | cons x _ ih =>
    intro ms r
    cases ms with
    | nil => cases r
    | cons y ms =>
      cases r with
      | cons r t =>
        obtain ⟨ns, h1, h2⟩ := ih t
        exact ⟨y :: ns, h1.cons y, .cons r h2⟩
  | swap x y l =>
    intro ms r
    cases ms with
    | nil => cases r
    | cons a ms =>
      cases r with
      | cons r1 t =>
        cases ms with
        | nil => cases t
        | cons b ms =>
          cases t with
          | cons r2 t => exact ⟨b :: a :: ms, .swap _ _ _, .cons r2 (.cons r1 t)⟩
  | trans _ _ ih1 ih2 =>
    intro ms r
    obtain ⟨ns, h1, h2⟩ := ih2 r
    obtain ⟨ns2, h3, h4⟩ := ih1 h2
    exact ⟨ns2, h3.trans h1, h4⟩
theorem gath_set {s : Shared} {a : Addr} {ks : List Str} (hh : X.A.in1.handled = none) (G : SetG (PySem.strKind X.prog X.w) s.heap a ks) : GathAt X s (.ref a) ks := by
  intro Q k
  obtain ⟨ob, el, ec, tb, ms, ho, hx, hd, rw0, pk, nk, few, fit, ris, led⟩ := G
  refine collect_set hh ⟨ob, ho, hx.1, hd⟩ fit few ris led fun s2 out kp _ hg hos pm => ?_
  obtain ⟨ns, h1, h2⟩ := vals_perm pm (vals_rows rw0)
  exact k s2 out ns kp hg hos (h1.trans pk) h2
variable {e : Expr} {fs : WA} {p p2 q : Pos}
theorem re_sortSet (hc : X.calm = true) (hg : Gl X "sorted") (hm : X.mg "sorted" = none) (hg2 : Gl X "set") (hm2 : X.mg "set" = none) (ha : RA X [e] fs)
    (na : starEach [e] X.env = (false, eval e X.env) :: starEach [] X.env := by rfl) : RE X (.Call (.Name "sorted" p) [.Call (.Name "set" p2) [e] [] q] [] pos) (wCall dSortSet fs) := by
  refine ⟨fun pins s σ H Q I h => ?_⟩
  refine PyProof.Rows.Call_ (ld_blt I hg hm bt_sorted ?_)
  refine PyProof.Rows.callWith_builtin1 (PyProof.Rows.args_cons ?_ rfl) rfl rfl
  refine PyProof.Rows.Call_ (ld_blt I hg2 hm2 bt_set ?_)
  refine PyProof.Rows.callWith_type1 (thn (ha.run q pins s σ H _ I (call_red h)) fun us s1 ⟨vs, H1, I1, r1, q1⟩ => ?_) na rfl
  obtain ⟨ex, m, mu, ss, d, cf, rs, e0, k⟩ := q1
  obtain ⟨sx, rfl, e1⟩ := d1_inv e0
  clear e0
  split at e1
  · rename_i ds
    obtain ⟨ts, e2, e3⟩ := Option.bind_eq_some_iff.mp e1
    clear e1
    split at e3
    · rename_i hl
      cases e3
      obtain ⟨y, rfl, r⟩ := rss1 rs
      simp only [RS, R] at r
      obtain ⟨a, ws, rfl, h1, g1⟩ := r
      obtain rfl := asStrs_ok g1 e2
      rw [Vals.ref1 r1]
      have hq : SqT X.K H1 a (ts.map V.str) := SqT.of (vw_sub _ _ h1)
      obtain ⟨its, rv, pl, hz⟩ := I1.tuple hq
      have size : its.toArray.size = ts.length := by rw [List.size_toArray, ← rv.length, List.length_map]
      refine call_setG_tuple (kd := PySem.strKind X.prog X.w) ts (I1.ok.hd hc) pl size (fun i v e => goods rv i v (by rw [← Array.getElem?_toList, List.toList_toArray] at e; exact e)) (by unfold scanBound; omega) fun h2 tk hG kp => ?_
      refine PyProof.Rows.args_nil ?_
      have I2 : Inv X pins σ H1 { s1 with heap := h2, toks := tk } := I1.kept kp
      have few : (onceS ts).length < 64 := by
        have z := withAll_len ts []
        unfold onceS
        simp only [List.length_nil] at z
        omega
      exact sort_run I2 few (gath_set (by rw [Around.in1_handled]; exact I1.ok.hd hc) hG) fun pp hp => k _ _ (grown cf hp) (new_lst cf hp (rs_strs _))
    · cases e3
  · cases e1
end
end DL
set_option Elab.async false
set_option linter.all false
set_option maxRecDepth 100000
set_option maxHeartbeats 3200000
/-! DZ0: list(zip(xs, ys)) of two tuples: each pair stays while the next one is made -/
namespace DL
open PySem PySem.Spec L2 PyProof.Rows RZ
section
variable {P : Program} {w : World} {A : Around} {E : Value → Shared → Prop} {s : Shared}
/-- the next pair of a zip whose first pair is still there -/
theorem heldT_item {zz ti tt ft j1 j2 p1 p2 : Addr} {kn : Bool} {of : Obj} {n1 n2 : Nat} {as bs : Array Value} {u v : Value} {Q : Value → Shared → Prop} (ap : ZipApart zz ti tt j1 j2 p1 p2)
    (gz : IsZipHeld s.heap zz ti tt ft kn) (gf : s.heap.get? ft = some of) (gt : IsPair s.heap ti (.ref j1) (.ref j2)) (g1 : s.heap.IsTupleIter j1 p1 n1) (g2 : s.heap.IsTupleIter j2 p2 n2)
    (q1 : s.heap.IsTuple p1 as) (q2 : s.heap.IsTuple p2 bs) (eu : as[n1]? = some u) (ev : bs[n2]? = some v)
    (fin : ∀ h2, IsZipHeld h2 zz ti tt ft true → h2.IsTupleIter j1 p1 (n1 + 1) → h2.IsTupleIter j2 p2 (n2 + 1) → IsPair h2 s.heap.objs.size u v → h2.objs.size = s.heap.objs.size + 1 →
      (∀ b o, b ≠ zz → b ≠ j1 → b ≠ j2 → s.heap.get? b = some o → h2.get? b = some o) → Q (.ref s.heap.objs.size) { s with heap := h2 }) :
    wpAny (model P w) A (Builtin.«zip.__next__» ⟨[.ref zz], []⟩) (fun r s2 => ∃ x, r = .done (.ret x) ∧ Q x s2) E s := by
  show wpAny _ _ (field (.ref zz) 2 >>= _) _ _ _
  refine wpAny_bind (wpAny_field gz rfl (x := .bool false) rfl ?_)
  show wpAny _ _ (field (.ref zz) 3 >>= _) _ _ _
  refine wpAny_bind (wpAny_field gz rfl (x := .ref ti) rfl ?_)
  refine wpAny_bind (wpAny_seqItems gt rfl ?_)
  show wpAny _ _ (Builtin.SmallTypes.ownedTupleIsFree (.ref zz) >>= _) _ _ _
  refine wpAny_bind (wpAny_tupleHeld_zip gz gf fun ha gza sa => ?_)
  simp only [Bool.false_eq_true, if_false]
  refine wpAny_bind ?_
  rw [← Array.forIn_toList]
  simp only [List.forIn_cons, List.forIn_nil]
  refine wpAny_bind (wpAny_bind (wpAny_holding ?_))
  show wpAny _ _ (Builtin.SmallTypes.nextOf (.ref j1) >>= _) _ _ _
  refine wpAny_bind (nextOf_tuple_item (s := { s with heap := ha }) (g1.extBut sa.extBut ap.i1z) (q1.extBut sa.extBut ap.l1z) eu fun hb gb sb => wpAny_pure ?_)
  refine wpAny_pure ?_
  refine wpAny_bind (wpAny_bind (wpAny_holding ?_))
  show wpAny _ _ (Builtin.SmallTypes.nextOf (.ref j2) >>= _) _ _ _
  refine wpAny_bind (nextOf_tuple_item (s := { s with heap := hb }) ((g2.extBut sa.extBut ap.i2z).extBut sb.extBut ap.i12.symm) ((q2.extBut sa.extBut ap.l2z).extBut sb.extBut ap.l2i1) ev fun hc gc sc => wpAny_pure ?_)
  refine wpAny_pure (wpAny_pure ?_)
  show wpAny _ _ (newTuple [u, v] >>= _) _ _ _
  refine wpAny_bind (wpAny_newTuple ?_)
  have size3 : hc.objs.size = s.heap.objs.size := by rw [sc.1, sb.1, sa.1]
  have gz3 : IsZipHeld hc zz ti tt ft true := sc.extBut _ _ ap.i2z.symm (sb.extBut _ _ ap.i1z.symm gza)
  have old : ∀ b o, b ≠ zz → b ≠ j1 → b ≠ j2 → s.heap.get? b = some o → hc.get? b = some o := fun b o b1 b2 b3 e => sc.extBut _ _ b3 (sb.extBut _ _ b2 (sa.extBut _ _ b1 e))
  have gb3 : hc.IsTupleIter j1 p1 (n1 + 1) := gb.extBut sc.extBut ap.i12
  refine wpAny_pure ⟨_, rfl, ?_⟩
  show Q (.ref hc.objs.size) _
  have np : IsPair (hc.push { cls := .type "tuple", data := .seq #[u, v] }) hc.objs.size u v := Heap.get?_push_size _ rfl
  have ns : (hc.push { cls := .type "tuple", data := .seq #[u, v] }).objs.size = hc.objs.size + 1 := Heap.size_push ..
  rw [size3] at np ns ⊢
  exact fin _ (Heap.get?_push_of_some _ gz3) (gb3.at fun o e => Heap.get?_push_of_some _ e) (gc.at fun o e => Heap.get?_push_of_some _ e) np ns fun b o b1 b2 b3 e => Heap.get?_push_of_some _ (old b o b1 b2 b3 e)
theorem heldT_end {zz ti tt ft j1 j2 p1 p2 : Addr} {kn : Bool} {of : Obj} {n1 n2 : Nat} {as bs : Array Value} {Q : Fin → Shared → Prop} (hh : A.handled = none) (ap : ZipApart zz ti tt j1 j2 p1 p2)
    (gz : IsZipHeld s.heap zz ti tt ft kn) (gf : s.heap.get? ft = some of) (gt : IsPair s.heap ti (.ref j1) (.ref j2)) (g1 : s.heap.IsTupleIter j1 p1 n1) (g2 : s.heap.IsTupleIter j2 p2 n2)
    (q1 : s.heap.IsTuple p1 as) (q2 : s.heap.IsTuple p2 bs) (stop : as[n1]? = none ∨ bs[n2]? = none)
    (fin : ∀ h2 e, (∀ b o, b ≠ zz → b ≠ j1 → b ≠ j2 → s.heap.get? b = some o → h2.get? b = some o) → (∃ o, h2.get? e = some o ∧ o.cls = .type "StopIteration") → E (.ref e) { s with heap := h2 }) :
    wpAny (model P w) A (Builtin.«zip.__next__» ⟨[.ref zz], []⟩) Q E s := by
  show wpAny _ _ (field (.ref zz) 2 >>= _) _ _ _
  refine wpAny_bind (wpAny_field gz rfl (x := .bool false) rfl ?_)
  show wpAny _ _ (field (.ref zz) 3 >>= _) _ _ _
  refine wpAny_bind (wpAny_field gz rfl (x := .ref ti) rfl ?_)
  refine wpAny_bind (wpAny_seqItems gt rfl ?_)
  show wpAny _ _ (Builtin.SmallTypes.ownedTupleIsFree (.ref zz) >>= _) _ _ _
  refine wpAny_bind (wpAny_tupleHeld_zip gz gf fun ha gza sa => ?_)
  simp only [Bool.false_eq_true, if_false]
  refine wpAny_bind ?_
  rw [← Array.forIn_toList]
  simp only [List.forIn_cons, List.forIn_nil]
  refine wpAny_bind (wpAny_bind (wpAny_holding ?_))
  show wpAny _ _ (Builtin.SmallTypes.nextOf (.ref j1) >>= _) _ _ _
  cases eu : as[n1]? with
  | none =>
    refine wpAny_bind (nextOf_tuple_end (s := { s with heap := ha }) hh (g1.extBut sa.extBut ap.i1z) (q1.extBut sa.extBut ap.l1z) eu fun hb e sb he => ?_)
    exact fin hb e (fun b o b1 b2 _ y => sb _ _ b2 (sa.extBut _ _ b1 y)) he
  | some u =>
    have ev : bs[n2]? = none := by
      rcases stop with h | h
      · rw [eu] at h
        cases h
      · exact h
    refine wpAny_bind (nextOf_tuple_item (s := { s with heap := ha }) (g1.extBut sa.extBut ap.i1z) (q1.extBut sa.extBut ap.l1z) eu fun hb gb sb => wpAny_pure ?_)
    refine wpAny_pure ?_
    refine wpAny_bind (wpAny_bind (wpAny_holding ?_))
    show wpAny _ _ (Builtin.SmallTypes.nextOf (.ref j2) >>= _) _ _ _
    refine wpAny_bind (nextOf_tuple_end (s := { s with heap := hb }) hh ((g2.extBut sa.extBut ap.i2z).extBut sb.extBut ap.i12.symm) ((q2.extBut sa.extBut ap.l2z).extBut sb.extBut ap.l2i1) ev fun hc e sc he => ?_)
    exact fin hc e (fun b o b1 b2 b3 y => sc _ _ b3 (sb.extBut _ _ b2 (sa.extBut _ _ b1 y))) he
theorem next_heldT {zz ti tt ft j1 j2 p1 p2 : Addr} {kn : Bool} {of : Obj} {n1 n2 : Nat} {as bs : Array Value} {u v : Value} {Q : Option Value → Shared → Prop} (ap : ZipApart zz ti tt j1 j2 p1 p2)
    (gz : IsZipHeld s.heap zz ti tt ft kn) (gf : s.heap.get? ft = some of) (gt : IsPair s.heap ti (.ref j1) (.ref j2)) (g1 : s.heap.IsTupleIter j1 p1 n1) (g2 : s.heap.IsTupleIter j2 p2 n2)
    (q1 : s.heap.IsTuple p1 as) (q2 : s.heap.IsTuple p2 bs) (eu : as[n1]? = some u) (ev : bs[n2]? = some v)
    (fin : ∀ h2, IsZipHeld h2 zz ti tt ft true → h2.IsTupleIter j1 p1 (n1 + 1) → h2.IsTupleIter j2 p2 (n2 + 1) → IsPair h2 s.heap.objs.size u v → h2.objs.size = s.heap.objs.size + 1 →
      (∀ b o, b ≠ zz → b ≠ j1 → b ≠ j2 → s.heap.get? b = some o → h2.get? b = some o) → Q (some (.ref s.heap.objs.size)) { s with heap := h2 }) : wpAny (model P w) A (pyNext (.ref zz)) Q E s := by
  have ty : s.TypeIs (.ref zz) "zip" := ⟨_, gz, rfl⟩
  unfold pyNext
  refine wpAny_bind (wpAny_attempt (wpAny_callSpecial?_slot (name := Str.ofString "__next__") ty F.slot_zip_next ?_))
  refine wpAny_call_entry F.slot_zip_next ty F.entry_zip_next ?_ (F.args_zip_next_1 _)
  exact heldT_item ap gz gf gt g1 g2 q1 q2 eu ev fun h2 a1 a2 a3 a4 a5 a6 => wpAny_pure (fin h2 a1 a2 a3 a4 a5 a6)
theorem end_heldT {zz ti tt ft j1 j2 p1 p2 : Addr} {kn : Bool} {of : Obj} {n1 n2 : Nat} {as bs : Array Value} {Q : Option Value → Shared → Prop} (hh : A.handled = none) (ap : ZipApart zz ti tt j1 j2 p1 p2)
    (gz : IsZipHeld s.heap zz ti tt ft kn) (gf : s.heap.get? ft = some of) (gt : IsPair s.heap ti (.ref j1) (.ref j2)) (g1 : s.heap.IsTupleIter j1 p1 n1) (g2 : s.heap.IsTupleIter j2 p2 n2)
    (q1 : s.heap.IsTuple p1 as) (q2 : s.heap.IsTuple p2 bs) (stop : as[n1]? = none ∨ bs[n2]? = none)
    (fin : ∀ h2, (∀ b o, b ≠ zz → b ≠ j1 → b ≠ j2 → s.heap.get? b = some o → h2.get? b = some o) → Q none { s with heap := h2 }) : wpAny (model P w) A (pyNext (.ref zz)) Q E s := by
  have ty : s.TypeIs (.ref zz) "zip" := ⟨_, gz, rfl⟩
  unfold pyNext
  refine wpAny_bind (wpAny_attempt (wpAny_callSpecial?_slot (name := Str.ofString "__next__") ty F.slot_zip_next ?_))
  refine wpAny_call_entry F.slot_zip_next ty F.entry_zip_next ?_ (F.args_zip_next_1 _)
  refine heldT_end hh ap gz gf gt g1 g2 q1 q2 stop fun h2 e kp he => ?_
  obtain ⟨o, ho, hc⟩ := he
  refine wpAny_bind (wpAny_isInstance (T := "StopIteration") (b := true) ⟨o, ho, hc⟩ isSubtype_stop ?_)
  exact wpAny_pure (fin _ kp)
end
end DL
set_option Elab.async false
set_option linter.all false
set_option maxRecDepth 100000
set_option maxHeartbeats 3200000
/-! DZ1: the loop that fills list(zip(xs, ys)) -/
namespace DL
open PySem PySem.Spec L2 PyProof.Rows RZ
section
variable {P : Program} {w : World} {A : Around} {s : Shared}
/-- what the list holds so far: pairs, each an object of its own -/
structure Pd (h0 h : Heap) (L zz tt j1 j2 : Addr) (as bs : Array Value) (ps : List Addr) : Prop where
  lst : ∃ acc c, h.get? L = some { cls := .type "list", dict := none, data := .seq acc c, slots := #[] } ∧ acc.toList = ps.map Value.ref
  prs : ∀ (j : Nat) (p : Addr), ps[j]? = some p → ∃ u v, as[j]? = some u ∧ bs[j]? = some v ∧ IsPair h p u v
  far : ∀ p ∈ ps, p ≠ L ∧ p ≠ zz ∧ p ≠ tt ∧ p ≠ j1 ∧ p ≠ j2
  new : ∀ p ∈ ps, h0.objs.size ≤ p
  low : ∀ p ∈ ps, p < h.objs.size
  nd : ps.Nodup
  old : ∀ b o, b ≠ L → b ≠ zz → b ≠ tt → b ≠ j1 → b ≠ j2 → h0.get? b = some o → h.get? b = some o
/-- and the zip itself -/
structure Zs (h : Heap) (zz ti tt j1 j2 p1 p2 : Addr) (as bs : Array Value) (ps : List Addr) : Prop where
  t1 : h.IsTupleIter j1 p1 ps.length
  t2 : h.IsTupleIter j2 p2 ps.length
  pr : IsPair h ti (.ref j1) (.ref j2)
  q1 : h.IsTuple p1 as
  q2 : h.IsTuple p2 bs
  st : (ps = [] ∧ IsZip h zz ti tt .none ∧ ∃ a b, IsPair h tt a b) ∨ ∃ ft kn, ps[0]? = some ft ∧ IsZipHeld h zz ti tt ft kn
theorem Zs.upd {h h2 : Heap} {L zz ti tt j1 j2 p1 p2 : Addr} {as bs : Array Value} {ps : List Addr} (z : Zs h zz ti tt j1 j2 p1 p2 as bs ps) (k : ∀ b o, b ≠ L → h.get? b = some o → h2.get? b = some o)
    (d : L ≠ zz ∧ L ≠ ti ∧ L ≠ tt ∧ L ≠ j1 ∧ L ≠ j2 ∧ L ≠ p1 ∧ L ≠ p2) : Zs h2 zz ti tt j1 j2 p1 p2 as bs ps := by
  obtain ⟨d1, d2, d3, d4, d5, d6, d7⟩ := d
  refine ⟨z.t1.at fun o e => k _ o d4.symm e, z.t2.at fun o e => k _ o d5.symm e, k _ _ d2.symm z.pr, ?_, ?_, ?_⟩
  · obtain ⟨o, e, r⟩ := z.q1
    exact ⟨o, k _ o d6.symm e, r⟩
  · obtain ⟨o, e, r⟩ := z.q2
    exact ⟨o, k _ o d7.symm e, r⟩
  · rcases z.st with ⟨e, a, x, y, b⟩ | ⟨ft, kn, e, a⟩
    · exact .inl ⟨e, k _ _ d1.symm a, x, y, k _ _ d3.symm b⟩
    · exact .inr ⟨ft, kn, e, k _ _ d1.symm a⟩
theorem zip_loop {h0 : Heap} {L zz ti tt j1 j2 p1 p2 : Addr} {as bs : Array Value} {n : Nat} {R : Result → Shared → Prop} (hh : A.in1.handled = none) (ap : ZipApart zz ti tt j1 j2 p1 p2)
    (d : L ≠ zz ∧ L ≠ ti ∧ L ≠ tt ∧ L ≠ j1 ∧ L ≠ j2 ∧ L ≠ p1 ∧ L ≠ p2) (la : ∀ i, i < n → ∃ u v, as[i]? = some u ∧ bs[i]? = some v) (stop : as[n]? = none ∨ bs[n]? = none) (few : n < 1000) (tl : tt < h0.objs.size)
    (fin : ∀ h2 ps, ps.length = n → Pd h0 h2 L zz tt j1 j2 as bs ps → R (.ok (.ret .none)) { s with heap := h2 }) :
    ∀ (m : Nat) (h : Heap) (ps : List Addr), ps.length + m = n → h0.objs.size ≤ h.objs.size → Pd h0 h L zz tt j1 j2 as bs ps → Zs h zz ti tt j1 j2 p1 p2 as bs ps →
      codeAny (model P w) A (.builtin "list.extend.loop" ⟨[.ref L, .ref zz, .none], []⟩) R { s with heap := h } := by
  obtain ⟨d1, d2, d3, d4, d5, d6, d7⟩ := id d
  intro m
  induction m with
  | zero =>
    intro h ps hm up pd zs
    have en : ps.length = n := by omega
    refine codeAny_builtin F.entry_extend_loop ?_
    rw [Around.under_plainId F.plain_extend_loop _]
    show wpAny _ A.in1 (pyNext (.ref zz) >>= _) _ _ _
    have keep : ∀ h2 : Heap, (∀ b o, b ≠ zz → b ≠ tt → b ≠ j1 → b ≠ j2 → h.get? b = some o → h2.get? b = some o) → Pd h0 h2 L zz tt j1 j2 as bs ps := fun h2 k => by
      obtain ⟨acc, c, e1, e2⟩ := pd.lst
      have eL := k L _ d1 d3 d4 d5 e1
      have prs2 : ∀ (j : Nat) (p : Addr), ps[j]? = some p → ∃ u v, as[j]? = some u ∧ bs[j]? = some v ∧ IsPair h2 p u v := fun j p e => by
        obtain ⟨u, v, x1, x2, x3⟩ := pd.prs j p e
        obtain ⟨_, f1, f2, f3, f4⟩ := pd.far p (List.mem_of_getElem? e)
        exact ⟨u, v, x1, x2, k p _ f1 f2 f3 f4 x3⟩
      refine ⟨⟨acc, c, eL, e2⟩, prs2, pd.far, pd.new, fun p hp => ?_, pd.nd, fun b o b0 b1 b2 b3 b4 e => k b o b1 b2 b3 b4 (pd.old b o b0 b1 b2 b3 b4 e)⟩
      obtain ⟨j, hj⟩ := List.getElem?_of_mem hp
      obtain ⟨u, v, _, _, x3⟩ := prs2 j p hj
      exact Heap.lt_size x3
    refine wpAny_bind ?_
    rcases zs.st with ⟨e0, z, a, b, pt⟩ | ⟨ft, kn, e0, z⟩
    · refine pyNext_zipT_end (s := { s with heap := h }) hh ap z zs.pr pt zs.t1 zs.t2 zs.q1 zs.q2 (by rw [en]; exact stop) fun h2 k => wpAny_pure ?_
      exact fin h2 ps en (keep h2 k)
    · obtain ⟨u, v, _, _, x3⟩ := pd.prs 0 ft e0
      refine end_heldT (s := { s with heap := h }) hh ap z x3 zs.pr zs.t1 zs.t2 zs.q1 zs.q2 (by rw [en]; exact stop) fun h2 k => wpAny_pure ?_
      exact fin h2 ps en (keep h2 fun b o b1 _ b3 b4 e => k b o b1 b3 b4 e)
  | succ m ih =>
    intro h ps hm up pd zs
    obtain ⟨u, v, eu, ev⟩ := la ps.length (by omega)
    refine codeAny_builtin F.entry_extend_loop ?_
    rw [Around.under_plainId F.plain_extend_loop _]
    show wpAny _ A.in1 (pyNext (.ref zz) >>= _) _ _ _
    -- from the next pair on
    have go : ∀ h2 : Heap, h2.IsTupleIter j1 p1 (ps.length + 1) → h2.IsTupleIter j2 p2 (ps.length + 1) → IsPair h2 h.objs.size u v → h2.objs.size = h.objs.size + 1 →
        (∀ b o, b ≠ zz → b ≠ tt → b ≠ j1 → b ≠ j2 → h.get? b = some o → h2.get? b = some o) → (∃ ft kn, (ps ++ [h.objs.size])[0]? = some ft ∧ IsZipHeld h2 zz ti tt ft kn) →
        wpAny (model P w) A.in1 (updateSeq L (·.push (.ref h.objs.size)) >>= fun _ => (again (.builtin "list.extend.loop" ⟨[.ref L, .ref zz, .none], []⟩)))
          (fun fin s' => match fin with | .done f => R (.ok f) s' | .again c' => c'.quiet = true ∧ codeAny (model P w) A c' R s') (fun e s' => R (.error e) s') { s with heap := h2 } := by
      intro h2 g1 g2 np nz k hz
      obtain ⟨acc, c, e1, e2⟩ := pd.lst
      have eL := k L _ d1 d3 d4 d5 e1
      have lL : L < h.objs.size := Heap.lt_size e1
      have la2 : acc.size = ps.length := by
        have := congrArg List.length e2
        rwa [Array.length_toList, List.length_map] at this
      refine wpAny_bind ?_
      have oth : ∀ b o, b ≠ L → h2.get? b = some o → (h2.update L (Obj.mapSeq (·.push (.ref h.objs.size)))).get? b = some o := fun b o b0 e => (Heap.get?_update_other _ _ (Ne.symm b0)).trans e
      have me := Heap.get?_update_self (Obj.mapSeq (·.push (Value.ref h.objs.size))) eL rfl
      have sz : (h2.update L (Obj.mapSeq (·.push (.ref h.objs.size)))).objs.size = h2.objs.size := Heap.size_update ..
      have z1 : zz < h.objs.size := by
        rcases zs.st with ⟨_, z, _⟩ | ⟨_, _, _, z⟩ <;> exact Heap.lt_size z
      have j1l : j1 < h.objs.size := by
        obtain ⟨_, e, _⟩ := zs.t1
        exact Heap.lt_size e
      have j2l : j2 < h.objs.size := by
        obtain ⟨_, e, _⟩ := zs.t2
        exact Heap.lt_size e
      have pd2 : Pd h0 (h2.update L (Obj.mapSeq (·.push (.ref h.objs.size)))) L zz tt j1 j2 as bs (ps ++ [h.objs.size]) := by
        have np2 := oth h.objs.size _ (Nat.ne_of_gt lL) np
        have prs2 : ∀ (j : Nat) (p : Addr), (ps ++ [h.objs.size])[j]? = some p → ∃ u v, as[j]? = some u ∧ bs[j]? = some v ∧ IsPair (h2.update L (Obj.mapSeq (·.push (.ref h.objs.size)))) p u v := fun j p e => by
          by_cases hj : j < ps.length
          · rw [List.getElem?_append_left hj] at e
            obtain ⟨u', v', x1, x2, x3⟩ := pd.prs j p e
            obtain ⟨f0, f1, f2, f3, f4⟩ := pd.far p (List.mem_of_getElem? e)
            exact ⟨u', v', x1, x2, oth p _ f0 (k p _ f1 f2 f3 f4 x3)⟩
          · rw [List.getElem?_append_right (by omega)] at e
            have j0 : j - ps.length = 0 := by
              have := (List.getElem?_eq_some_iff.mp e).1
              simp at this
              omega
            rw [j0] at e
            cases e
            have ej : j = ps.length := by omega
            subst ej
            exact ⟨u, v, eu, ev, np2⟩
        have ttl : tt < h.objs.size := Nat.lt_of_lt_of_le tl up
        refine ⟨⟨_, _, me, by rw [Array.toList_push, e2, List.map_append]; rfl⟩, prs2, fun p hp => ?_, fun p hp => ?_, fun p hp => ?_, ?_, fun b o b0 b1 b2 b3 b4 e => oth b o b0 (k b o b1 b2 b3 b4 (pd.old b o b0 b1 b2 b3 b4 e))⟩
        · rcases List.mem_append.mp hp with y | y
          · exact pd.far p y
          · rw [List.mem_singleton] at y
            subst y
            exact ⟨Nat.ne_of_gt lL, Nat.ne_of_gt z1, Nat.ne_of_gt ttl, Nat.ne_of_gt j1l, Nat.ne_of_gt j2l⟩
        · rcases List.mem_append.mp hp with y | y
          · exact pd.new p y
          · rw [List.mem_singleton] at y
            rw [y]
            exact up
        · obtain ⟨j, hj⟩ := List.getElem?_of_mem hp
          obtain ⟨u', v', _, _, x3⟩ := prs2 j p hj
          exact Heap.lt_size x3
        · rw [List.nodup_append]
          refine ⟨pd.nd, by simp, fun x hx y hy e => ?_⟩
          rw [List.mem_singleton] at hy
          have := pd.low x hx
          rw [e, hy] at this
          exact absurd this (Nat.lt_irrefl _)
      have zs2 : Zs (h2.update L (Obj.mapSeq (·.push (.ref h.objs.size)))) zz ti tt j1 j2 p1 p2 as bs (ps ++ [h.objs.size]) := by
        refine Zs.upd (h := h2) (L := L) ⟨?_, ?_, k _ _ ap.TIz ap.TITO ap.TIi1 ap.TIi2 zs.pr, ?_, ?_, .inr hz⟩ oth d
        · rw [List.length_append]
          exact g1
        · rw [List.length_append]
          exact g2
        · obtain ⟨o, e, r⟩ := zs.q1
          exact ⟨o, k _ o ap.l1z ap.l1TO ap.l1i1 ap.l1i2 e, r⟩
        · obtain ⟨o, e, r⟩ := zs.q2
          exact ⟨o, k _ o ap.l2z ap.l2TO ap.l2i1 ap.l2i2 e, r⟩
      refine wpAny_updateSeq eL rfl (wpAny_pure ⟨plainId_quiet F.plain_extend_loop _, ih _ (ps ++ [h.objs.size]) (by rw [List.length_append, List.length_singleton]; omega) (by rw [sz, nz]; exact Nat.le_succ_of_le up) pd2 zs2⟩) (by rw [la2, sizeLine_eq]; omega) (by show (acc.push _).size ≤ sizeLine + 1; rw [Array.size_push, la2, sizeLine_eq]; omega)
    refine wpAny_bind ?_
    rcases zs.st with ⟨e0, z, a, b, pt⟩ | ⟨ft, kn, e0, z⟩
    · refine pyNext_zipT_item (s := { s with heap := h }) ap z zs.pr pt zs.t1 zs.t2 zs.q1 zs.q2 eu ev fun h2 a1 a2 a3 a4 a5 a6 a7 => ?_
      refine go h2 a3 a4 a5 a6 (fun b o b1 b2 b3 b4 e => a7 b o b1 b2 b3 b4 e) ⟨h.objs.size, false, ?_, a1⟩
      rw [e0]
      rfl
    · obtain ⟨u0, v0, _, _, x3⟩ := pd.prs 0 ft e0
      refine next_heldT (s := { s with heap := h }) ap z x3 zs.pr zs.t1 zs.t2 zs.q1 zs.q2 eu ev fun h2 a1 a3 a4 a5 a6 a7 => ?_
      refine go h2 a3 a4 a5 a6 (fun b o b1 _ b3 b4 e => a7 b o b1 b3 b4 e) ⟨ft, true, ?_, a1⟩
      rw [List.getElem?_append_left (List.getElem?_eq_some_iff.mp e0).1]
      exact e0
end
end DL
set_option Elab.async false
set_option linter.all false
set_option maxRecDepth 100000
set_option maxHeartbeats 3200000
/-! DZ2: list(zip(xs, ys)) -/
namespace DL
open PySem PySem.Spec L2 PyProof.Rows RZ
theorem zip_nolen : typeLookup (.type "zip") "__len__" = pure none := am_miss_of_fast (by decide +kernel)
theorem zip_nohint : typeLookup (.type "zip") "__length_hint__" = pure none := am_miss_of_fast (by decide +kernel)
section
variable {P : Program} {w : World} {A : Around} {E : Value → Shared → Prop} {s : Shared}
abbrev nakedList : Obj := { cls := .type "list", data := .seq #[] }
theorem call_list_zip {zz ti tt j1 j2 p1 p2 : Addr} {as bs : Array Value} {n : Nat} {Q : Value → Shared → Prop} (hh : A.handled = none) (ap : ZipApart zz ti tt j1 j2 p1 p2) (zs : Zs s.heap zz ti tt j1 j2 p1 p2 as bs []) (gt : ∃ a b, IsPair s.heap tt a b)
    (gz : IsZip s.heap zz ti tt .none) (la : ∀ i, i < n → ∃ u v, as[i]? = some u ∧ bs[i]? = some v) (stop : as[n]? = none ∨ bs[n]? = none) (few : n < 1000)
    (fin : ∀ h2 ps, ps.length = n → Pd s.heap h2 s.heap.objs.size zz tt j1 j2 as bs ps → Q (.ref s.heap.objs.size) { s with heap := h2 }) : wpAny (model P w) A (call (.type "list") [.ref zz]) Q E s := by
  have below : ∀ {b : Addr} {o : Obj}, s.heap.get? b = some o → s.heap.objs.size ≠ b := fun e => Nat.ne_of_gt (Heap.lt_size e)
  have d : s.heap.objs.size ≠ zz ∧ s.heap.objs.size ≠ ti ∧ s.heap.objs.size ≠ tt ∧ s.heap.objs.size ≠ j1 ∧ s.heap.objs.size ≠ j2 ∧ s.heap.objs.size ≠ p1 ∧ s.heap.objs.size ≠ p2 := by
    obtain ⟨_, e1, _⟩ := zs.t1
    obtain ⟨_, e2, _⟩ := zs.t2
    obtain ⟨_, e3, _⟩ := zs.q1
    obtain ⟨_, e4, _⟩ := zs.q2
    obtain ⟨_, _, e5⟩ := gt
    exact ⟨below gz, below zs.pr, below e5, below e1, below e2, below e3, below e4⟩
  have tl : tt < s.heap.objs.size := by
    obtain ⟨_, _, e5⟩ := gt
    exact Heap.lt_size e5
  refine callType_codes (Q₁ := fun ob s1 => ob = .ref s.heap.objs.size ∧ s1 = { s with heap := s.heap.push nakedList }) F.called_list (F.typeCall_list_1 _) F.entry_list_init
    (code_list_new _ ⟨rfl, rfl⟩) fun ob s1 h1 => ?_
  obtain ⟨rfl, rfl⟩ := h1
  have gL : (s.heap.push nakedList).get? s.heap.objs.size = some nakedList := Heap.get?_push_size _ rfl
  refine ⟨⟨_, gL, rfl⟩, F.args_list_init_2 _ _, ?_⟩
  generalize hL : s.heap.objs.size = L at *
  show wpAny _ A.in1.in1 (do let old ← Builtin.List.listItems (.ref L); Builtin.List.listUpdate (.ref L) (fun _ => #[]); letGo old.toList.reverse; Builtin.List.listExtendWith (.ref L) (.ref zz) .none) _ _ _
  refine wpAny_bind ?_
  unfold Builtin.List.listItems
  refine wpAny_bind (wpAny_seqItems gL rfl (wpAny_pure ?_))
  show wpAny _ A.in1.in1 (updateSeq L (fun _ => #[]) >>= fun _ => letGo (#[] : Array Value).toList.reverse >>= fun _ => Builtin.List.listExtendWith (.ref L) (.ref zz) .none) _ _ _
  refine wpAny_bind (wpAny_updateSeq gL rfl ?_)
  have gL2 := Heap.get?_update_self (Obj.mapSeq (fun _ => (#[] : Array Value))) gL rfl
  refine wpAny_bind (wpAny_letGo ?_)
  have oth1 : ∀ b o, b ≠ L → s.heap.get? b = some o → ((s.heap.push nakedList).update L (Obj.mapSeq (fun _ => (#[] : Array Value)))).get? b = some o := fun b o nb e =>
    (Heap.get?_update_other _ _ (Ne.symm nb)).trans (Heap.get?_push_of_some _ e)
  have gz1 := oth1 _ _ d.1.symm gz
  have ty1 : Shared.TypeIs { s with heap := (s.heap.push nakedList).update L (Obj.mapSeq (fun _ => (#[] : Array Value))) } (.ref zz) "zip" := ⟨_, gz1, rfl⟩
  unfold Builtin.List.listExtendWith
  refine wpAny_bind (wpAny_typeOf ty1 ?_)
  have c1 : Builtin.List.listSameRef (.ref L) (.ref zz) = false := by simp [Builtin.List.listSameRef, d.1]
  have c2 : (Value.type "zip" == Value.type "list") = false := by decide
  have c3 : (Value.type "zip" == Value.type "tuple") = false := by decide
  simp only [c1, c2, c3, Bool.or_false, Bool.false_eq_true, if_false]
  refine wpAny_bind (wpAny_pyIter_zip gz1 ?_)
  refine wpAny_bind (wpAny_holding ?_)
  unfold Builtin.List.listLengthHint
  refine wpAny_bind (wpAny_specialOf ty1 zip_nolen ?_)
  show wpAny _ A.in1.in1 (specialOf (Value.ref zz) (Str.ofString "__length_hint__") >>= _) _ _ _
  refine wpAny_bind (wpAny_specialOf ty1 zip_nohint ?_)
  refine wpAny_pure ?_
  show wpAny _ A.in1.in1 (rule "list.extend.makes-room" >>= fun _ => Builtin.List.listTouch (.ref L) >>= fun _ => again (.builtin "list.extend.loop" ⟨[.ref L, .ref zz, .none], []⟩)) _ _ _
  refine wpAny_bind (wpAny_rule ?_)
  refine wpAny_bind ?_
  show wpAny _ A.in1.in1 (updateSeq L (·.push .none) >>= fun _ => updateSeq L (·.pop)) _ _ _
  refine wpAny_bind (wpAny_updateSeq gL2 rfl ?_)
  have gL3 := Heap.get?_update_self (Obj.mapSeq (·.push Value.none)) gL2 rfl
  refine wpAny_updateSeq (hz := by seq_fits) gL3 rfl ?_
  have gL4 := Heap.get?_update_self (Obj.mapSeq (·.pop)) gL3 rfl
  generalize hG : (((s.heap.push nakedList).update L (Obj.mapSeq (fun _ => (#[] : Array Value)))).update L (Obj.mapSeq (·.push Value.none))).update L (Obj.mapSeq (·.pop)) = g at gL4 ⊢
  have oth : ∀ b o, b ≠ L → s.heap.get? b = some o → g.get? b = some o := fun b o nb e => by
    rw [← hG]
    exact (Heap.get?_update_other _ _ (Ne.symm nb)).trans ((Heap.get?_update_other _ _ (Ne.symm nb)).trans (oth1 b o nb e))
  have szg : L ≤ g.objs.size := Nat.le_of_lt (Heap.lt_size gL4)
  have pd : Pd s.heap g L zz tt j1 j2 as bs [] := ⟨⟨_, _, gL4, rfl⟩, fun j p e => (by simp at e), fun p h => (nomatch h), fun p h => (nomatch h), fun p h => (nomatch h), .nil, fun b o b0 _ _ _ _ e => oth b o b0 e⟩
  have run := zip_loop (P := P) (w := w) (A := A.in1) (s := s) (h0 := s.heap) (n := n) (R := fun r s' => wants (fun r s₂ => r = .none ∧ Q (.ref L) s₂) E r s') (by simp [hh]) ap d la stop few (by rw [hL]; exact tl) (fun h2 ps en pd2 => ⟨rfl, fin h2 ps en pd2⟩) n g [] (by simp) (by rw [hL]; exact szg) pd (zs.upd (L := L) oth d)
  exact wpAny_pure ⟨plainId_quiet F.plain_extend_loop _, run⟩
end
end DL
set_option Elab.async false
set_option linter.all false
set_option maxRecDepth 100000
set_option maxHeartbeats 1000000
/-! DJ: dict(list(zip(xs, ys))) of two tuples -/
namespace DL
open PySem PySem.Spec L2
/-- tuple(text), too -/
def dTupS : GN := d1 fun s mu => match s with
  | .d (.str z) => if z.length ≤ sizeLine then some (.tup (z.cps.toList.map fun c => .str ⟨#[c]⟩)) else none
  | s => (rdQ s mu).map D.tup
theorem vals_signs {z : Str} {acc : Array Value} (h : ItemsOf (SignAt z) acc z.cps.size) : Vals ((z.cps.toList.map fun c => (⟨#[c]⟩ : Str)).map V.str) acc.toList := by
  have key : ∀ (l : List Nat) (us : List Value), us.length = l.length → (∀ (j : Nat) (v : Value), us[j]? = some v → ∃ c t, l[j]? = some c ∧ v = .str ⟨#[c]⟩ t) → Vals ((l.map fun c => (⟨#[c]⟩ : Str)).map V.str) us := by
    intro l
    induction l with
    | nil =>
      intro us hl _
      cases us with
      | nil => exact .nil
      | cons _ _ => simp at hl
    | cons c l ih =>
      intro us hl hv
      cases us with
      | nil => simp at hl
      | cons u us =>
        obtain ⟨c2, t, e1, e2⟩ := hv 0 u rfl
        simp at e1
        subst e1
        refine .cons ⟨t, e2⟩ (ih us (by simpa using hl) fun j v e => ?_)
        obtain ⟨c3, t3, e3, e4⟩ := hv (j + 1) v (by simpa using e)
        exact ⟨c3, t3, by simpa using e3, e4⟩
  refine key _ _ (by rw [Array.length_toList, Array.length_toList, h.1]) fun j v e => ?_
  obtain ⟨c, t, e1, e2⟩ := h.2 j v (by rw [← Array.getElem?_toList]; exact e)
  exact ⟨c, t, by rw [Array.getElem?_toList]; exact e1, e2⟩
theorem cr_tupS {X : Cx} (hc : X.calm = true) : CallR X (.type "tuple") (rND X.K dTupS) := by
  intro pins s σ H xs us Q I rv q
  obtain ⟨ex, m, mu, ss, d, cf, rs, e0, k⟩ := id q
  obtain ⟨sx, rfl, e⟩ := d1_inv e0
  split at e
  · rename_i z
    split at e
    · rename_i hz
      cases e
      obtain ⟨y, rfl, r⟩ := rss1 rs
      simp only [RS, R] at r
      subst r
      obtain ⟨u, rfl, ru⟩ := vals1 rv
      obtain ⟨t, rfl⟩ := ru
      refine call_tuple_str (hsz := hz) (I.ok.hd hc) z t fun h' tk acc kp hacc => ?_
      have I1 : Inv X pins σ H { s with heap := h', toks := tk } := I.kept kp
      have hl : (((z.cps.toList.map fun c => (⟨#[c]⟩ : Str)).map V.str)).length ≤ sizeLine := by
        rw [List.length_map, List.length_map, Array.length_toList]
        exact hz
      have I2 : Inv X pins σ (upd H h'.objs.size (.tup ((z.cps.toList.map fun c => (⟨#[c]⟩ : Str)).map V.str))) { s with heap := h'.push { cls := .type "tuple", data := .seq acc }, toks := tk } :=
        I1.laid (t' := tk) (fun b o e => Heap.get?_push_of_some _ e) (Nat.le_refl _) (show ObjOk X.prog X.w _ _ _ (.tup _) from ⟨hl, acc.toList, vals_signs hacc, by rw [Array.toArray_toList]; exact ⟨_, Heap.get?_push_size _ rfl, rfl, 0, rfl⟩⟩)
      have hn : H h'.objs.size = none := I1.hok.fresh (Nat.le_refl _)
      refine ⟨.ref h'.objs.size, _, I2, rfl, k _ _ (grown cf hn) ?_⟩
      have e9 : (z.cps.toList.map fun c => D.str ⟨#[c]⟩) = (z.cps.toList.map fun c => (⟨#[c]⟩ : Str)).map D.str := by
        rw [List.map_map]
        rfl
      rw [e9]
      exact new_tup cf hn (rs_strs _)
    · cases e
  · exact cr_tuple pins s σ H xs us Q I rv ⟨ex, m, mu, [sx], d, cf, rs, e, k⟩
section
variable {X : Cx} {pos p p2 p3 q2 q3 : Pos} {e1 e2 : Expr} {fs : WA}
def zipKV (ks vs : List D) : List (S × S) := (ks.zip vs).map fun p => (S.d p.1, S.d p.2)
/-- the pairs, as they lie -/
theorem pairs_raw {P : Program} {w : World} : ∀ {vs1 vs2 : List V} {us1 us2 : List Value} {ws : List (Key × V)}, Vals vs1 us1 → Vals vs2 us2 → vs1.zip vs2 = ws.map (fun kv => (kV kv.1, kv.2)) →
    ∃ prs : List (Key × Value), KV ws prs ∧ prs.length = ws.length ∧ ∀ (j : Nat) (q : Key × Value), prs[j]? = some q → ∃ u, us1[j]? = some u ∧ us2[j]? = some q.2 ∧ keyIs q.1 u = true
  | [], _, _, _, ws, _, _, e => by
    have : ws = [] := List.map_eq_nil_iff.mp e.symm
    subst this
    exact ⟨[], .nil, rfl, fun j q h => by simp at h⟩
  | _ :: _, [], _, _, ws, _, _, e => by
    have : ws = [] := List.map_eq_nil_iff.mp e.symm
    subst this
    exact ⟨[], .nil, rfl, fun j q h => by simp at h⟩
  | x :: vs1, y :: vs2, _, _, ws, r1, r2, e => by
    cases ws with
    | nil => cases e
    | cons kv ws =>
      cases r1 with
      | cons ra ta =>
        cases r2 with
        | cons rb tb =>
          rename_i u us1 u2 us2
          rw [List.zip_cons_cons, List.map_cons] at e
          injection e with e1 e2
          obtain ⟨prs, k1, k2, k3⟩ := pairs_raw (P := P) (w := w) ta tb e2
          have ex : x = kV kv.1 := congrArg Prod.fst e1
          have ey : y = kv.2 := congrArg Prod.snd e1
          subst ex ey
          refine ⟨(kv.1, u2) :: prs, .cons ⟨rfl, rb⟩ k1, by rw [List.length_cons, List.length_cons, k2], fun j q h => ?_⟩
          cases j with
          | zero =>
            cases h
            exact ⟨u, rfl, rfl, kV_is (P := P) (w := w) ra⟩
          | succ j =>
            obtain ⟨v, h1, h2, h3⟩ := k3 j q (by simpa using h)
            exact ⟨v, by simpa using h1, by simpa using h2, h3⟩
theorem zip_rel {K : Frag} {m : List Addr} {H : Hp} : ∀ {ks vs : List D} {us ws : List V}, Rs K H ks us → Rs K H vs ws → Paired (fun (p : S × S) (q : V × V) => RS K m H p.1 q.1 ∧ RS K m H p.2 q.2) (zipKV ks vs) (us.zip ws)
  | [], vs, us, ws, r1, r2 => by
    rw [r1.inv0]
    exact .nil
  | k :: ks, [], us, ws, r1, r2 => by
    rw [r2.inv0, List.zip_nil_right]
    exact .nil
  | k :: ks, v :: vs, us, ws, r1, r2 => by
    obtain ⟨u, us2, rfl, a1, a2⟩ := r1.inv
    obtain ⟨z, ws2, rfl, b1, b2⟩ := r2.inv
    exact .cons ⟨a1, b1⟩ (zip_rel a2 b2)
/-- dict(list(zip(ks, vs))) -/
def wDictZip (fs : WA) : WE := fun sl mu Q => fs sl mu fun ss mu1 => match ss with
  | [.d (.tup ks), .d (.tup vs)] => ks.length < 64 ∧ vs.length < 64 ∧ On (keysOf2 (zipKV ks vs)) fun kvs => Q (.h mu1.length) (mu1 ++ [some (.dic (putAll [] kvs))])
  | _ => False
theorem re_dictZip (hcalm : X.calm = true) (hg : Gl X "dict") (hm : X.mg "dict" = none) (hg2 : Gl X "list") (hm2 : X.mg "list" = none) (hg3 : Gl X "zip") (hm3 : X.mg "zip" = none) (ha : RA X [e1, e2] fs)
    (na : starEach [e1, e2] X.env = (false, eval e1 X.env) :: starEach [e2] X.env := by rfl) (nb : (backTo q3 (starEach [e2] X.env)).any (·.1) = false := by rfl) :
    RE X (.Call (.Name "dict" p) [.Call (.Name "list" p2) [.Call (.Name "zip" p3) [e1, e2] [] q3] [] q2] [] pos) (wDictZip fs) := by
  refine ⟨fun pins s σ H Q I h => ?_⟩
  obtain ⟨ex, m, sl, mu, Qd, cf, sr, wq, k⟩ := h
  refine PyProof.Rows.Call_ (ld_blt I hg hm bt_dict ?_)
  refine PyProof.Rows.callWith_type1 (PyProof.Rows.args_cons ?_ rfl) rfl rfl
  refine PyProof.Rows.Call_ (ld_blt I hg2 hm2 bt_list ?_)
  refine PyProof.Rows.callWith_type1 (PyProof.Rows.args_cons ?_ rfl) rfl rfl
  refine PyProof.Rows.Call_ (ld_blt I hg3 hm3 bt_zip ?_)
  refine PyProof.Rows.callWith_type1 (thn (ha.run q3 pins s σ H (fun vs H1 => ∃ m1 mu1 ss, Cfg X.K ex m1 mu1 H1 ∧ Ext ex m mu H m1 mu1 H1 ∧ RSs X.K m1 (vw ex m1 mu1 H1) ss vs ∧ ∃ ks ds kvs, ss = [.d (.tup ks), .d (.tup ds)] ∧ ks.length < 64 ∧ ds.length < 64 ∧ keysOf2 (zipKV ks ds) = some kvs ∧ Qd (.h mu1.length) (mu1 ++ [some (.dic (putAll [] kvs))])) I
    ⟨ex, m, sl, mu, _, cf, sr, wq, fun ss mu1 m1 H1 vs cf1 x1 rs q1 => ⟨m1, mu1, ss, cf1, x1, rs, ?_⟩⟩) fun us s1 ⟨vs, H1, I1, r1, q1⟩ => ?_) na nb
  · split at q1
    · rename_i ks ds
      obtain ⟨l1, l2, q1⟩ := q1
      obtain ⟨kvs, ek, q1⟩ := On.elim q1
      exact ⟨ks, ds, kvs, rfl, l1, l2, ek, q1⟩
    · exact q1.elim
  obtain ⟨m1, mu1, ss, cf1, x1, rs, ks, ds, kvs, rfl, l1, l2, ek, q1⟩ := q1
  obtain ⟨y1, y2, rfl, r2, r3⟩ := rss2 rs
  simp only [RS, R] at r2 r3
  obtain ⟨a, ws1, rfl, h1, g1⟩ := r2
  obtain ⟨b, ws2, rfl, h2, g2⟩ := r3
  obtain ⟨u1, u2, rfl, ru1, ru2⟩ := vals2 r1
  cases ru1
  cases ru2
  obtain ⟨its, rv, p1, _⟩ := I1.tuple (SqT.of (vw_sub _ _ h1))
  obtain ⟨its2, rv2, p2, _⟩ := I1.tuple (SqT.of (vw_sub _ _ h2))
  obtain ⟨ow, how, _⟩ := id p1
  obtain ⟨oz, hoz, _⟩ := id p2
  obtain ⟨kws, ez, rk, lk⟩ := keys_ok (zip_rel g1 g2) ek
  obtain ⟨prs, kv, lp, hp⟩ := pairs_raw (P := X.prog) (w := X.w) rv rv2 ez
  have c1 : its.length = ks.length := rv.length.symm.trans g1.length.symm
  have c2 : its2.length = ds.length := rv2.length.symm.trans g2.length.symm
  have lz : prs.length = min ks.length ds.length := by
    have e := congrArg List.length ez
    rw [List.length_zip, List.length_map, ← g1.length, ← g2.length] at e
    rw [lp, ← e]
  refine RZ.call_zipT (show s1.heap.IsTuple a its.toArray from p1) (show s1.heap.IsTuple b its2.toArray from p2) fun hz gz gti gtt t1 t2 sz kz => ?_
  refine PyProof.Rows.args_nil ?_
  have up : ∀ {c : Addr} {o : Obj}, s1.heap.get? c = some o → hz.get? c = some o := fun e => kz _ _ e
  have tup1 : hz.IsTuple a its.toArray := by
    obtain ⟨o, e, r⟩ := (show s1.heap.IsTuple a its.toArray from p1)
    exact ⟨o, up e, r⟩
  have tup2 : hz.IsTuple b its2.toArray := by
    obtain ⟨o, e, r⟩ := (show s1.heap.IsTuple b its2.toArray from p2)
    exact ⟨o, up e, r⟩
  refine call_list_zip (s := { s1 with heap := hz }) (n := min ks.length ds.length) (I1.ok.hd hcalm) (PySem.W.ktu_apart s1.heap.objs.size a b (Heap.lt_size how) (Heap.lt_size hoz)) ⟨t1, t2, gti, tup1, tup2, .inl ⟨rfl, gz, _, _, gtt⟩⟩ ⟨_, _, gtt⟩ gz (fun i hi => ?_) ?_ (by omega) fun h3 ps en pd => ?_
  · have i1 : i < its.length := by omega
    have i2 : i < its2.length := by omega
    exact ⟨its[i], its2[i], by simp [i1], by simp [i2]⟩
  · by_cases hle : ks.length ≤ ds.length
    · left
      simp
      omega
    · right
      simp
      omega
  refine PyProof.Rows.args_nil ?_
  have keep : ∀ c o, s1.heap.get? c = some o → h3.get? c = some o := fun c o e => by
    have lt := Heap.lt_size e
    have ne : ∀ j : Nat, c ≠ s1.heap.objs.size + j := fun j z => absurd lt (by rw [z]; exact Nat.not_lt_of_le (Nat.le_add_right _ _))
    refine pd.old c o ?_ (ne 4) (ne 3) (ne 0) (ne 1) (up e)
    show c ≠ hz.objs.size
    rw [sz]
    exact ne 5
  obtain ⟨acc, cc, gl, el⟩ := pd.lst
  have la : acc.size = prs.length := by
    have := congrArg List.length el
    rw [Array.length_toList, List.length_map, en] at this
    omega
  refine call_dict_pairs (s := { s1 with heap := h3 }) (prs := prs) (I1.ok.hd hcalm) gl rfl rfl rfl la (by rw [sizeLine_eq]; omega) (fun j q e => ?_) fun h4 tk hd kp => ?_
  · obtain ⟨u, f1, f2, f3⟩ := hp j q e
    have hj : j < ps.length := by
      have := (List.getElem?_eq_some_iff.mp e).1
      omega
    obtain ⟨u', v', f4, f5, f6⟩ := pd.prs j ps[j] (List.getElem?_eq_getElem hj)
    have eu : u' = u := by
      rw [List.getElem?_toArray, f1] at f4
      cases f4
      rfl
    have ev : v' = q.2 := by
      rw [List.getElem?_toArray, f2] at f5
      cases f5
      rfl
    subst eu ev
    refine ⟨ps[j], u', ?_, ⟨_, f6, rfl, 0, rfl⟩, f3⟩
    rw [← Array.getElem?_toList, el, List.getElem?_map, List.getElem?_eq_getElem hj]
    rfl
  · have big3 : s1.heap.objs.size ≤ h3.objs.size := by
      have lt : hz.objs.size < h3.objs.size := Heap.lt_size gl
      rw [sz] at lt
      exact Nat.le_of_lt (Nat.lt_of_le_of_lt (Nat.le_add_right _ 5) lt)
    have hn : H1 h3.objs.size = none := I1.hok.fresh big3
    have sys : (h3.objs.size == sysModules) = false := beq_eq_false_iff_ne.mpr (Nat.ne_of_gt (Nat.lt_of_lt_of_le I1.big big3))
    have few : (mergeK [] kws).length ≤ sizeLine := by
      refine Nat.le_trans (length_mergeK kws []) ?_
      rw [List.length_nil, Nat.zero_add, ← lp, sizeLine_eq]
      omega
    obtain ⟨c3, x3⟩ := cf1.add (mo := .dic (putAll [] kvs)) (o := .dK (mergeK [] kws)) hn ⟨_, rfl, rkv_merge rk .nil⟩
    have J : Inv X pins σ (upd H1 h3.objs.size (.dK (mergeK [] kws))) { s1 with heap := h4, toks := tk } := I1.laid (t' := tk) (fun c o e => kp c o (keep c o e)) big3 (show ObjOk X.prog X.w _ _ _ (.dK (mergeK [] kws)) from ⟨few, sys, merged [] prs, KV.merge kv .nil, hd⟩)
    exact ⟨.ref h3.objs.size, _, J, rfl, k (.h mu1.length) _ _ _ _ c3 (x1.trans x3) ⟨h3.objs.size, by rw [← cf1.len]; simp, rfl⟩ q1⟩
end
end DL
set_option Elab.async false
set_option linter.all false
set_option maxRecDepth 100000
set_option maxHeartbeats 1000000
/-! DK: how readings are worked out; the source of what is drawn -/
namespace DL
open PySem PySem.Spec L2

/-! ### what a def gives back -/
theorem retD_d {mu : Mu} {Q : S → Mu → Prop} {x : D} (h : Q (.d x) mu) : retD mu Q (.d x) mu :=
  ⟨Nat.le_refl _, fun k mo _ e => .inl e, by simpa only [List.take_length] using h⟩
theorem retD_app {mu more : Mu} {Q : S → Mu → Prop} {x : D} (h : Q (.d x) mu) : retD mu Q (.d x) (mu ++ more) :=
  ⟨by rw [List.length_append]; omega, fun k mo hk e => .inl (by rwa [List.getElem?_append_left hk] at e), by simpa only [List.take_left] using h⟩

/-- a def over data alone -/
def PW (g : List D → Option D) : WF := fun ss mu Q => On ((allD ss).bind g) fun d => Q (.d d) mu
theorem pw_on {α : Type} {o : Option α} {x : α} {P : α → Prop} (e : o = some x) (h : P x) : On o P := by
  rw [e]
  exact h
theorem pw_use {g : List D → Option D} {ds : List D} {mu : Mu} {Q : S → Mu → Prop} {d : D} (e : g ds = some d) (q : Q (.d d) mu) : PW g (ds.map S.d) mu Q := by
  have z : ∀ ds : List D, allD (ds.map S.d) = some ds := by
    intro ds
    induction ds with
    | nil => rfl
    | cons d ds ih =>
      show (allD (ds.map S.d)).map (d :: ·) = _
      rw [ih]
      rfl
  unfold PW
  rw [z]
  exact pw_on e q
theorem pw_inv {g : List D → Option D} {ss : List S} {mu : Mu} {Q : S → Mu → Prop} (h : PW g ss mu Q) : ∃ ds d, ss = ds.map S.d ∧ g ds = some d ∧ Q (.d d) mu := by
  obtain ⟨d, e, q⟩ := On.elim h
  obtain ⟨ds, e1, e2⟩ := Option.bind_eq_some_iff.mp e
  refine ⟨ds, d, ?_, e2, q⟩
  clear e e2 q h
  induction ss generalizing ds with
  | nil =>
    cases e1
    rfl
  | cons s ss ih =>
    cases s with
    | h k => cases e1
    | d x =>
      obtain ⟨es, e3, e4⟩ := Option.map_eq_some_iff.mp (show (allD ss).map (x :: ·) = some ds from e1)
      subst e4
      rw [ih es e3]
      rfl

/-! ### loops over data, where nothing changes -/
/-- [h(x) for x in xs if t(x)] where the tests and elements change nothing -/
theorem comp_pure {g : WG} {tt : WT} {te : WE} {sl0 : Sl} {Q : S → Mu → Prop} {mu : Mu} {t : D → Bool} {h : D → D} {f : D → Sl} : ∀ (ds acc : List D), (∀ d ∈ ds, g d sl0 = some (f d)) →
    (∀ d ∈ ds, ∀ P : Bool → Mu → Prop, P (t d) mu → tt (f d) mu P) → (∀ d ∈ ds, t d = true → ∀ P : S → Mu → Prop, P (.d (h d)) mu → te (f d) mu P) → acc.length + ds.length ≤ sizeLine →
    Q (.d (.lst (acc ++ (ds.filter t).map h))) mu → wCompD g tt te sl0 Q ds acc mu
  | [], acc, _, _, _, _, q => by
    show Q (.d (.lst acc)) mu
    simpa using q
  | d :: ds, acc, hg, ht, he, hl, q => by
    unfold wCompD
    rw [List.length_cons] at hl
    refine pw_on (hg d (List.mem_cons_self ..)) (ht d (List.mem_cons_self ..) _ ?_)
    cases ed : t d with
    | true =>
      rw [if_pos rfl]
      refine he d (List.mem_cons_self ..) ed _ ⟨by omega, ?_⟩
      refine comp_pure ds _ (fun x hx => hg x (List.mem_cons_of_mem _ hx)) (fun x hx => ht x (List.mem_cons_of_mem _ hx)) (fun x hx => he x (List.mem_cons_of_mem _ hx)) (by rw [List.length_append]; simp; omega) ?_
      rw [List.filter_cons, if_pos ed] at q
      simpa using q
    | false =>
      rw [if_neg (by decide)]
      refine comp_pure ds _ (fun x hx => hg x (List.mem_cons_of_mem _ hx)) (fun x hx => ht x (List.mem_cons_of_mem _ hx)) (fun x hx => he x (List.mem_cons_of_mem _ hx)) (by omega) ?_
      rw [List.filter_cons, if_neg (by rw [ed]; decide)] at q
      exact q
/-- a comprehension whose parts may change the store; J: what holds of the list so far and of the store -/
theorem comp_inv {g : WG} {tt : WT} {te : WE} {sl0 : Sl} {Q : S → Mu → Prop} (J : Nat → List D → Mu → Prop) : ∀ (ds acc : List D) (n : Nat) (mu : Mu), J n acc mu →
    (∀ (i : Nat) (d : D) (acc : List D) (mu : Mu), ds[i]? = some d → J (n + i) acc mu → ∀ C : List D → Mu → Prop, (∀ acc mu, J (n + i + 1) acc mu → C acc mu) →
      On (g d sl0) fun sl1 => tt sl1 mu fun b mu1 => if b = true then te sl1 mu1 fun s mu2 => match s with
        | .d y => acc.length < sizeLine ∧ C (acc ++ [y]) mu2
        | .h _ => False
      else C acc mu1) →
    (∀ acc mu, J (n + ds.length) acc mu → Q (.d (.lst acc)) mu) → wCompD g tt te sl0 Q ds acc mu
  | [], acc, n, mu, j, _, fin => fin acc mu j
  | d :: ds, acc, n, mu, j, step, fin => by
    unfold wCompD
    refine step 0 d acc mu rfl j (wCompD g tt te sl0 Q ds) fun acc mu j2 => ?_
    refine comp_inv J ds acc (n + 1) mu j2 (fun i x acc mu e k C hC => ?_) (fun acc mu k => fin acc mu ?_)
    · refine step (i + 1) x acc mu e (by rw [show n + (i + 1) = n + 1 + i by omega]; exact k) C fun acc mu k => hC acc mu ?_
      rw [show n + (i + 1) = n + 1 + i by omega] at k
      exact k
    · rw [List.length_cons, show n + (ds.length + 1) = n + 1 + ds.length by omega]
      exact k
/-- a loop; J: what holds of the names and of the store -/
theorem for_inv {g : WG} {b : WS} {E : DEnds} (J : Nat → Sl → Mu → Prop) : ∀ (ds : List D) (n : Nat) (sl : Sl) (mu : Mu), J n sl mu →
    (∀ (i : Nat) (d : D) (sl : Sl) (mu : Mu), ds[i]? = some d → J (n + i) sl mu → ∀ C : Sl → Mu → Prop, (∀ sl mu, J (n + i + 1) sl mu → C sl mu) →
      On (g d sl) fun sl1 => b { nx := C, rt := E.rt, bk := E.nx, ct := C } sl1 mu) →
    (∀ sl mu, J (n + ds.length) sl mu → E.nx sl mu) → wForD g b E ds sl mu
  | [], n, sl, mu, j, _, fin => fin sl mu j
  | d :: ds, n, sl, mu, j, step, fin => by
    unfold wForD
    refine step 0 d sl mu rfl j (wForD g b E ds) fun sl mu j2 => ?_
    refine for_inv J ds (n + 1) sl mu j2 (fun i x sl mu e k C hC => ?_) (fun sl mu k => fin sl mu ?_)
    · refine step (i + 1) x sl mu e (by rw [show n + (i + 1) = n + 1 + i by omega]; exact k) C fun sl mu k => hC sl mu ?_
      rw [show n + (i + 1) = n + 1 + i by omega] at k
      exact k
    · rw [List.length_cons, show n + (ds.length + 1) = n + 1 + ds.length by omega]
      exact k

/-! ### the source of what is drawn -/
abbrev ky (x : Str) : Key := .inr x
def srcKV (c : Nat) (left mixed turn : Int) : List (Key × S) := [(ky "cells", .h c), (ky "left", .d (.int left)), (ky "mixed", .d (.int mixed)), (ky "turn", .d (.int turn))]
structure SrcAt (mu : Mu) (k c : Nat) (cells : List Int) (left mixed turn : Int) : Prop where
  dk : mu[k]? = some (some (.dic (srcKV c left mixed turn)))
  dc : mu[c]? = some (some (.lst (cells.map D.int)))
  ne : c ≠ k
def Src (mu : Mu) (k : Nat) : Prop := ∃ c cells left mixed turn, SrcAt mu k c cells left mixed turn
/-- the source has gone on; all else stands -/
def Gone (mu : Mu) (k : Nat) (mu' : Mu) : Prop := mu'.length = mu.length ∧ ∃ c, (∃ cells left mixed turn, SrcAt mu k c cells left mixed turn) ∧ (∃ cells left mixed turn, SrcAt mu' k c cells left mixed turn) ∧ ∀ j, j ≠ k → j ≠ c → mu'[j]? = mu[j]?
theorem Src.gone {mu : Mu} {k : Nat} (h : Src mu k) : Gone mu k mu := by
  obtain ⟨c, h⟩ := h
  exact ⟨rfl, c, h, h, fun _ _ _ => rfl⟩
theorem Gone.src {mu mu' : Mu} {k : Nat} (g : Gone mu k mu') : Src mu' k := by
  obtain ⟨_, c, _, h, _⟩ := g
  exact ⟨c, h⟩
theorem srcAt_c {mu : Mu} {k c c' : Nat} {cells cells' : List Int} {left mixed turn left' mixed' turn' : Int} (h : SrcAt mu k c cells left mixed turn) (h' : SrcAt mu k c' cells' left' mixed' turn') : c = c' := by
  have e := h.dk.symm.trans h'.dk
  simp only [Option.some.injEq, MO.dic.injEq, srcKV, List.cons.injEq, Prod.mk.injEq, S.h.injEq, true_and] at e
  exact e.1
theorem Gone.trans {mu mu1 mu2 : Mu} {k : Nat} (a : Gone mu k mu1) (b : Gone mu1 k mu2) : Gone mu k mu2 := by
  obtain ⟨l1, c, s1, ⟨x1, x2, x3, x4, t1⟩, r1⟩ := a
  obtain ⟨l2, c', ⟨y1, y2, y3, y4, s2⟩, t2, r2⟩ := b
  have e := srcAt_c t1 s2
  subst e
  exact ⟨l2.trans l1, c, s1, t2, fun j h1 h2 => (r2 j h1 h2).trans (r1 j h1 h2)⟩
theorem SrcAt.kl {mu : Mu} {k c : Nat} {cells : List Int} {left mixed turn : Int} (h : SrcAt mu k c cells left mixed turn) : k < mu.length := (List.getElem?_eq_some_iff.mp h.dk).1
theorem SrcAt.cl {mu : Mu} {k c : Nat} {cells : List Int} {left mixed turn : Int} (h : SrcAt mu k c cells left mixed turn) : c < mu.length := (List.getElem?_eq_some_iff.mp h.dc).1
/-- a def that lets the source go on, and gives data -/
theorem retD_gone {mu mu' : Mu} {k : Nat} {Q : S → Mu → Prop} {x : D} (g : Gone mu k mu') (h : Q (.d x) mu') : retD mu Q (.d x) mu' := by
  obtain ⟨l, c, s, ⟨x1, x2, x3, x4, t⟩, r⟩ := g
  refine ⟨by omega, fun j mo hj e => ?_, ?_⟩
  · by_cases h1 : j = k
    · subst h1
      rw [t.dk] at e
      cases e
      refine .inr ?_
      have := t.cl
      simp only [MO.below, srcKV, List.all_cons, List.all_nil, Bool.and_true, decide_eq_true_eq]
      omega
    · by_cases h2 : j = c
      · subst h2
        rw [t.dc] at e
        cases e
        exact .inr rfl
      · rw [r j h1 h2] at e
        exact .inl e
  · rw [← l, List.take_length]
    exact h
section
variable {mu : Mu} {k c : Nat} {cells : List Int} {left mixed turn : Int}
theorem src_cells (h : SrcAt mu k c cells left mixed turn) : dGet (.h k) (.d (.str "cells")) mu = some (.h c) := by
  unfold dGet
  simp only [h.dk]
  rfl
theorem src_left (h : SrcAt mu k c cells left mixed turn) : dGet (.h k) (.d (.str "left")) mu = some (.d (.int left)) := by
  unfold dGet
  simp only [h.dk]
  rfl
theorem src_mixed (h : SrcAt mu k c cells left mixed turn) : dGet (.h k) (.d (.str "mixed")) mu = some (.d (.int mixed)) := by
  unfold dGet
  simp only [h.dk]
  rfl
theorem src_turn (h : SrcAt mu k c cells left mixed turn) : dGet (.h k) (.d (.str "turn")) mu = some (.d (.int turn)) := by
  unfold dGet
  simp only [h.dk]
  rfl
theorem src_mut (h : SrcAt mu k c cells left mixed turn) : mutD (.h k) mu = some (k, srcKV c left mixed turn) := by
  unfold mutD
  simp only [h.dk]
theorem src_few : (srcKV c left mixed turn).length < sizeLine := by
  rw [sizeLine_eq]
  show 4 < _
  decide
theorem put_left (v : Int) : putS (srcKV c left mixed turn) (ky "left") (.d (.int v)) = srcKV c v mixed turn := by
  rfl
theorem put_turn (v : Int) : putS (srcKV c left mixed turn) (ky "turn") (.d (.int v)) = srcKV c left mixed v := by
  rfl
theorem SrcAt.set (h : SrcAt mu k c cells left mixed turn) (l m t : Int) : SrcAt (mu.set k (some (.dic (srcKV c l m t)))) k c cells l m t :=
  ⟨List.getElem?_set_self h.kl, by rw [List.getElem?_set_ne (Ne.symm h.ne)]; exact h.dc, h.ne⟩
theorem SrcAt.cut (h : SrcAt mu k c cells left mixed turn) (cs : List Int) : SrcAt (mu.set c (some (.lst (cs.map D.int)))) k c cs left mixed turn :=
  ⟨by rw [List.getElem?_set_ne h.ne]; exact h.dk, List.getElem?_set_self h.cl, h.ne⟩
theorem SrcAt.go_set (h : SrcAt mu k c cells left mixed turn) (l m t : Int) : Gone mu k (mu.set k (some (.dic (srcKV c l m t)))) :=
  ⟨by rw [List.length_set], c, ⟨_, _, _, _, h⟩, ⟨_, _, _, _, h.set l m t⟩, fun j h1 _ => List.getElem?_set_ne (Ne.symm h1)⟩
theorem SrcAt.go_cut (h : SrcAt mu k c cells left mixed turn) (cs : List Int) : Gone mu k (mu.set c (some (.lst (cs.map D.int)))) :=
  ⟨by rw [List.length_set], c, ⟨_, _, _, _, h⟩, ⟨_, _, _, _, h.cut cs⟩, fun j _ h2 => List.getElem?_set_ne (Ne.symm h2)⟩
end
theorem SrcAt.app {mu more : Mu} {k c : Nat} {cells : List Int} {left mixed turn : Int} (h : SrcAt mu k c cells left mixed turn) : SrcAt (mu ++ more) k c cells left mixed turn :=
  ⟨by rw [List.getElem?_append_left h.kl]; exact h.dk, by rw [List.getElem?_append_left h.cl]; exact h.dc, h.ne⟩
theorem Src.app {mu more : Mu} {k : Nat} (h : Src mu k) : Src (mu ++ more) k := by
  obtain ⟨c, a, b, d, e, h⟩ := h
  exact ⟨c, a, b, d, e, h.app⟩
/-- things that were laid on top stand as they were -/
theorem gone_app {mu more mu' : Mu} {k : Nat} (h : Src mu k) (g : Gone (mu ++ more) k mu') : ∃ mu0, mu' = mu0 ++ more ∧ Gone mu k mu0 := by
  obtain ⟨c, a, b, d, e, h⟩ := h
  obtain ⟨l, c', ⟨x1, x2, x3, x4, s⟩, ⟨y1, y2, y3, y4, t⟩, r⟩ := g
  have ec := srcAt_c h.app s
  subst ec
  have kl := h.kl
  have cl := h.cl
  rw [List.length_append] at l
  have tk : mu'.take mu.length ++ mu'.drop mu.length = mu' := List.take_append_drop _ _
  have ed : mu'.drop mu.length = more := by
    apply List.ext_getElem?
    intro j
    rw [List.getElem?_drop, r (mu.length + j) (by omega) (by omega), List.getElem?_append_right (by omega)]
    congr 1
    omega
  refine ⟨mu'.take mu.length, by rw [← ed]; exact tk.symm, by rw [List.length_take]; omega, c, ⟨_, _, _, _, h⟩, ⟨y1, y2, y3, y4, ?_⟩, fun j h1 h2 => ?_⟩
  · exact ⟨by rw [List.getElem?_take_of_lt kl]; exact t.dk, by rw [List.getElem?_take_of_lt cl]; exact t.dc, t.ne⟩
  · by_cases hj : j < mu.length
    · rw [List.getElem?_take_of_lt hj, r j h1 h2, List.getElem?_append_left hj]
    · rw [List.getElem?_eq_none (by rw [List.length_take]; omega), List.getElem?_eq_none (by omega)]
/-- a def that lets the source go on, with things of its own on top -/
theorem retD_top {mu mu0 more : Mu} {k : Nat} {Q : S → Mu → Prop} {x : D} (g : Gone mu k mu0) (h : Q (.d x) mu0) : retD mu Q (.d x) (mu0 ++ more) := by
  obtain ⟨h1, h2, h3⟩ := retD_gone g h
  have l : mu0.length = mu.length := g.1
  refine ⟨by rw [List.length_append]; omega, fun j mo hj e => ?_, ?_⟩
  · rw [List.getElem?_append_left (by omega)] at e
    exact h2 j mo hj e
  · show Q (.d x) ((mu0 ++ more).take mu.length)
    rw [← l, List.take_left]
    exact h
end DL
set_option Elab.async false
set_option linter.all false
set_option maxRecDepth 100000
set_option maxHeartbeats 1000000
/-! DK2: a reading worked out step by step -/
namespace DL
open PySem PySem.Spec L2
def AsB (s : S) (P : Bool → Prop) : Prop := match s with
  | .d (.bl k) => P k
  | _ => False
def AsI (s : S) (P : Int → Prop) : Prop := match s with
  | .d (.int k) => P k
  | _ => False
def AsD (s : S) (P : D → Prop) : Prop := match s with
  | .d x => P x
  | .h _ => False
theorem e_asB {P : Bool → Prop} {k : Bool} (q : P k) : AsB (.d (.bl k)) P := q
theorem e_asI {P : Int → Prop} {k : Int} (q : P k) : AsI (.d (.int k)) P := q
theorem e_asD {P : D → Prop} {x : D} (q : P x) : AsD (.d x) P := q
def AsBd (d : D) (P : Bool → Prop) : Prop := match d with
  | .bl k => P k
  | _ => False
theorem e_asBd {P : Bool → Prop} {k : Bool} (q : P k) : AsBd (.bl k) P := q
def As1 (ss : List S) (P : S → Prop) : Prop := match ss with
  | [s] => P s
  | _ => False
def AsR (ss : List S) (P : Int → Prop) : Prop := match ss with
  | [.d (.int j)] => P j
  | _ => False
theorem e_as1 {a : S} {P : S → Prop} (q : P a) : As1 [a] P := q
theorem e_asR {j : Int} {P : Int → Prop} (q : P j) : AsR [.d (.int j)] P := q
section
variable {E : DEnds} {sl : Sl} {mu : Mu} {f fa fb fc : WE} {g h : WS} {t ta tb : WT} {Q : S → Mu → Prop} {fs : WA} {P : Bool → Mu → Prop}
theorem e_seq (q : g { nx := fun sl' mu' => h E sl' mu', rt := E.rt, bk := E.bk, ct := E.ct } sl mu) : wSeq g h E sl mu := q
theorem e_sset {i : Nat} (q : f sl mu fun s mu1 => h E (sl.set i (some s)) mu1) : wSeq (wSet i f) h E sl mu := q
theorem e_sif (q : t sl mu fun k mu1 => if k = true then g { nx := fun sl' mu' => h E sl' mu', rt := E.rt, bk := E.bk, ct := E.ct } sl mu1 else h E sl mu1) : wSeq (wIf t g wSkip) h E sl mu := q
theorem e_sdrop (q : f sl mu fun _ mu1 => h E sl mu1) : wSeq (wDrop f) h E sl mu := q
theorem e_sput {fo fi fe : WE} (q : fe sl mu fun v mu1 => fo sl mu1 fun s mu2 => fi sl mu2 fun k mu3 => AsD k fun kd => On (keyD kd) fun key => On (mutD s mu3) fun p => p.2.length < sizeLine ∧ h E sl (mu3.set p.1 (some (.dic (putS p.2 key v))))) : wSeq (wDput fo fi fe) h E sl mu := q
theorem e_sfor {fi : WI} {o : WG} (q : fi sl mu fun ds mu1 => wForD o g { nx := fun sl' mu' => h E sl' mu', rt := E.rt, bk := E.bk, ct := E.ct } ds sl mu1) : wSeq (wFor fi o g) h E sl mu := q
theorem e_swhile (q : ∃ n, wWhileN t g { nx := fun sl' mu' => h E sl' mu', rt := E.rt, bk := E.bk, ct := E.ct } n sl mu) : wSeq (wWhile t g) h E sl mu := q
theorem e_sasg {o : WG} (q : f sl mu fun s mu1 => AsD s fun d => On (o d sl) fun sl1 => h E sl1 mu1) : wSeq (wAsg f o) h E sl mu := q
def As2 (ss : List S) (P : S → S → Prop) : Prop := match ss with
  | [s, t] => P s t
  | _ => False
theorem e_as2 {a b : S} {P : S → S → Prop} (q : P a b) : As2 [a, b] P := q
theorem e_spar {i j : Nat} (q : fs sl mu fun ss mu1 => As2 ss fun a b => h E ((sl.set i (some a)).set j (some b)) mu1) : wSeq (wPar i j fs) h E sl mu := q
theorem e_ret (q : f sl mu fun s mu1 => E.rt s mu1) : wRet f E sl mu := q
theorem e_drop (q : f sl mu fun _ mu1 => E.nx sl mu1) : wDrop f E sl mu := q
theorem e_set {i : Nat} (q : f sl mu fun s mu1 => E.nx (sl.set i (some s)) mu1) : wSet i f E sl mu := q
theorem e_if (q : t sl mu fun k mu1 => if k = true then g E sl mu1 else h E sl mu1) : wIf t g h E sl mu := q
theorem e_skip (q : E.nx sl mu) : wSkip E sl mu := q
theorem e_var {i : Nat} {s : S} (e : sl[i]? = some (some s)) (q : Q s mu) : wVar i sl mu Q := by
  unfold wVar
  rw [e]
  exact q
theorem e_c {d : D} (q : Q (.d d) mu) : wC d sl mu Q := q
theorem e_bin {o : G2} (q : fa sl mu fun s1 mu1 => fb sl mu1 fun s2 mu2 => On (o s1 s2 mu2) fun d => Q (.d d) mu2) : wBin o fa fb sl mu Q := q
theorem e_un {o : G1} (q : fa sl mu fun s1 mu1 => On (o s1 mu1) fun d => Q (.d d) mu1) : wUn o fa sl mu Q := q
theorem e_call {o : GN} (q : fs sl mu fun ss mu1 => On (o ss mu1) fun d => Q (.d d) mu1) : wCall o fs sl mu Q := q
theorem e_fn {W : WF} (q : fs sl mu fun ss mu1 => W ss mu1 Q) : wFn W fs sl mu Q := q
theorem e_nil {A : List S → Mu → Prop} (q : A [] mu) : wNil sl mu A := q
theorem e_cons {A : List S → Mu → Prop} (q : fa sl mu fun s mu1 => fs sl mu1 fun ss mu2 => A (s :: ss) mu2) : wCons fa fs sl mu A := q
theorem e_B (q : fa sl mu fun s mu1 => AsB s fun k => P k mu1) : wB fa sl mu P := q
theorem e_not (q : t sl mu fun k mu1 => P (!k) mu1) : wNotT t sl mu P := q
theorem e_and (q : ta sl mu fun k mu1 => if k = true then tb sl mu1 P else P false mu1) : wAndT ta tb sl mu P := q
theorem e_or (q : ta sl mu fun k mu1 => if k = true then P true mu1 else tb sl mu1 P) : wOrT ta tb sl mu P := q
theorem e_andV (q : wB fa sl mu fun k mu1 => if k = true then fb sl mu1 Q else Q (.d (.bl false)) mu1) : wAndV fa fb sl mu Q := q
theorem e_orV (q : wB fa sl mu fun k mu1 => if k = true then Q (.d (.bl true)) mu1 else fb sl mu1 Q) : wOrV fa fb sl mu Q := q
theorem e_notV (q : wB fa sl mu fun k mu1 => Q (.d (.bl (!k))) mu1) : wNotV fa sl mu Q := q
theorem e_ifE (q : t sl mu fun k mu1 => if k = true then fa sl mu1 Q else fb sl mu1 Q) : wIfE t fa fb sl mu Q := q
theorem e_on {α : Type} {o : Option α} {x : α} {A : α → Prop} (e : o = some x) (q : A x) : On o A := pw_on e q
theorem e_yes (q : P true mu) : wYes sl mu P := q
theorem e_iter {A : List D → Mu → Prop} (q : f sl mu fun s mu1 => AsD s fun x => On (walkOf x) fun ds => A ds mu1) : wIter f sl mu A := q
theorem e_range {A : List D → Mu → Prop} (q : fs sl mu fun ss mu1 => AsR ss fun j => inR62 j = true ∧ A (rangeD 0 j) mu1) : wRange1 fs sl mu A := q
theorem e_for {fi : WI} {o : WG} (q : fi sl mu fun ds mu1 => wForD o g E ds sl mu1) : wFor fi o g E sl mu := q
theorem e_comp {fi : WI} {o : WG} {vs : List Nat} (q : fi sl mu fun ds mu1 => wCompD o t f (wipeD sl vs) Q ds [] mu1) : wComp fi o t f vs sl mu Q := q
theorem e_dget {fo fi : WE} (q : fo sl mu fun s mu1 => fi sl mu1 fun k mu2 => On (dGet s k mu2) fun r => Q r mu2) : wDget fo fi sl mu Q := q
theorem e_dput {fo fi fe : WE} (q : fe sl mu fun v mu1 => fo sl mu1 fun s mu2 => fi sl mu2 fun k mu3 => AsD k fun kd => On (keyD kd) fun key => On (mutD s mu3) fun p => p.2.length < sizeLine ∧ E.nx sl (mu3.set p.1 (some (.dic (putS p.2 key v))))) : wDput fo fi fe E sl mu := q
theorem e_mut {o : GM} {fo : WE} (q : fo sl mu fun s mu1 => On (mutL s mu1) fun _ => fs sl mu1 fun ss mu2 => On (mutL s mu2) fun p => On (o p.2 ss) fun r => Q (.d r.1) (mu2.set p.1 (some (.lst r.2)))) : wMut o fo fs sl mu Q := q
theorem e_part {A : Option Int → Mu → Prop} (q : f sl mu fun s mu1 => AsI s fun i => A (some i) mu1) : wPart f sl mu A := q
theorem e_nopart {A : Option Int → Mu → Prop} (q : A none mu) : wNoPart sl mu A := q
theorem e_slice {fl fh : WO} (q : fa sl mu fun s mu1 => fl sl mu1 fun lo mu2 => fh sl mu2 fun hi mu3 => On (dSlice s lo hi mu3) fun d => Q (.d d) mu3) : wSlice fa fl fh sl mu Q := q
theorem e_listM (q : fs sl mu fun ss mu1 => As1 ss fun s => On (rdQ s mu1) fun ds => Q (.h mu1.length) (mu1 ++ [some (.lst ds)])) : wListM fs sl mu Q := q
theorem e_revM (q : fa sl mu fun s mu1 => On (rdL s mu1) fun ds => Q (.h mu1.length) (mu1 ++ [some (.lst ds.reverse)])) : wRevM fa sl mu Q := q
theorem e_newL (q : fs sl mu fun ss mu1 => ss.length ≤ sizeLine ∧ On (allD ss) fun ds => Q (.h mu1.length) (mu1 ++ [some (.lst ds)])) : wNewL fs sl mu Q := q
theorem e_true {A B : Prop} (q : A) : if true = true then A else B := by
  rw [if_pos rfl]
  exact q
theorem e_false {A B : Prop} (q : B) : if false = true then A else B := by
  rw [if_neg (by decide)]
  exact q
theorem e_ite {c : Bool} {A B : Prop} (q : c = true → A) (r : c = false → B) : if c = true then A else B := by
  cases c with
  | true => exact e_true (q rfl)
  | false => exact e_false (r rfl)
theorem e_chain {o o' : G2} (q : fa sl mu fun s1 mu1 => fb sl mu1 fun s2 mu2 => On (o s1 s2 mu2) fun d => AsBd d fun k => if k = true then fc sl mu2 fun s3 mu3 => On (o' s2 s3 mu3) fun d => Q (.d d) mu3 else Q (.d (.bl false)) mu2) : wChain o o' fa fb fc sl mu Q := q
theorem on_mod {i j : Int} (h : j ≠ 0) : dMod (.d (.int i)) (.d (.int j)) mu = some (.int (i.fmod j)) := if_pos h
theorem on_fdiv {i j : Int} (h : j ≠ 0) (h2 : j.natAbs < 1073741824) : dFdiv (.d (.int i)) (.d (.int j)) mu = some (.int (i.fdiv j)) := if_pos ⟨h, h2⟩
theorem on_mul {i j : Int} (h : (DL.small64 i || DL.small64 j) = true) : dMul (.d (.int i)) (.d (.int j)) mu = some (.int (i * j)) := if_pos h
theorem top_lst {ds : List D} : (mu ++ [some (.lst ds)])[mu.length]? = some (some (.lst ds)) := by simp
theorem top_set {x y : Option MO} : (mu ++ [x]).set mu.length y = mu ++ [y] := by simp
theorem len_h {k : Nat} {ds : List D} (h : mu[k]? = some (some (.lst ds))) : dLen [.h k] mu = some (.int (ds.length : Nat)) := by
  unfold dLen d1 rdQ rdL
  simp only [h, Option.map_some]
theorem mut_h {k : Nat} {ds : List D} (h : mu[k]? = some (some (.lst ds))) : mutL (.h k) mu = some (k, ds) := by
  unfold mutL
  simp only [h]
theorem range_len (j : Int) : (rangeD 0 j).length = j.toNat := by
  unfold rangeD
  simp
theorem range_at {j : Int} {i : Nat} {d : D} (h : (rangeD 0 j)[i]? = some d) : d = .int i ∧ (i : Int) < j := by
  unfold rangeD at h
  simp only [List.getElem?_map, Int.sub_zero] at h
  cases hr : (List.range j.toNat)[i]? with
  | none =>
    rw [hr] at h
    cases h
  | some x =>
    rw [hr] at h
    obtain ⟨h1, h2⟩ := List.getElem?_eq_some_iff.mp hr
    rw [List.length_range] at h1
    rw [List.getElem_range] at h2
    subst h2
    cases h
    exact ⟨by simp, by omega⟩
theorem popAt_at {ds : List D} {r : Int} (h0 : 0 ≤ r) (h1 : r < ds.length) (hs : ds.length < 1000000) : ∃ d, ds[r.toNat]? = some d ∧ gPopAt ds [.d (.int r)] = some (d, ds.eraseIdx r.toNat) := by
  have hl : r.toNat < ds.length := by omega
  refine ⟨ds[r.toNat], List.getElem?_eq_getElem hl, ?_⟩
  have e1 : inR62 r = true := by
    unfold inR62
    exact decide_eq_true (by omega)
  have e2 : ixN ds.length r = some r.toNat := by
    unfold ixN
    split <;> first | omega | (congr 1; omega) | skip
    all_goals first | omega | (simp; omega) | rfl
  show (if inR62 r = true then _ else _) = _
  rw [if_pos e1, e2]
  show (ds[r.toNat]?).map _ = _
  rw [List.getElem?_eq_getElem hl]
  rfl
end
end DL
set_option Elab.async false
set_option linter.all false
set_option maxRecDepth 100000
set_option maxHeartbeats 1000000
/-! DK3: comprehensions over a mapped list; all, any, repr, == of data -/
namespace DL
open PySem PySem.Spec L2
theorem comp_map {α : Type} {mk : α → D} {g : WG} {tt : WT} {te : WE} {sl0 : Sl} {Q : S → Mu → Prop} {mu : Mu} (t : α → Bool) (h : α → D) (f : α → Sl) : ∀ (xs : List α) (acc : List D), (∀ x ∈ xs, g (mk x) sl0 = some (f x)) →
    (∀ x ∈ xs, ∀ P : Bool → Mu → Prop, P (t x) mu → tt (f x) mu P) → (∀ x ∈ xs, t x = true → ∀ P : S → Mu → Prop, P (.d (h x)) mu → te (f x) mu P) → acc.length + xs.length ≤ sizeLine →
    Q (.d (.lst (acc ++ (xs.filter t).map h))) mu → wCompD g tt te sl0 Q (xs.map mk) acc mu
  | [], acc, _, _, _, _, q => by
    show Q (.d (.lst acc)) mu
    simpa using q
  | x :: xs, acc, hg, ht, he, hl, q => by
    rw [List.map_cons]
    unfold wCompD
    rw [List.length_cons] at hl
    refine pw_on (hg x (List.mem_cons_self ..)) (ht x (List.mem_cons_self ..) _ ?_)
    cases ed : t x with
    | true =>
      rw [if_pos rfl]
      refine he x (List.mem_cons_self ..) ed _ ⟨by omega, ?_⟩
      refine comp_map t h f xs _ (fun y hy => hg y (List.mem_cons_of_mem _ hy)) (fun y hy => ht y (List.mem_cons_of_mem _ hy)) (fun y hy => he y (List.mem_cons_of_mem _ hy)) (by rw [List.length_append]; simp; omega) ?_
      rw [List.filter_cons, if_pos ed] at q
      simpa using q
    | false =>
      rw [if_neg (by decide)]
      refine comp_map t h f xs _ (fun y hy => hg y (List.mem_cons_of_mem _ hy)) (fun y hy => ht y (List.mem_cons_of_mem _ hy)) (fun y hy => he y (List.mem_cons_of_mem _ hy)) (by omega) ?_
      rw [List.filter_cons, if_neg (by rw [ed]; decide)] at q
      exact q
theorem asBs_map : ∀ bs : List Bool, asBs (bs.map D.bl) = some bs
  | [] => rfl
  | b :: bs => by
    show (asBs (bs.map D.bl)).map (b :: ·) = _
    rw [asBs_map bs]
    rfl
theorem on_all {bs : List Bool} {mu : Mu} : dAll [.d (.lst (bs.map D.bl))] mu = some (.bl (bs.all id)) := by
  show (asBs (bs.map D.bl)).map _ = _
  rw [asBs_map]
  rfl
theorem on_any {bs : List Bool} {mu : Mu} : dAny [.d (.lst (bs.map D.bl))] mu = some (.bl (bs.any id)) := by
  show (asBs (bs.map D.bl)).map _ = _
  rw [asBs_map]
  rfl
/-- data that can be shown: n bounds what it takes -/
structure Fit (n : Nat) (d : D) (p : PyData) : Prop where
  py : toPyR d = some p
  sh : p.showable = true
  lv : p.leavesShort 100 = true
  bk : p.bulk ≤ n
  dp : p.depth ≤ 50
  ok : okr p = true
theorem on_repr {n : Nat} {d : D} {p : PyData} {mu : Mu} (f : Fit n d p) (hn : n ≤ 100000) : dRepr [.d d] mu = some (.str p.shown) := by
  show (toPyR d).bind _ = _
  rw [f.py]
  show (if _ then _ else _) = _
  have h := PyData.shown_le_bulk 100 (by decide) p f.lv
  have h2 := f.bk
  have h3 : p.shown.length ≤ sizeLine := by
    rw [sizeLine_eq]
    omega
  have h4 : p.depth ≤ 60 := by
    have := f.dp
    omega
  rw [if_pos]
  rw [f.sh, decide_eq_true h3, decide_eq_true h4, f.ok]
  rfl
theorem on_repr_h {k n : Nat} {mo : MO} {d : D} {p : PyData} {mu : Mu} (h : mu[k]? = some (some mo)) (e : mo.asD = some d) (f : Fit n d p) (hn : n ≤ 100000) : dRepr [.h k] mu = some (.str p.shown) := by
  have z := on_repr (mu := mu) f hn
  show (pk (.h k) mu).bind _ = _
  have e2 : pk (.h k) mu = some d := by
    unfold pk
    simp only [h, e]
  rw [e2]
  exact z
end DL
namespace DL
open PySem PySem.Spec L2
theorem eqv_strs : ∀ a b : List Str, PyData.eqvAll (a.map PyData.str) (b.map PyData.str) = decide (a = b)
  | [], [] => rfl
  | [], _ :: _ => rfl
  | _ :: _, [] => rfl
  | x :: a, y :: b => by
    rw [List.map_cons, List.map_cons]
    show (PyData.eqv (.str x) (.str y) && PyData.eqvAll (a.map PyData.str) (b.map PyData.str)) = _
    rw [eqv_strs a b]
    show ((x == y) && decide (a = b)) = _
    rw [Bool.eq_iff_iff]
    simp
theorem pys_strs : ∀ zs : List Str, toPys (zs.map D.str) = some (zs.map PyData.str)
  | [] => rfl
  | z :: zs => by
    simp only [List.map_cons, toPys, toPy, pys_strs zs]
theorem lay_strs : ∀ zs : List Str, (∀ z ∈ zs, PyData.strOk z = true) → PyData.canLayAll0 (zs.map PyData.str) = true
  | [], _ => rfl
  | z :: zs, h => by
    rw [List.map_cons]
    show (PyData.canLay0 (.str z) && PyData.canLayAll0 (zs.map PyData.str)) = true
    rw [lay_strs zs fun y hy => h y (List.mem_cons_of_mem _ hy), Bool.and_true]
    show PyData.canLay0 (.str z) = true
    simpa only [PyData.canLay0] using h z (List.mem_cons_self ..)
theorem depth_strs : ∀ zs : List Str, PyData.depthAll (zs.map PyData.str) = 0
  | [] => rfl
  | z :: zs => by
    rw [List.map_cons]
    show max (PyData.depth (.str z)) (PyData.depthAll (zs.map PyData.str)) = 0
    rw [depth_strs zs]
    rfl
theorem shaped_strs {zs : List Str} (h : ∀ z ∈ zs, PyData.strOk z = true) : SeqAt.shaped (.list (zs.map PyData.str)) = true ∧ SeqAt.shaped (.tuple (zs.map PyData.str)) = true := by
  have e1 : PyData.depth (.list (zs.map PyData.str)) = 1 := by
    show PyData.depthAll _ + 1 = 1
    rw [depth_strs]
  have e2 : PyData.depth (.tuple (zs.map PyData.str)) = 1 := by
    show PyData.depthAll _ + 1 = 1
    rw [depth_strs]
  unfold SeqAt.shaped
  rw [e1, e2]
  constructor
  · simpa only [PyData.canLay0, Bool.and_true, decide_true] using by
      simpa using lay_strs zs h
  · simpa only [PyData.canLay0, Bool.and_true, decide_true] using by
      simpa using lay_strs zs h
theorem on_eq_lst {neg : Bool} {a b : List Str} {mu : Mu} (ha : ∀ z ∈ a, PyData.strOk z = true) (hb : ∀ z ∈ b, PyData.strOk z = true) :
    dEq neg (.d (.lst (a.map D.str))) (.d (.lst (b.map D.str))) mu = some (.bl (if neg then !decide (a = b) else decide (a = b))) := by
  show (if (a.map D.str).length = (b.map D.str).length then _ else _) = _
  rw [List.length_map, List.length_map]
  by_cases hl : a.length = b.length
  rotate_left
  · rw [if_neg hl, decide_eq_false (fun z => hl (by rw [z]))]
    cases neg <;> rfl
  rw [if_pos hl]
  show (toPy (.lst (a.map D.str))).bind _ = _
  simp only [toPy, pys_strs, Option.map_some, Option.bind_some, (shaped_strs ha).1, (shaped_strs hb).1, Bool.and_self, if_true]
  show some (D.bl (if neg = true then !PyData.eqvAll _ _ else PyData.eqvAll _ _)) = _
  rw [eqv_strs]
theorem on_eq_tup {neg : Bool} {a b : List Str} {mu : Mu} (ha : ∀ z ∈ a, PyData.strOk z = true) (hb : ∀ z ∈ b, PyData.strOk z = true) :
    dEq neg (.d (.tup (a.map D.str))) (.d (.tup (b.map D.str))) mu = some (.bl (if neg then !decide (a = b) else decide (a = b))) := by
  show dEqG neg _ _ mu = _
  show (toPy (.tup (a.map D.str))).bind _ = _
  simp only [toPy, pys_strs, Option.map_some, Option.bind_some, (shaped_strs ha).2, (shaped_strs hb).2, Bool.and_self, if_true]
  show some (D.bl (if neg = true then !PyData.eqvAll _ _ else PyData.eqvAll _ _)) = _
  rw [eqv_strs]
theorem on_disp {f : List D → D} {ss : List S} {ds : List D} {mu : Mu} (e : allD ss = some ds) (h : ss.length < 1000000) : dDisp f ss mu = some (f ds) := by
  show (if _ then _ else _) = _
  rw [if_pos (by rw [sizeLine_eq]; omega), e]
  rfl
theorem on_ne_len {neg : Bool} {a b : List D} {mu : Mu} (h : a.length ≠ b.length) : dEq neg (.d (.lst a)) (.d (.lst b)) mu = some (.bl neg) := if_neg h
theorem filter_t {α : Type} (xs : List α) : (xs.filter fun _ => true) = xs := List.filter_eq_self.mpr fun _ _ => rfl
end DL
namespace DL
open PySem PySem.Spec L2
theorem flat_strs : ∀ ys : List Str, (ys.map D.str).all flatD = true
  | [] => rfl
  | y :: ys => by
    rw [List.map_cons, List.all_cons, flat_strs ys]
    rfl
theorem has_strs (z : Str) : ∀ ys : List Str, hasD (.str z) (ys.map D.str) = decide (z ∈ ys)
  | [] => rfl
  | y :: ys => by
    have ih := has_strs z ys
    unfold hasD inV at ih ⊢
    rw [List.map_cons, List.map_cons, List.any_cons, ih]
    show ((y == z) || decide (z ∈ ys)) = _
    rw [Bool.eq_iff_iff]
    simp only [Bool.or_eq_true, beq_iff_eq, decide_eq_true_eq, List.mem_cons]
    constructor
    · rintro (h | h)
      · exact .inl h.symm
      · exact .inr h
    · rintro (h | h)
      · exact .inl h.symm
      · exact .inr h
theorem on_in_tup {neg : Bool} {z : Str} {ys : List Str} {mu : Mu} : dIn neg (.d (.str z)) (.d (.tup (ys.map D.str))) mu = some (.bl (if neg then !decide (z ∈ ys) else decide (z ∈ ys))) := by
  show (if (flatD (.str z) && (ys.map D.str).all flatD) = true then _ else _) = _
  rw [flat_strs, has_strs]
  rfl
theorem on_in_lst {neg : Bool} {z : Str} {ys : List Str} {mu : Mu} : dIn neg (.d (.str z)) (.d (.lst (ys.map D.str))) mu = some (.bl (if neg then !decide (z ∈ ys) else decide (z ∈ ys))) := by
  show (if (flatD (.str z) && (ys.map D.str).all flatD) = true then _ else _) = _
  rw [flat_strs, has_strs]
  rfl
end DL
set_option Elab.async false
set_option linter.all false
set_option maxRecDepth 100000
set_option maxHeartbeats 1000000
/-! DK4: what can be shown, piece by piece -/
namespace DL
open PySem PySem.Spec L2
structure Fit0 (n m : Nat) (d : D) (p : PyData) : Prop where
  py : toPyR d = some p
  sh : p.showable = true
  lv : p.leavesShort 100 = true
  bk : p.bulk ≤ n
  dp : p.depth ≤ m
  nd : p.hasDict = false
structure Fits (n m : Nat) (ds : List D) (ps : List PyData) : Prop where
  py : toPyRs ds = some ps
  sh : PyData.showableAll ps = true
  lv : PyData.leavesShortAll 100 ps = true
  bk : PyData.bulkAll ps ≤ n
  dp : PyData.depthAll ps ≤ m
  nd : PyData.hasDictAll ps = false
theorem Fits.nil {n m : Nat} : Fits n m [] [] := ⟨rfl, rfl, rfl, Nat.zero_le _, Nat.zero_le _, rfl⟩
theorem Fits.cons {n n2 n3 m : Nat} {d : D} {p : PyData} {ds : List D} {ps : List PyData} (a : Fit0 n m d p) (b : Fits n2 m ds ps) (h : n + 1 + n2 ≤ n3) : Fits n3 m (d :: ds) (p :: ps) := by
  refine ⟨?_, ?_, ?_, ?_, ?_, ?_⟩
  · simp only [toPyRs, a.py, b.py]
  · show (p.showable && PyData.showableAll ps) = true
    rw [a.sh, b.sh]
    rfl
  · show (p.leavesShort 100 && PyData.leavesShortAll 100 ps) = true
    rw [a.lv, b.lv]
    rfl
  · have h1 := a.bk
    have h2 := b.bk
    show p.bulk + 1 + PyData.bulkAll ps ≤ n3
    omega
  · have h1 := a.dp
    have h2 := b.dp
    show max p.depth (PyData.depthAll ps) ≤ m
    omega
  · show (p.hasDict || PyData.hasDictAll ps) = false
    rw [a.nd, b.nd]
    rfl
theorem Fit0.lst {n m : Nat} {ds : List D} {ps : List PyData} (b : Fits n m ds ps) : Fit0 n (m + 1) (.lst ds) (.list ps) := by
  refine ⟨?_, ?_, ?_, ?_, ?_, ?_⟩
  · simp only [toPyR, b.py, Option.map_some]
  · simpa only [PyData.showable] using b.sh
  · simpa only [PyData.leavesShort] using b.lv
  · simpa only [PyData.bulk] using b.bk
  · have := b.dp
    show PyData.depthAll ps + 1 ≤ m + 1
    omega
  · simpa only [PyData.hasDict] using b.nd
theorem Fit0.tup {n m : Nat} {ds : List D} {ps : List PyData} (b : Fits n m ds ps) : Fit0 n (m + 1) (.tup ds) (.tuple ps) := by
  refine ⟨?_, ?_, ?_, ?_, ?_, ?_⟩
  · simp only [toPyR, b.py, Option.map_some]
  · simpa only [PyData.showable] using b.sh
  · simpa only [PyData.leavesShort] using b.lv
  · simpa only [PyData.bulk] using b.bk
  · have := b.dp
    show PyData.depthAll ps + 1 ≤ m + 1
    omega
  · simpa only [PyData.hasDict] using b.nd
theorem Fit0.fit {n m : Nat} {d : D} {p : PyData} (a : Fit0 n m d p) (h : m ≤ 50) : Fit n d p := by
  refine ⟨a.py, a.sh, a.lv, a.bk, Nat.le_trans a.dp h, ?_⟩
  have nd := a.nd
  cases p with
  | list ps =>
    have e : PyData.hasDictAll ps = false := by simpa only [PyData.hasDict] using nd
    show (!PyData.hasDictAll ps || noLists ps) = true
    rw [e]
    rfl
  | tuple ps =>
    have e : PyData.hasDictAll ps = false := by simpa only [PyData.hasDict] using nd
    show (!PyData.hasDictAll ps || noLists ps) = true
    rw [e]
    rfl
  | _ => rfl
def okS (z : Str) : Bool := decide (z.cps.size ≤ 100) && z.cps.toList.all fun c => decide (c < 16 ^ 8)
theorem fit_str {z : Str} {m : Nat} (h : okS z = true) : Fit0 100 m (.str z) (.str z) := by
  unfold okS at h
  rw [Bool.and_eq_true, decide_eq_true_eq] at h
  exact ⟨rfl, rfl, by simpa only [PyData.leavesShort] using h.2, by simpa only [PyData.bulk] using h.1, Nat.zero_le _, rfl⟩
theorem fits_strs {m : Nat} : ∀ zs : List Str, (∀ z ∈ zs, okS z = true) → Fits (101 * zs.length) m (zs.map D.str) (zs.map PyData.str)
  | [], _ => Fits.nil
  | z :: zs, h => by
    rw [List.map_cons, List.map_cons]
    exact Fits.cons (fit_str (h z (List.mem_cons_self ..))) (fits_strs zs fun y hy => h y (List.mem_cons_of_mem _ hy)) (by rw [List.length_cons]; omega)
theorem fit_int {i : Int} {m : Nat} (h : i.natAbs < 10 ^ 40) : Fit0 0 m (.int i) (.int i) := by
  refine ⟨rfl, ?_, ?_, Nat.zero_le _, Nat.zero_le _, rfl⟩
  · show decide (i.natAbs.log2 < 1920) = true
    refine decide_eq_true ?_
    by_cases h0 : i.natAbs = 0
    · rw [h0]
      decide
    · have := (Nat.log2_lt h0 (k := 200)).mpr (Nat.lt_trans h (by decide))
      omega
  · have e := int_text_length_le10 (a := i) (k := 40) (by decide) h
    show decide ((Str.ofString (toString i)).length ≤ 100) = true
    refine decide_eq_true ?_
    rw [ofString_length]
    omega
theorem fits_ints {m : Nat} : ∀ zs : List Int, (∀ z ∈ zs, z.natAbs < 10 ^ 40) → Fits zs.length m (zs.map D.int) (zs.map PyData.int)
  | [], _ => Fits.nil
  | z :: zs, h => by
    rw [List.map_cons, List.map_cons]
    exact Fits.cons (fit_int (h z (List.mem_cons_self ..))) (fits_ints zs fun y hy => h y (List.mem_cons_of_mem _ hy)) (by rw [List.length_cons]; omega)
theorem eqv_ints : ∀ a : List Int, PyData.eqvAll (a.map PyData.int) (a.map PyData.int) = true
  | [] => rfl
  | x :: a => by
    rw [List.map_cons]
    show (PyData.eqv (.int x) (.int x) && PyData.eqvAll (a.map PyData.int) (a.map PyData.int)) = true
    rw [eqv_ints a]
    show ((x == x) && true) = true
    rw [beq_self_eq_true]
    rfl
theorem pys_ints : ∀ zs : List Int, toPys (zs.map D.int) = some (zs.map PyData.int)
  | [] => rfl
  | z :: zs => by
    simp only [List.map_cons, toPys, toPy, pys_ints zs]
theorem lay_ints : ∀ zs : List Int, PyData.canLayAll0 (zs.map PyData.int) = true
  | [] => rfl
  | z :: zs => by
    rw [List.map_cons]
    show (PyData.canLay0 (.int z) && PyData.canLayAll0 (zs.map PyData.int)) = true
    rw [lay_ints zs]
    rfl
theorem depth_ints : ∀ zs : List Int, PyData.depthAll (zs.map PyData.int) = 0
  | [] => rfl
  | z :: zs => by
    rw [List.map_cons]
    show max (PyData.depth (.int z)) (PyData.depthAll (zs.map PyData.int)) = 0
    rw [depth_ints zs]
    rfl
theorem on_eq_ints {neg : Bool} {a : List Int} {mu : Mu} : dEq neg (.d (.tup (a.map D.int))) (.d (.tup (a.map D.int))) mu = some (.bl (!neg)) := by
  have e2 : PyData.depth (.tuple (a.map PyData.int)) = 1 := by
    show PyData.depthAll _ + 1 = 1
    rw [depth_ints]
  have sh : SeqAt.shaped (.tuple (a.map PyData.int)) = true := by
    unfold SeqAt.shaped
    rw [e2]
    have z : (PyData.tuple (a.map PyData.int)).canLay0 = true := by simpa only [PyData.canLay0] using lay_ints a
    rw [z]
    rfl
  show dEqG neg _ _ mu = _
  show (toPy (.tup (a.map D.int))).bind _ = _
  simp only [toPy, pys_ints, Option.map_some, Option.bind_some, sh, Bool.and_self, if_true]
  show some (D.bl (if neg = true then !PyData.eqvAll _ _ else PyData.eqvAll _ _)) = _
  rw [eqv_ints]
  cases neg <;> rfl
end DL
set_option Elab.async false
set_option linter.all false
set_option maxRecDepth 100000
set_option maxHeartbeats 1000000
/-! DN: the head of a law, from a promise over data -/
namespace DL
open PySem PySem.Spec L2 PyProof.Rows
theorem vw_nil (H : Hp) : vw [] [] [] H = H := by
  funext b
  unfold vw
  rw [if_neg]
  rintro (z | ⟨k, mo, z, _⟩)
  · cases z
  · cases z
theorem cfg_nil {K : Frag} (H : Hp) : Cfg K [] [] [] H :=
  ⟨rfl, List.Pairwise.nil, fun a h => (nomatch h), fun a h => (nomatch h), fun a h => (nomatch h), fun k mo e => (by simp at e)⟩
/-- a script, and a promise that the answer is True of every script -/
theorem sp_script {K : Frag} {W : WF} {H : Hp} {a : Addr} {is : List Int} (hS : SqL K H a (is.map V.int)) (hW : ∀ Q : S → Mu → Prop, Q (.d (.bl true)) [] → W [.d (.scr is)] [] Q) : spD K W [.ref a] H (fun v _ => v = .bl true) := by
  refine ⟨[], [], [], [.d (.scr is)], fun s mu' => s = .d (.bl true), cfg_nil H, .cons ?_ .nil, hW _ rfl, fun s mu' m' H' v _ _ r e => ?_⟩
  · simp only [RS, R]
    rw [vw_nil]
    exact ⟨a, rfl, hS⟩
  · rw [e] at r
    simpa only [RS, R] using r
section
variable {P : Program} {w : World} {K : Frag} {mg mb : Str → Option Value} {k : Nat} {fa a : Addr} {fd : FuncData} {x : Str} {W : WF} {st : Shared} {us : List Value} {is : List Int}
/-- one call of the law's def, from a view in which nothing but the script may be seen -/
theorem head_at {H : Hp} (kin : K.In st.heap) (gm : st.heap.Ns mainGlobals mg) (gb : st.heap.Ns builtinsNs mb) (boot : ∀ y : Str, y ≠ "__name__" → mb y = bootBuiltins y) (nolim : st.heap.NoLimit) (gens : st.gens = #[])
    (at0 : st.heap.get? a = some { cls := .type "list", data := .seq us.toArray }) (room : Room k callerA) (FF : ∀ base : Heap, K.In base → base.Ns mainGlobals mg → FnG P w K mg base k fa fd [x] W)
    (bind : ∀ (s : Shared) (u : Value), BindsTo s fd ⟨[u], []⟩ [(x, u)]) (hW : ∀ Q : S → Mu → Prop, Q (.d (.bl true)) [] → W [.d (.scr is)] [] Q)
    (only : Only H) (hS : SqL K H a (is.map V.int)) (hok : HOk P w H st.heap) (none_but : ∀ b, H b ≠ none → b = a) (not_own : H a ≠ none → K.lookup a = none) :
    codeAny (model P w) callerA (.call (.ref fa) ⟨[.ref a], []⟩) (fun r s2 => r = .ok (.ret (.bool true)) ∧ OldK st.heap s2.heap ∧ s2.os = st.os ∧ AllBare s2.gens) st := by
  have hid : ∀ {b : Addr} {u : Obj}, st.heap.get? b = some u → H b = none → (hidT st.heap H).get? b = some u := fun e n => hidT_get e n
  have no_dict : ∀ {b : Addr} {u : Obj} {es : Array DictEntry} {n : Nat}, st.heap.get? b = some u → u.data = .dict es n → H b = none := by
    intro b u es n e d
    cases q : H b with
    | none => rfl
    | some z =>
      have eb := none_but b (by rw [q]; simp)
      rw [eb, at0] at e
      cases e
      cases d
  have spaces : ∀ {b : Addr} {m : Str → Option Value}, st.heap.Ns b m → (hidT st.heap H).Ns b m := by
    intro b m h
    obtain ⟨u, es, n, e, d, r⟩ := h
    exact ⟨u, es, n, hid e (no_dict e d), d, r⟩
  have kinH : K.In (hidT st.heap H) := by
    intro b u e
    refine hid (kin b u e) ?_
    cases q : H b with
    | none => rfl
    | some z =>
      have eb := none_but b (by rw [q]; simp)
      subst eb
      rw [not_own (by rw [q]; simp)] at e
      cases e
  have limH : (hidT st.heap H).NoLimit := by
    obtain ⟨mc, l1, l2⟩ := nolim
    exact ⟨mc, spaces l1, l2⟩
  have md : Mod K mg (hidT st.heap H) := ⟨kinH, spaces gm, ⟨mb, spaces gb, boot⟩, limH⟩
  have no_nil : ∀ b : Addr, b ∈ ([] : List Addr) → False := fun b z => by cases z
  have en : Env0 P w K mg (hidT st.heap H) callerA [] st H := by
    refine ⟨rfl, md, fun b u e => of_hidT e, Nat.le_of_eq (hidT_size _ _), trivial, fun b z => (no_nil b z).elim, hok, .of_eq gens⟩
  have run := (FF _ kinH (spaces gm)).run callerA [] st H ⟨[.ref a], []⟩ [.ref a] [.ref a] (fun v _ => v = .bl true) room rfl en (bind st (.ref a)) (.cons rfl .nil) (sp_script hS hW)
  refine codeAny_mono run fun r s2 h => ?_
  cases r with
  | error e => exact False.elim h
  | ok fl =>
    cases fl with
    | ret u =>
      obtain ⟨v, H2, same_os, bare, un, hok2, rv, ev⟩ := h
      have ev2 : v = .bl true := ev
      subst ev2
      have eu : u = Value.bool true := rv
      subst eu
      refine ⟨rfl, OldK.of_keep fun b o e => ?_, same_os, bare⟩
      cases q : H b with
      | none => exact un.keep b o e q (fun z => (no_nil b z).elim) (by simp)
      | some z =>
        rcases only b with y | ⟨ob, xs, y⟩
        · rw [q] at y
          cases y
        · have y2 := un.frzs b ob _ y
          obtain ⟨e1, _⟩ := hok b _ y
          obtain ⟨e2, _⟩ := hok2 b _ y2
          rw [e] at e1
          cases e1
          exact e2
    | _ => exact False.elim h
theorem head_call (kin : K.In st.heap) (gm : st.heap.Ns mainGlobals mg) (gb : st.heap.Ns builtinsNs mb) (boot : ∀ y : Str, y ≠ "__name__" → mb y = bootBuiltins y) (nolim : st.heap.NoLimit) (gens : st.gens = #[])
    (at0 : st.heap.get? a = some { cls := .type "list", data := .seq us.toArray }) (hi : IntsAre us is) (hl : is.length ≤ sizeLine) (room : Room k callerA) (FF : ∀ base : Heap, K.In base → base.Ns mainGlobals mg → FnG P w K mg base k fa fd [x] W)
    (bind : ∀ (s : Shared) (u : Value), BindsTo s fd ⟨[u], []⟩ [(x, u)]) (hW : ∀ Q : S → Mu → Prop, Q (.d (.bl true)) [] → W [.d (.scr is)] [] Q) :
    codeAny (model P w) callerA (.call (.ref fa) ⟨[.ref a], []⟩) (fun r s2 => r = .ok (.ret (.bool true)) ∧ OldK st.heap s2.heap ∧ s2.os = st.os ∧ AllBare s2.gens) st := by
  have vs := vals_ints hi
  have ls := hi.length
  cases own : K.lookup a with
  | some o =>
    have e := kin a o own
    rw [at0] at e
    cases e
    refine head_at (H := fun _ => none) kin gm gb boot nolim gens at0 room FF bind hW (fun _ => .inl rfl) ?_ (fun b u z => nomatch z) (fun b z => absurd rfl z) (fun z => absurd rfl z)
    exact .inr ⟨_, us.toArray, _, own, rfl, rfl, rfl, by rw [List.size_toArray, ls]; exact hl, by simpa using vs⟩
  | none =>
    let script : HO := .frz { cls := .type "list", data := .seq us.toArray } (.lst (is.map V.int))
    have here : (fun b => if b = a then some script else none) a = some script := if_pos rfl
    refine head_at (H := fun b => if b = a then some script else none) kin gm gb boot nolim gens at0 room FF bind hW (fun b => ?_) (.inl (.inr ⟨{ cls := .type "list", data := .seq us.toArray }, here⟩)) (fun b u z => ?_) (fun b z => ?_) fun _ => own
    · by_cases eb : b = a
      · exact .inr ⟨_, _, if_pos eb⟩
      · exact .inl (if_neg eb)
    · by_cases eb : b = a
      · have z2 := (if_pos eb).symm.trans z
        cases z2
        subst eb
        exact ⟨at0, by rw [List.length_map]; exact hl, us, _, vs, at0⟩
      · have z2 := (if_neg eb).symm.trans z
        cases z2
    · by_cases eb : b = a
      · exact eb
      · exact absurd (if_neg eb) z
end
/-- what k_head leaves, from the promise of the law's def -/
theorem walk_g {l : PySem.W.OpenLaw} {n k : Nat} {q : Program} {loose : List Str} {XP : (Str → Option Value) → Heap → Prop} {YP : World → Heap → Prop} {d : DefRec} {KK : Params → Frag} {x : Str} {W : WF}
    (most : l.most = some n) (few : n ≤ sizeLine) (plain : d.params.defaults = []) (room : Room k callerA) (kin : ∀ (w : World) (h : Heap), YP w h → (KK w.params).In h)
    (FF : ∀ (w : World) (mg : Str → Option Value) (fa : Addr) (h : Heap), (KK w.params).In h → h.Ns mainGlobals mg → mg d.name = some (.ref fa) →
      ∃ fd : FuncData, (∀ (s : Shared) (u : Value), BindsTo s fd ⟨[u], []⟩ [(x, u)]) ∧ ∀ base : Heap, (KK w.params).In base → base.Ns mainGlobals mg → FnG l.prog w (KK w.params) mg base k fa fd [x] W)
    (hW : ∀ is : List Int, is.length ≤ n → ∀ Q : S → Mu → Prop, Q (.d (.bl true)) [] → W [.d (.scr is)] [] Q) : PySem.W.WalkO q loose XP YP l.row.toRowW d [] (fun f vs => PySem.call f vs) := by
  refine Att.attach_call most plain fun w s0 st mg mb fa o pm cd doc a us is G Y ho hd hcd name at0 allInts len gens => ?_
  have kin1 := kin w _ Y
  obtain ⟨fd, bind, F1⟩ := FF w mg fa _ kin1 G.T.g name
  exact head_call kin1 G.T.g G.T.b G.T.builtins G.T.nolimit gens at0 allInts (Nat.le_trans len few) room F1 bind (hW is len)
end DL
set_option Elab.async false
set_option linter.all false
set_option maxRecDepth 100000
set_option maxHeartbeats 1000000
/-! DP: lists of things that change, what is let go between two rows, more built-ins -/
namespace DL
open PySem PySem.Spec L2

/-! ### a list of things that change is let go -/
def meltS (mu : Mu) : S → Option D
  | .d x => some x
  | .h j => match mu[j]? with
    | some (some mo) => mo.asD
    | _ => none
def meltL (mu : Mu) : List S → Option (List D)
  | [] => some []
  | s :: r => (meltS mu s).bind fun d => (meltL mu r).map (d :: ·)
def handlesOf : List S → List Nat
  | [] => []
  | .d _ :: r => handlesOf r
  | .h j :: r => j :: handlesOf r
def killS : List Nat → Mu → Mu
  | [], mu => mu
  | j :: js, mu => killS js (mu.set j none)
theorem set_none_sub {mu : Mu} {j i : Nat} {mo : MO} (h : (mu.set j none)[i]? = some (some mo)) : mu[i]? = some (some mo) ∧ i ≠ j := by
  by_cases hj : j = i
  · subst hj
    by_cases hk : j < mu.length
    · rw [List.getElem?_set_self hk] at h
      cases h
    · rw [List.getElem?_eq_none (by rw [List.length_set]; omega)] at h
      cases h
  · rw [List.getElem?_set_ne hj] at h
    exact ⟨h, Ne.symm hj⟩
theorem killS_sub : ∀ {js : List Nat} {mu : Mu} {i : Nat} {mo : MO}, (killS js mu)[i]? = some (some mo) → mu[i]? = some (some mo) ∧ i ∉ js
  | [], _, _, _, h => ⟨h, by simp⟩
  | j :: js, mu, i, mo, h => by
    obtain ⟨h1, h2⟩ := killS_sub (js := js) (mu := mu.set j none) h
    obtain ⟨h3, h4⟩ := set_none_sub h1
    exact ⟨h3, by simp only [List.mem_cons, not_or]; exact ⟨h4, h2⟩⟩
theorem killS_out : ∀ {js : List Nat} {mu : Mu} {i : Nat}, i ∉ js → (killS js mu)[i]? = mu[i]?
  | [], _, _, _ => rfl
  | j :: js, mu, i, h => by
    simp only [List.mem_cons, not_or] at h
    unfold killS
    rw [killS_out h.2, List.getElem?_set_ne (Ne.symm h.1)]
theorem killS_len : ∀ (js : List Nat) (mu : Mu), (killS js mu).length = mu.length
  | [], _ => rfl
  | j :: js, mu => by
    unfold killS
    rw [killS_len js, List.length_set]
section
variable {K : Frag} {ex m : List Addr} {mu mu' : Mu} {H : Hp}
theorem let_go2 {k : Nat} {mo : MO} {d : D} {v : V} (cf : Cfg K ex m mu H) (same : Same (vw ex m mu H) (vw ex m mu' H)) (hk : ∀ mo, mu'[k]? ≠ some (some mo)) (e : mu[k]? = some (some mo)) (ed : mo.asD = some d)
    (r : RS K m (vw ex m mu H) (.h k) v) : R K (vw ex m mu' H) d v := by
  obtain ⟨a, h1, rfl⟩ := r
  obtain ⟨b, o, g1, g2, g3⟩ := cf.st k mo e
  rw [h1] at g1
  cases g1
  refine RM.asD ed (g3.same same) (vw_some.mpr ⟨fun z => cf.exd a z (List.mem_of_getElem? h1), fun z => ?_, g2⟩)
  obtain ⟨j, mo', e1, e2⟩ := z
  have hj : j = k := by
    obtain ⟨p1, q1⟩ := List.getElem?_eq_some_iff.mp e1
    obtain ⟨p2, q2⟩ := List.getElem?_eq_some_iff.mp h1
    exact (List.getElem_inj cf.nd).mp (q1.trans q2.symm)
  subst hj
  exact hk mo' e2
theorem melt_one {s : S} {v : V} {d : D} (cf : Cfg K ex m mu H) (same : Same (vw ex m mu H) (vw ex m mu' H)) (hk : ∀ k, s = .h k → ∀ mo, mu'[k]? ≠ some (some mo)) (e : meltS mu s = some d) (r : RS K m (vw ex m mu H) s v) :
    R K (vw ex m mu' H) d v := by
  cases s with
  | d x =>
    cases e
    exact R.mono same _ _ r
  | h j =>
    unfold meltS at e
    simp only at e
    split at e
    · rename_i mo em
      exact let_go2 cf same (hk j rfl) em e r
    · cases e
theorem melt_list (cf : Cfg K ex m mu H) (same : Same (vw ex m mu H) (vw ex m mu' H)) : ∀ {ss : List S} {vs : List V} {ds : List D}, (∀ j ∈ handlesOf ss, ∀ mo, mu'[j]? ≠ some (some mo)) → Paired (RS K m (vw ex m mu H)) ss vs →
    meltL mu ss = some ds → Rs K (vw ex m mu' H) ds vs
  | [], vs, ds, hk, r, e => by
    cases r
    cases e
    exact Rs.nil
  | s :: ss, vs, ds, hk, r, e => by
    cases r with
    | cons r t =>
      obtain ⟨d, e1, e⟩ := Option.bind_eq_some_iff.mp e
      obtain ⟨ds2, e2, e3⟩ := Option.map_eq_some_iff.mp e
      subst e3
      refine Rs.cons (melt_one cf same (fun k es => ?_) e1 r) (melt_list cf same (fun j hj => ?_) t e2)
      · subst es
        exact hk k (List.mem_cons_self ..)
      · cases s with
        | d x => exact hk j hj
        | h i => exact hk j (List.mem_cons_of_mem _ hj)
theorem melt_ok {k : Nat} {ss : List S} {ds : List D} (cf : Cfg K ex m mu H) (e : mu[k]? = some (some (.lss ss))) (ed : meltL mu ss = some ds) (hk : k ∉ handlesOf ss) :
    Cfg K ex m ((killS (handlesOf ss) mu).set k (some (.lst ds))) H ∧ Ext ex m mu H m ((killS (handlesOf ss) mu).set k (some (.lst ds))) H := by
  have lk : k < mu.length := (List.getElem?_eq_some_iff.mp e).1
  have lk2 : k < (killS (handlesOf ss) mu).length := by
    rw [killS_len]
    exact lk
  have sub : ∀ (i : Nat) (mo : MO), ((killS (handlesOf ss) mu).set k (some (.lst ds)))[i]? = some (some mo) → ∃ mo0, mu[i]? = some (some mo0) := by
    intro i mo h
    by_cases hi : k = i
    · subst hi
      exact ⟨_, e⟩
    · rw [List.getElem?_set_ne hi] at h
      exact ⟨mo, (killS_sub h).1⟩
  have same : Same (vw ex m mu H) (vw ex m ((killS (handlesOf ss) mu).set k (some (.lst ds))) H) := fun b o h => by
    obtain ⟨h1, h2, h3⟩ := vw_some.mp h
    refine vw_some.mpr ⟨h1, fun z => h2 ?_, h3⟩
    obtain ⟨i, mo, e1, e2⟩ := z
    obtain ⟨mo0, e3⟩ := sub i mo e2
    exact ⟨i, mo0, e1, e3⟩
  have gone : ∀ j ∈ handlesOf ss, ∀ mo, ((killS (handlesOf ss) mu).set k (some (.lst ds)))[j]? ≠ some (some mo) := by
    intro j hj mo h
    have hne : k ≠ j := fun z => hk (z ▸ hj)
    rw [List.getElem?_set_ne hne] at h
    exact (killS_sub h).2 hj
  refine ⟨⟨by rw [List.length_set, killS_len]; exact cf.len, cf.nd, cf.tr, cf.exH, cf.exd, fun i mo h => ?_⟩, ⟨⟨[], by simp⟩, same, fun _ _ => rfl⟩⟩
  by_cases hi : k = i
  · subst hi
    rw [List.getElem?_set_self lk2] at h
    cases h
    obtain ⟨a, o, g1, g2, vs, rfl, g3⟩ := cf.st _ _ e
    exact ⟨a, .lst vs, g1, g2, vs, rfl, melt_list cf same gone g3 ed⟩
  · rw [List.getElem?_set_ne hi] at h
    obtain ⟨a, o, g1, g2, g3⟩ := cf.st i mo (killS_sub h).1
    exact ⟨a, o, g1, g2, g3.same same⟩
end
section
variable {X : Cx} {sts : List Stmt} {g : WS}
/-- ahead of these rows the list in slot i, and the things in it, are let go: a list of data from now on -/
def wMelt (i : Nat) (g : WS) : WS := fun E sl mu => ∃ k ss ds, sl[i]? = some (some (.h k)) ∧ mu[k]? = some (some (.lss ss)) ∧ k ∉ handlesOf ss ∧ meltL mu ss = some ds ∧ g E sl ((killS (handlesOf ss) mu).set k (some (.lst ds)))
theorem rss_melt {i : Nat} (h : RSts X sts g) : RSts X sts (wMelt i g) := pss_imp h fun E σ H q => by
  obtain ⟨ex, m, sl, mu, Ed, cf, sr, ⟨k, ss, ds, e1, e2, e3, e4, w⟩, kk, kr⟩ := q
  obtain ⟨c2, x2⟩ := melt_ok cf e2 e4 e3
  exact ⟨ex, m, sl, _, Ed, c2, sr.ext x2, w, fun sl' σ' mu' m' H' cf' e' sr' => kk _ _ _ _ _ cf' (x2.trans e') sr', fun s mu' m' H' v cf' e' r' q' => kr _ _ _ _ _ cf' (x2.trans e') r' q'⟩
end

/-! ### comprehensions whose list changes later -/
theorem vw_adopt {L : Addr} {ex m : List Addr} {mu : Mu} {H : Hp} {mo : MO} (hl : m.length = mu.length) : vw (L :: ex) m mu H = vw ex (m ++ [L]) (mu ++ [some mo]) H := by
  funext q
  have e : (q ∈ L :: ex ∨ Lv m mu q) ↔ (q ∈ ex ∨ Lv (m ++ [L]) (mu ++ [some mo]) q) := by
    have lv : Lv (m ++ [L]) (mu ++ [some mo]) q ↔ (Lv m mu q ∨ q = L) := by
      constructor
      · rintro ⟨k, u, h1, h2⟩
        by_cases hk : k < mu.length
        · rw [List.getElem?_append_left (by omega)] at h1
          rw [List.getElem?_append_left hk] at h2
          exact .inl ⟨k, u, h1, h2⟩
        · have := (List.getElem?_eq_some_iff.mp h2).1
          rw [List.length_append, List.length_singleton] at this
          have ek : k = m.length := by omega
          subst ek
          rw [List.getElem?_append_right (Nat.le_refl _)] at h1
          simp at h1
          exact .inr h1.symm
      · rintro (⟨k, u, h1, h2⟩ | z)
        · have hk := (List.getElem?_eq_some_iff.mp h2).1
          exact ⟨k, u, by rw [List.getElem?_append_left (by omega)]; exact h1, by rw [List.getElem?_append_left hk]; exact h2⟩
        · refine ⟨m.length, mo, by rw [z]; simp, by rw [hl]; simp⟩
    rw [lv, List.mem_cons]
    constructor
    · rintro ((z | z) | z)
      · exact .inr (.inr z)
      · exact .inl z
      · exact .inr (.inl z)
    · rintro (z | z | z)
      · exact .inl (.inr z)
      · exact .inr z
      · exact .inl (.inl z)
  unfold vw
  by_cases c : q ∈ L :: ex ∨ Lv m mu q
  · rw [if_pos c, if_pos (e.mp c)]
  · rw [if_neg c, if_neg fun z => c (e.mpr z)]
theorem Cfg.adopt {K : Frag} {L : Addr} {ex m : List Addr} {mu : Mu} {H : Hp} {mo : MO} {o : HO} (cf : Cfg K (L :: ex) m mu H) (nL : L ∉ ex) (h : H L = some o) (r : RM K (m ++ [L]) (vw (L :: ex) m mu H) mo o) :
    Cfg K ex (m ++ [L]) (mu ++ [some mo]) H := by
  have nm : L ∉ m := cf.exd L (List.mem_cons_self ..)
  refine ⟨by rw [List.length_append, List.length_append, cf.len]; rfl, ?_, fun a ha => ?_, fun a ha => cf.exH a (List.mem_cons_of_mem _ ha), fun a ha z => ?_, fun k u e => ?_⟩
  · rw [List.nodup_append]
    refine ⟨cf.nd, by simp, fun a ha b hb z => ?_⟩
    rw [List.mem_singleton] at hb
    subst hb
    subst z
    exact nm ha
  · rcases List.mem_append.mp ha with z | z
    · exact cf.tr a z
    · rw [List.mem_singleton] at z
      rw [z]
      exact ⟨o, h⟩
  · rcases List.mem_append.mp z with y | y
    · exact cf.exd a (List.mem_cons_of_mem _ ha) y
    · rw [List.mem_singleton] at y
      exact nL (y ▸ ha)
  · rw [← vw_adopt (mo := mo) cf.len]
    by_cases hk : k < mu.length
    · rw [List.getElem?_append_left hk] at e
      obtain ⟨a, v, h1, h2, h3⟩ := cf.st k u e
      exact ⟨a, v, by rw [List.getElem?_append_left (by rw [cf.len]; exact hk)]; exact h1, h2, h3.mono (Same.refl _)⟩
    · have := (List.getElem?_eq_some_iff.mp e).1
      rw [List.length_append, List.length_singleton] at this
      have ek : k = mu.length := by omega
      subst ek
      simp at e
      subst e
      exact ⟨L, o, by rw [← cf.len]; simp, h, r⟩
/-- what the list of a comprehension becomes -/
def mkLss : List S → Option MO := fun ss => some (.lss ss)
def mkLst : List S → Option MO := fun ss => (allD ss).map MO.lst
def MkOk (mk : List S → Option MO) : Prop := ∀ (K : Frag) (m : List Addr) (H : Hp) (ss : List S) (mo : MO) (vs : List V), mk ss = some mo → RSs K m H ss vs → RM K m H mo (.lst vs)
theorem mkLss_ok : MkOk mkLss := fun K m H ss mo vs e r => by
  cases e
  exact ⟨vs, rfl, r⟩
theorem mkLst_ok : MkOk mkLst := fun K m H ss mo vs e r => by
  obtain ⟨ds, e1, rfl⟩ := Option.map_eq_some_iff.mp e
  exact ⟨vs, rfl, allD_ok r e1⟩
def wCompMD (mk : List S → Option MO) (g : WG) (tt : WT) (te : WE) (sl0 : Sl) (Q : S → Mu → Prop) : List D → List S → Mu → Prop
  | [], acc, mu => On (mk acc) fun mo => Q (.h mu.length) (mu ++ [some mo])
  | d :: ds, acc, mu => On (g d sl0) fun sl1 => tt sl1 mu fun b mu1 => if b = true then te sl1 mu1 fun s mu2 => acc.length < sizeLine ∧ wCompMD mk g tt te sl0 Q ds (acc ++ [s]) mu2
    else wCompMD mk g tt te sl0 Q ds acc mu1
def wCompM (mk : List S → Option MO) (fi : WI) (g : WG) (tt : WT) (te : WE) (vs : List Nat) : WE := fun sl mu Q => fi sl mu fun ds mu1 => wCompMD mk g tt te (wipeD sl vs) Q ds [] mu1
theorem paired_snoc {α β : Type} {r : α → β → Prop} {x : α} {y : β} : ∀ {xs : List α} {ys : List β}, Paired r xs ys → r x y → Paired r (xs ++ [x]) (ys ++ [y]) := by
  intro xs ys h
  induction h with
  | nil => intro q; exact .cons q .nil
  | cons q t ih => intro z; exact .cons q (ih z)
theorem RSs.ext {K : Frag} {ex m m' : List Addr} {mu mu' : Mu} {H H' : Hp} (e : Ext ex m mu H m' mu' H') {ss : List S} {vs : List V} (h : RSs K m (vw ex m mu H) ss vs) : RSs K m' (vw ex m' mu' H') ss vs :=
  Paired.mapP h fun _ _ z => z.ext e
theorem compM_red {K : Frag} {mk : List S → Option MO} (hmk : MkOk mk) {fi : WI} {g : WG} {tt : WT} {te : WE} {vs : List Nat} {σ : L2.St} {H : Hp} {Q : VK} (q : tE K (wCompM mk fi g tt te vs) σ H Q) : tLc (tI K fi) (tG K vs g) (tT K tt) (tE K te) vs σ H Q := by
  obtain ⟨ex, m, sl, mu, Qd, cf, sr, w, k⟩ := q
  refine ⟨ex, m, sl, mu, _, cf, sr, w, fun ds mu1 m1 H1 J cf1 e1 wk q1 => ?_⟩
  intro L hL
  have nL : L ∉ ex := fun z => by
    obtain ⟨o, e⟩ := cf1.exH L z
    rw [hL] at e
    cases e
  let P : Nat → Hp → Prop := fun i H2 => ∃ m2 mu2 acc vacc, Cfg K (L :: ex) m2 mu2 H2 ∧ Le ex m1 mu1 H1 (L :: ex) m2 mu2 H2 ∧ (∀ a ∈ ex, H2 a = H1 a) ∧ H2 L = some (.lst vacc) ∧ RSs K m2 (vw (L :: ex) m2 mu2 H2) acc vacc ∧ wCompMD mk g tt te (wipeD sl vs) Qd (ds.drop i) acc mu2
  refine ⟨fun i j H2 => j = ds.length - i ∧ i ≤ ds.length ∧ P i H2, ⟨ds.length, by simp, Nat.zero_le _, m1, mu1, [], [], cf1.hide hL, ⟨⟨[], by simp⟩, ?_⟩, fun a ha => ?_, upd_same, .nil, by simpa using q1⟩, ?_⟩
  · rw [vw_hide hL]
    exact Same.refl _
  · have na : a ≠ L := fun z => nL (z ▸ ha)
    rw [upd_ne na]
  rintro i j H2 ⟨rfl, hi2, m2, mu2, acc, vacc, cf2, e2, ek2, eL, ra, w2⟩
  by_cases hlt : i < ds.length
  · refine .inr ⟨wk.go i _ m2 mu2 H2 hlt cf2 e2, P (i + 1), fun H5 z => ⟨ds.length - (i + 1), by omega, rfl, hlt, z⟩, fun x H3 y => ?_⟩
    obtain ⟨d, ed, gr, r⟩ := wk.yld i _ m2 mu2 H2 x H3 hlt cf2 e2 y
    have edr : ds.drop i = d :: ds.drop (i + 1) := by
      rw [List.drop_eq_getElem_cons hlt]
      rw [List.getElem?_eq_getElem hlt] at ed
      cases ed
      rfl
    rw [edr] at w2
    obtain ⟨sl3, eg, w3⟩ := On.elim w2
    have sr3 : SlR K m2 (vw (L :: ex) m2 mu2 H3) sl σ := (sr.ext e1).le (e2.trans gr.2.le)
    refine ⟨L :: ex, m2, wipeD sl vs, mu2, d, sl3, gr.1, sr3.wipe vs, r, eg, fun σ4 sr4 ag => ⟨?_, ?_⟩⟩
    · refine (wipe_eq (σ := L2.wipe σ vs) ag.1 ag.2).trans ?_
      exact wipe_eq (by rw [wipe_length]) fun i hi => wipe_out hi
    refine ⟨L :: ex, m2, sl3, mu2, _, gr.1, sr4, w3, fun b mu5 m5 H5 cf5 e5 q5 => ?_⟩
    have ek5 : ∀ a ∈ ex, H5 a = H1 a := fun a ha => by
      rw [e5.exk a (List.mem_cons_of_mem _ ha), gr.2.exk a (List.mem_cons_of_mem _ ha), ek2 a ha]
    have eL5 : H5 L = some (.lst vacc) := by rw [e5.exk L (List.mem_cons_self ..), gr.2.exk L (List.mem_cons_self ..), eL]
    have le5 := (e2.trans gr.2.le).trans e5.le
    cases b with
    | false =>
      rw [if_neg Bool.false_ne_true] at q5
      show P (i + 1) H5
      exact ⟨m5, mu5, acc, vacc, cf5, le5, ek5, eL5, ra.ext (gr.2.trans e5), q5⟩
    | true =>
      rw [if_pos rfl] at q5
      refine iteT ?_
      refine ⟨L :: ex, m5, sl3, mu5, _, cf5, sr4.ext e5, q5, fun s mu6 m6 H6 v6 cf6 e6 r6 q6 => ?_⟩
      obtain ⟨hz, q6⟩ := q6
      have ra6 := ra.ext ((gr.2.trans e5).trans e6)
      refine ⟨vacc, by rw [e6.exk L (List.mem_cons_self ..), eL5], by rw [← Paired.length ra]; exact hz, m6, mu6, acc ++ [s], vacc ++ [v6], cf6.put (List.mem_cons_self ..), ⟨(le5.trans e6.le).pre, ?_⟩, fun a ha => ?_, upd_same, ?_, q6⟩
      · rw [vw_put (List.mem_cons_self ..)]
        exact (le5.trans e6.le).same
      · have na : a ≠ L := fun z => nL (z ▸ ha)
        rw [upd_ne na, e6.exk a (List.mem_cons_of_mem _ ha), ek5 a ha]
      · rw [vw_put (List.mem_cons_self ..)]
        exact paired_snoc ra6 r6
  · have ei : i = ds.length := by omega
    subst ei
    rw [List.drop_length] at w2
    obtain ⟨mo, emo, w2⟩ := On.elim w2
    have rr : RM K (m2 ++ [L]) (vw (L :: ex) m2 mu2 H2) mo (.lst vacc) := hmk _ _ _ _ _ _ emo (Paired.mapP ra fun _ _ z => RS.mono (Same.refl _) z)
    obtain ⟨l, el⟩ := e2.pre
    have e2' : Ext ex m1 mu1 H1 (m2 ++ [L]) (mu2 ++ [some mo]) H2 := ⟨⟨l ++ [L], by rw [el, List.append_assoc]⟩, by rw [← vw_adopt (mo := mo) cf2.len]; exact e2.same, ek2⟩
    exact .inl ⟨wk.stop _ m2 mu2 H2 cf2 e2, k (.h mu2.length) _ _ H2 (.ref L) (cf2.adopt nL eL rr) (e1.trans e2') ⟨L, by rw [← cf2.len]; simp, rfl⟩ w2⟩
section
variable {X : Cx} {pos : Pos} {elt tg iter : Expr} {ifs : List Expr} {scope : Scope} {own : List (Str × Nat)} {fi : WI} {g : WG} {tt : WT} {te : WE} {mk : List S → Option MO}
theorem re_compM (hmk : MkOk mk) (hc : X.calm = true) (hN : X.N.Nodup) (hi : RI X tg iter fi) (ok : BlkOk X.N X.env.scope scope own)
    (hg : ∀ (s : Shared) (H : Hp) (C : Addr) (cl : List (Str × Addr)) (fp : List Addr), RG (X.blk s H scope (compEnvC scope cl C X.env) fp) tg (own.map (·.2)) g)
    (ht : ∀ (s : Shared) (H : Hp) (C : Addr) (cl : List (Str × Addr)) (fp : List Addr), RTs (X.blk s H scope (compEnvC scope cl C X.env) fp) ifs tt)
    (he : ∀ (s : Shared) (H : Hp) (C : Addr) (cl : List (Str × Addr)) (fp : List Addr), RE (X.blk s H scope (compEnvC scope cl C X.env) fp) elt te)
    (hs : ∀ x, foldedSetIterable iter X.env x = pure x := by intro _; rfl) : RE X (.ListComp elt [⟨tg, iter, ifs, 0⟩] scope pos) (wCompM mk fi g tt te (own.map (·.2))) :=
  pe_imp (pe_lc (g := tG X.K (own.map fun (p : Str × Nat) => p.2) g) (tt := tT X.K tt) (te := tE X.K te) hc hN hi ok hg ht he hs) fun _ _ _ q => compM_red hmk q
end

/-! ### an item of a list of things that change -/
theorem paired_get {α β : Type} {r : α → β → Prop} {i : Nat} {x : α} : ∀ {xs : List α} {ys : List β}, Paired r xs ys → xs[i]? = some x → ∃ y, ys[i]? = some y ∧ r x y := by
  intro xs ys h
  induction h generalizing i with
  | nil =>
    intro e
    simp at e
  | cons q t ih =>
    intro e
    cases i with
    | zero =>
      simp at e
      subst e
      exact ⟨_, rfl, q⟩
    | succ i =>
      obtain ⟨y, e1, e2⟩ := ih (by simpa using e)
      exact ⟨y, by simpa using e1, e2⟩
section
variable {X : Cx} {pos : Pos} {a b : Expr} {fa fb : WE}
def lssOf (s : S) (mu : Mu) : Option (List S) := match s with
  | .h k => match mu[k]? with
    | some (some (.lss ss)) => some ss
    | _ => none
  | _ => none
theorem lss_ok {K : Frag} {ex m : List Addr} {mu : Mu} {H : Hp} {s : S} {ss : List S} {v : V} (cf : Cfg K ex m mu H) (e : lssOf s mu = some ss) (r : RS K m (vw ex m mu H) s v) : ∃ a vs, v = .ref a ∧ H a = some (.lst vs) ∧ RSs K m (vw ex m mu H) ss vs := by
  unfold lssOf at e
  split at e
  · split at e
    · rename_i em
      cases e
      obtain ⟨a, h1, h2⟩ := r
      obtain ⟨b, o, g1, g2, vs, rfl, g3⟩ := cf.st _ _ em
      rw [h1] at g1
      cases g1
      exact ⟨a, vs, h2, g2, g3⟩
    · cases e
  · cases e
def wIxS (fa fb : WE) : WE := fun sl mu Q => fa sl mu fun s1 mu1 => fb sl mu1 fun s2 mu2 => match s2 with
  | .d (.int i) => On (lssOf s1 mu2) fun ss => On (atI ss i) fun s => Q s mu2
  | _ => False
theorem re_ixS (ha : RE X a fa) (hb : RE X b fb) (hs : PlainIx b) : RE X (.Subscript a b pos) (wIxS fa fb) := by
  refine pe_imp (pe_ix ix_list ha hb hs) fun σ H Q q => ?_
  obtain ⟨ex, m, sl, mu, Qd, cf, sr, w, k⟩ := q
  refine seq2 cf sr w fun s1 s2 mu' m' H' v1 v2 cf' e' r1 r2 q => ?_
  split at q
  · obtain ⟨ss, e1, q⟩ := On.elim q
    obtain ⟨s, e2, q⟩ := On.elim q
    obtain ⟨p, vs, rfl, h, g⟩ := lss_ok cf' e1 r1
    unfold atI at e2
    obtain ⟨j, ej, e3⟩ := Option.bind_eq_some_iff.mp e2
    obtain ⟨u, eu, ru⟩ := paired_get g e3
    refine ⟨p, vs, _, u, rfl, rs_int r2, SqL.of h, ?_, k s _ _ _ _ cf' e' ru q⟩
    unfold atI
    rw [← Paired.length g, ej]
    exact eu
  · exact q.elim
/-! len of such a list, too -/
def dLenS : GN := fun ss mu => match ss with
  | [s] => match lssOf s mu with
    | some xs => some (.int (xs.length : Nat))
    | none => dLen ss mu
  | _ => none
theorem cr_lenS : CallR X (.builtin "len") (rND X.K dLenS) := by
  refine callr_imp (CallR.or call_len_seq cr_len) fun xs H Q q => ?_
  obtain ⟨ex, m, mu, ss, d, cf, rs, e, k⟩ := q
  unfold dLenS at e
  split at e
  · rename_i s
    split at e
    · rename_i zs el
      cases e
      obtain ⟨x, rfl, r⟩ := rss1 rs
      obtain ⟨a, vs, rfl, h, g⟩ := lss_ok cf el r
      refine .inl ⟨a, vs, rfl, .inl (SqL.of h), ?_⟩
      rw [← Paired.length g]
      exact k _ _ (grown_refl cf) (r_int _)
    · exact .inr ⟨ex, m, mu, _, d, cf, rs, e, k⟩
  · cases e
/-! min of two numbers -/
def dMin2 : GN := fun ss _ => match ss with
  | [.d (.int i), .d (.int j)] => some (.int (if j < i then j else i))
  | _ => none
theorem cr_min2 (hc : X.calm = true) : CallR X (.builtin "min") (rND X.K dMin2) := by
  refine callr_imp (call_min2 hc) fun xs H Q q => ?_
  obtain ⟨ex, m, mu, ss, d, cf, rs, e, k⟩ := q
  unfold dMin2 at e
  split at e
  · cases e
    obtain ⟨x, y, rfl, r1, r2⟩ := rss2 rs
    exact ⟨_, _, by rw [rs_int r1, rs_int r2], k _ _ (grown_refl cf) (r_int _)⟩
  · cases e
/-! list.extend -/
def gExtend : GM := fun ds ss => match ss with
  | [.d (.lst es)] => if ds.length + es.length ≤ sizeLine then some (.non, ds ++ es) else none
  | _ => none
theorem mt_gExtend : MtR X "list.extend" (rMut X.K gExtend) := by
  refine mtr_imp mt_extend fun x xs H Q q => ?_
  obtain ⟨ex, m, mu, k, ds, ss, d, ds', cf, r, em, rs, eg, kk⟩ := q
  obtain ⟨a, vs, rfl, ha, hh, g⟩ := hnd_l cf em r
  unfold gExtend at eg
  split at eg
  · split at eg
    · rename_i es hz
      cases eg
      obtain ⟨u, rfl, ru⟩ := rss1 rs
      simp only [RS, R] at ru
      obtain ⟨b, us, rfl, hb, gu⟩ := ru
      refine ⟨a, b, vs, us, rfl, rfl, hh, vw_sub _ _ hb, by rw [← g.length, ← gu.length]; exact hz, ?_⟩
      obtain ⟨c3, e3⟩ := cf.chg (mo' := .lst (ds ++ es)) (o := .lst (vs ++ us)) ha em ⟨_, rfl, g.append gu⟩
      exact kk _ _ c3 e3 r_non
    · cases eg
  · cases eg
end
section
variable {X : Cx} {pos apos : Pos} {o e : Expr} {fo fe : WE} {fs : WA} {x : Str} {p : Pos}
theorem re_extend (ho : RE X o fo) (ha : RA X [e] fs) (hbase : attributeBase o "extend" X.env (eval o X.env) = eval o X.env := by rfl)
    (hfew : ((backTo pos (starEach (e :: []) X.env)).all (fun x => !x.1) && (backToKw pos (keywordEach [] X.env)).all (fun x => x.1.isSome)
      && decide ((e :: []).length + ([] : List Keyword).length + (if ([] : List Keyword).isEmpty then 0 else 1) < 30)) = true := by rfl)
    (hline : (apos.endLine == pos.line) = true := by rfl) (hs : starEach [e] X.env = (false, eval e X.env) :: starEach [] X.env := by rfl) :
    RE X (.Call (.Attribute o "extend" apos) [e] [] pos) (wMut gExtend fo fs) :=
  pe_imp (pe_bm PySem.F.plainAttrs_list PySem.F.slot_list_extend PySem.F.type_list_extend mt_gExtend ho ha hbase hfew hline hs rfl) fun _ _ _ q => mut_red q
/-! sorted of whole numbers: any ascending list of them -/
def wSortI (fs : WA) : WE := fun sl mu Q => fs sl mu fun ss mu1 => match ss with
  | [s] => On ((rdL s mu1).bind asInts) fun ns => ns.length < 64 ∧ ∀ ns' : List Int, ns'.Perm ns → ns'.Pairwise (· ≤ ·) → Q (.d (.lst (ns'.map D.int))) mu1
  | _ => False
theorem re_sortI (hg : Gl X x) (hm : X.mg x = none) (hv : bootBuiltins x = some (.builtin "sorted")) (ha : RA X [e] fs) (hn : x ≠ "__name__" := by decide) (hdb : (x == ("__debug__" : Str)) = false := by decide)
    (he : starEach [e] X.env = (false, eval e X.env) :: starEach [] X.env := by rfl) : RE X (.Call (.Name x p) [e] [] pos) (wSortI fs) := by
  refine pe_imp (pe_callB cr_sorted hg hm hv ha hn hdb he rfl) fun σ H Q q => ?_
  obtain ⟨ex, m, sl, mu, Qd, cf, sr, w, k⟩ := q
  refine ⟨ex, m, sl, mu, _, cf, sr, w, fun ss mu1 m1 H1 vs cf1 e1 rs q1 => ?_⟩
  split at q1
  · obtain ⟨ns, en, hl, q1⟩ := On.elim q1
    obtain ⟨ds, ed, en⟩ := Option.bind_eq_some_iff.mp en
    obtain ⟨y, rfl, r⟩ := rss1 rs
    obtain ⟨a, us, rfl, h, g⟩ := rdL_ok cf1 r ed
    obtain rfl := asInts_ok g en
    refine ⟨a, ns, rfl, SqL.of h, hl, fun ns' q p1 p2 hq => ?_⟩
    have gr := grown cf1 hq (o := .lst (ns'.map V.int))
    exact k (.d (.lst (ns'.map D.int))) _ _ _ _ gr.1 (e1.trans gr.2) (new_lst cf1 hq (rs_ints _)) (q1 ns' p1 p2)
  · exact q1.elim
/-! list(range(n)) -/
def wListRg (fe : WE) : WE := fun sl mu Q => fe sl mu fun s mu1 => match s with
  | .d (.int n) => (0 ≤ n ∧ n ≤ 16777216) ∧ Q (.d (.lst (rangeD 0 n))) mu1
  | _ => False
theorem re_listRg {p2 pos2 : Pos} (hc : X.calm = true) (hg : Gl X "list") (hm : X.mg "list" = none) (hg2 : Gl X "range") (hm2 : X.mg "range" = none) (he : RE X e fe)
    (na : starEach [e] X.env = (false, eval e X.env) :: starEach [] X.env := by rfl) (na2 : starEach [.Call (.Name "range" p2) [e] [] pos2] X.env = (false, eval (.Call (.Name "range" p2) [e] [] pos2) X.env) :: starEach [] X.env := by rfl) :
    RE X (.Call (.Name "list" p) [.Call (.Name "range" p2) [e] [] pos2] [] pos) (wListRg fe) := by
  refine pe_imp (pe_listRg hc hg hm (prg_1 hg2 hm2 he na) na2) fun σ H Q q => ?_
  obtain ⟨ex, m, sl, mu, Qd, cf, sr, w, k⟩ := q
  refine ⟨ex, m, sl, mu, _, cf, sr, w, fun s mu1 m1 H1 v cf1 e1 r1 q1 => ?_⟩
  split at q1
  · rename_i n
    obtain ⟨⟨h0, h1⟩, q1⟩ := q1
    refine ⟨n, rs_int r1, RgOk.of_le (Int.le_refl _) h1 (by omega) h0, fun a ha => ?_⟩
    have gr := grown cf1 ha (o := .lst (rgV 0 n))
    refine k (.d (.lst (rangeD 0 n))) _ _ _ _ gr.1 (e1.trans gr.2) (new_lst cf1 ha ?_) q1
    unfold rangeD rgV
    have : ∀ l : List Nat, Rs X.K (vw ex m1 mu1 H1) (l.map fun (i : Nat) => D.int (0 + i)) (l.map fun (i : Nat) => V.int (0 + i)) := by
      intro l
      induction l with
      | nil => exact Rs.nil
      | cons i l ih => exact Rs.cons (r_int _) ih
    exact this _
  · exact q1.elim
end
end DL
set_option Elab.async false
set_option linter.all false
set_option maxRecDepth 100000
set_option maxHeartbeats 1000000
/-! DP2: how the readings of DP are worked out -/
namespace DL
open PySem PySem.Spec L2
section
variable {E : DEnds} {sl : Sl} {mu : Mu} {f fa fb fc : WE} {g h : WS} {t : WT} {Q : S → Mu → Prop} {fs : WA}
theorem e_compM {mk : List S → Option MO} {fi : WI} {o : WG} {vs : List Nat} (q : fi sl mu fun ds mu1 => wCompMD mk o t f (wipeD sl vs) Q ds [] mu1) : wCompM mk fi o t f vs sl mu Q := q
theorem e_ixS (q : fa sl mu fun s1 mu1 => fb sl mu1 fun s2 mu2 => AsI s2 fun i => On (lssOf s1 mu2) fun ss => On (atI ss i) fun s => Q s mu2) : wIxS fa fb sl mu Q := q
theorem e_melt {i k : Nat} {ss : List S} {ds : List D} (e1 : sl[i]? = some (some (.h k))) (e2 : mu[k]? = some (some (.lss ss))) (e3 : k ∉ handlesOf ss) (e4 : meltL mu ss = some ds)
    (q : g E sl ((killS (handlesOf ss) mu).set k (some (.lst ds)))) : wMelt i g E sl mu := ⟨k, ss, ds, e1, e2, e3, e4, q⟩
theorem e_sortI (q : fs sl mu fun ss mu1 => As1 ss fun s => On ((rdL s mu1).bind asInts) fun ns => ns.length < 64 ∧ ∀ ns' : List Int, ns'.Perm ns → ns'.Pairwise (· ≤ ·) → Q (.d (.lst (ns'.map D.int))) mu1) : wSortI fs sl mu Q := q
theorem e_listRg (q : fa sl mu fun s mu1 => AsI s fun n => (0 ≤ n ∧ n ≤ 16777216) ∧ Q (.d (.lst (rangeD 0 n))) mu1) : wListRg fa sl mu Q := q
end
theorem allD_map : ∀ ds : List D, allD (ds.map S.d) = some ds
  | [] => rfl
  | d :: ds => by
    show (allD (ds.map S.d)).map (d :: ·) = _
    rw [allD_map ds]
    rfl
theorem compM_inv {mk : List S → Option MO} {g : WG} {tt : WT} {te : WE} {sl0 : Sl} {Q : S → Mu → Prop} (J : Nat → List S → Mu → Prop) : ∀ (ds : List D) (acc : List S) (n : Nat) (mu : Mu), J n acc mu →
    (∀ (i : Nat) (d : D) (acc : List S) (mu : Mu), ds[i]? = some d → J (n + i) acc mu → ∀ C : List S → Mu → Prop, (∀ acc mu, J (n + i + 1) acc mu → C acc mu) →
      On (g d sl0) fun sl1 => tt sl1 mu fun b mu1 => if b = true then te sl1 mu1 fun s mu2 => acc.length < sizeLine ∧ C (acc ++ [s]) mu2 else C acc mu1) →
    (∀ acc mu, J (n + ds.length) acc mu → On (mk acc) fun mo => Q (.h mu.length) (mu ++ [some mo])) → wCompMD mk g tt te sl0 Q ds acc mu
  | [], acc, n, mu, j, _, fin => fin acc mu j
  | d :: ds, acc, n, mu, j, step, fin => by
    unfold wCompMD
    refine step 0 d acc mu rfl j (wCompMD mk g tt te sl0 Q ds) fun acc mu j2 => ?_
    refine compM_inv J ds acc (n + 1) mu j2 (fun i x acc mu e k C hC => ?_) (fun acc mu k => fin acc mu ?_)
    · refine step (i + 1) x acc mu e (by rw [show n + (i + 1) = n + 1 + i by omega]; exact k) C fun acc mu k => hC acc mu ?_
      rw [show n + (i + 1) = n + 1 + i by omega] at k
      exact k
    · rw [List.length_cons, show n + (ds.length + 1) = n + 1 + ds.length by omega]
      exact k
theorem compM_map {α : Type} {mk : List S → Option MO} {md : α → D} {g : WG} {tt : WT} {te : WE} {sl0 : Sl} {Q : S → Mu → Prop} {mu : Mu} (t : α → Bool) (h : α → D) (f : α → Sl) : ∀ (xs : List α) (acc : List S), (∀ x ∈ xs, g (md x) sl0 = some (f x)) →
    (∀ x ∈ xs, ∀ P : Bool → Mu → Prop, P (t x) mu → tt (f x) mu P) → (∀ x ∈ xs, t x = true → ∀ P : S → Mu → Prop, P (.d (h x)) mu → te (f x) mu P) → acc.length + xs.length ≤ sizeLine →
    (On (mk (acc ++ (xs.filter t).map fun x => S.d (h x))) fun mo => Q (.h mu.length) (mu ++ [some mo])) → wCompMD mk g tt te sl0 Q (xs.map md) acc mu
  | [], acc, _, _, _, _, q => by
    show On (mk acc) _
    simpa using q
  | x :: xs, acc, hg, ht, he, hl, q => by
    rw [List.map_cons]
    unfold wCompMD
    rw [List.length_cons] at hl
    refine pw_on (hg x (List.mem_cons_self ..)) (ht x (List.mem_cons_self ..) _ ?_)
    cases ed : t x with
    | true =>
      rw [if_pos rfl]
      refine he x (List.mem_cons_self ..) ed _ ⟨by omega, ?_⟩
      refine compM_map t h f xs _ (fun y hy => hg y (List.mem_cons_of_mem _ hy)) (fun y hy => ht y (List.mem_cons_of_mem _ hy)) (fun y hy => he y (List.mem_cons_of_mem _ hy)) (by rw [List.length_append]; simp; omega) ?_
      rw [List.filter_cons, if_pos ed] at q
      simpa using q
    | false =>
      rw [if_neg (by decide)]
      refine compM_map t h f xs _ (fun y hy => hg y (List.mem_cons_of_mem _ hy)) (fun y hy => ht y (List.mem_cons_of_mem _ hy)) (fun y hy => he y (List.mem_cons_of_mem _ hy)) (by omega) ?_
      rw [List.filter_cons, if_neg (by rw [ed]; decide)] at q
      exact q
/-! things of which a list is let go, on top of a store -/
theorem killS_app : ∀ (js : List Nat) (mu0 more : Mu), (∀ j ∈ js, mu0.length ≤ j) → ∃ more', killS js (mu0 ++ more) = mu0 ++ more' ∧ more'.length = more.length
  | [], mu0, more, _ => ⟨more, rfl, rfl⟩
  | j :: js, mu0, more, h => by
    obtain ⟨m2, e1, e2⟩ := killS_app js mu0 (more.set (j - mu0.length) none) fun i hi => h i (List.mem_cons_of_mem _ hi)
    refine ⟨m2, ?_, by rw [e2, List.length_set]⟩
    unfold killS
    rw [List.set_append_right _ _ (h j (List.mem_cons_self ..))]
    exact e1
theorem set_last {α : Type} {xs : List α} {n : Nat} (h : xs.length = n + 1) (y : α) : xs.set n y = xs.take n ++ [y] := by
  rw [List.set_eq_take_append_cons_drop, if_pos (by omega), List.drop_eq_nil_of_le (by omega)]
theorem lss_h {mu : Mu} {k : Nat} {ss : List S} (h : mu[k]? = some (some (.lss ss))) : lssOf (.h k) mu = some ss := by
  unfold lssOf
  simp only [h]
theorem len_lss {mu : Mu} {k : Nat} {ss : List S} (h : mu[k]? = some (some (.lss ss))) : dLenS [.h k] mu = some (.int (ss.length : Nat)) := by
  unfold dLenS
  simp only [lss_h h]
end DL
set_option Elab.async false
set_option linter.all false
set_option maxRecDepth 100000
set_option maxHeartbeats 1000000
/-! DQ: loops over lists that may change later; truth; list.remove; list(range(..)) that changes; tuple(range(..)) -/
namespace DL
open PySem PySem.Spec L2

/-! ### for, over a list as it is (it stands while the loop goes) -/
def wForDL (s : S) (all : List D) (g : WG) (b : WS) (E : DEnds) : List D → Sl → Mu → Prop
  | [], sl, mu => rdL s mu = some all ∧ E.nx sl mu
  | d :: ds, sl, mu => rdL s mu = some all ∧ On (g d sl) fun sl1 => b { nx := wForDL s all g b E ds, rt := E.rt, bk := E.nx, ct := wForDL s all g b E ds } sl1 mu
def wForL (f : WE) (g : WG) (b : WS) : WS := fun E sl mu => f sl mu fun s mu1 => On (rdL s mu1) fun ds => wForDL s ds g b E ds sl mu1
theorem forDL_pin {s : S} {all : List D} {g : WG} {b : WS} {E : DEnds} : ∀ {ds : List D} {sl : Sl} {mu : Mu}, wForDL s all g b E ds sl mu → rdL s mu = some all
  | [], _, _, h => h.1
  | _ :: _, _, _, h => h.1
section
variable {X : Cx} {pos : Pos} {tg iter : Expr} {f : WE} {g : WG} {vs : List Nat} {body : List Stmt} {b : WS}
theorem rs_forL (hp : PassesOwn (model X.prog X.w) X.A X.env X.xe) (hc : X.calm = true) (hi : RE X iter f) (hg : RG X tg vs g) (hb : RSts X body b)
    (hs : ∀ x, foldedSetIterable iter X.env x = pure x := by intro _; rfl) : RSt X (.For tg iter body [] pos) (wForL f g b) := by
  refine ps_imp (ps_for hp hc (pi_any hi) hg hb hs) fun E σ H q => ?_
  obtain ⟨ex, m, sl, mu, Ed, cf, sr, w, k, kr⟩ := q
  refine ⟨ex, m, sl, mu, _, cf, sr, w, fun s mu1 m1 H1 v cf1 e1 r1 q0 => ?_⟩
  obtain ⟨ds, ed0, q1⟩ := On.elim q0
  obtain ⟨a, us, rfl, hH1, g1⟩ := rdL_ok cf1 r1 ed0
  refine .inl ⟨a, us, rfl, SqL.of hH1, ?_⟩
  refine ⟨fun i j σ2 H2 => j = ds.length - i ∧ i ≤ ds.length ∧ ∃ m2 sl2 mu2, Cfg X.K ex m2 mu2 H2 ∧ Ext ex m1 mu1 H1 m2 mu2 H2 ∧ SlR X.K m2 (vw ex m2 mu2 H2) sl2 σ2 ∧ wForDL s ds g b Ed (ds.drop i) sl2 mu2,
    ⟨ds.length, by simp, Nat.zero_le _, m1, sl, mu1, cf1, Ext.refl, sr.ext e1, by simpa using q1⟩, ?_⟩
  rintro i j σ2 H2 ⟨rfl, hi2, m2, sl2, mu2, cf2, e2, sr2, w2⟩
  obtain ⟨a2, vs2, ea2, hH2, g2⟩ := rdL_ok cf2 (r1.ext e2) (forDL_pin w2)
  cases ea2
  have wk := walk_list (K := X.K) (a := a) (xs := vs2)
  by_cases hlt : i < ds.length
  · have hlt2 : i < vs2.length := by
      rw [← g2.length]
      exact hlt
    refine .inr ⟨wk.goes i H2 hlt2 (SqL.of hH2), fun σ5 H5 => ∃ m5 sl5 mu5, Cfg X.K ex m5 mu5 H5 ∧ Ext ex m1 mu1 H1 m5 mu5 H5 ∧ SlR X.K m5 (vw ex m5 mu5 H5) sl5 σ5 ∧ wForDL s ds g b Ed (ds.drop (i + 1)) sl5 mu5,
      fun σ5 H5 z => ⟨ds.length - (i + 1), by omega, rfl, hlt, z⟩, fun x H3 y => ?_⟩
    obtain ⟨eh, ex3⟩ := wk.yields i H2 x H3 hlt2 (SqL.of hH2) y
    subst eh
    obtain ⟨d, ed, r⟩ := g2.getV ex3
    have edr : ds.drop i = d :: ds.drop (i + 1) := by
      rw [List.drop_eq_getElem_cons hlt]
      rw [List.getElem?_eq_getElem hlt] at ed
      cases ed
      rfl
    rw [edr] at w2
    obtain ⟨sl3, eg, w3⟩ := On.elim w2.2
    refine ⟨ex, m2, sl2, mu2, d, sl3, cf2, sr2, r, eg, fun σ4 sr4 _ => ?_⟩
    refine ⟨ex, m2, sl3, mu2, _, cf2, sr4, w3, fun sl5 σ5 mu5 m5 H5 cf5 e5 sr5 => ⟨fun q5 => ⟨m5, sl5, mu5, cf5, e2.trans e5, sr5, q5⟩, fun q5 => (k _ _ _ _ _ cf5 (e1.trans (e2.trans e5)) sr5).1 q5, fun q5 => ⟨m5, sl5, mu5, cf5, e2.trans e5, sr5, q5⟩⟩, fun s mu5 m5 H5 v cf5 e5 r5 q5 => kr _ _ _ _ _ cf5 (e1.trans (e2.trans e5)) r5 q5⟩
  · have ei : i = ds.length := by omega
    subst ei
    rw [List.drop_length] at w2
    refine .inl ⟨?_, (k _ _ _ _ _ cf2 (e1.trans e2) sr2).1 w2.2⟩
    rw [g2.length]
    exact wk.stops H2 (SqL.of hH2)
end

/-! ### comprehensions over such a list -/
def wCompDL (s : S) (all : List D) (g : WG) (tt : WT) (te : WE) (sl0 : Sl) (Q : S → Mu → Prop) : List D → List D → Mu → Prop
  | [], acc, mu => rdL s mu = some all ∧ Q (.d (.lst acc)) mu
  | d :: ds, acc, mu => rdL s mu = some all ∧ On (g d sl0) fun sl1 => tt sl1 mu fun b mu1 => if b = true then te sl1 mu1 fun t mu2 => match t with
      | .d y => acc.length < sizeLine ∧ wCompDL s all g tt te sl0 Q ds (acc ++ [y]) mu2
      | .h _ => False
    else wCompDL s all g tt te sl0 Q ds acc mu1
def wCompL (f : WE) (g : WG) (tt : WT) (te : WE) (vs : List Nat) : WE := fun sl mu Q => f sl mu fun s mu1 => On (rdL s mu1) fun ds => wCompDL s ds g tt te (wipeD sl vs) Q ds [] mu1
theorem compDL_pin {s : S} {all : List D} {g : WG} {tt : WT} {te : WE} {sl0 : Sl} {Q : S → Mu → Prop} : ∀ {ds acc : List D} {mu : Mu}, wCompDL s all g tt te sl0 Q ds acc mu → rdL s mu = some all
  | [], _, _, h => h.1
  | _ :: _, _, _, h => h.1
theorem compL_red {K : Frag} {f : WE} {g : WG} {tt : WT} {te : WE} {vs : List Nat} {σ : L2.St} {H : Hp} {Q : VK} (q : tE K (wCompL f g tt te vs) σ H Q) : tLc (iAny (tE K f) K) (tG K vs g) (tT K tt) (tE K te) vs σ H Q := by
  obtain ⟨ex, m, sl, mu, Qd, cf, sr, w, k⟩ := q
  refine ⟨ex, m, sl, mu, _, cf, sr, w, fun s mu1 m1 H1 v cf1 e1 r1 q0 => ?_⟩
  obtain ⟨ds, ed0, q1⟩ := On.elim q0
  obtain ⟨a, us, rfl, hH1, g1⟩ := rdL_ok cf1 r1 ed0
  refine .inl ⟨a, us, rfl, SqL.of hH1, ?_⟩
  intro L hL
  have nL : L ∉ ex := fun z => by
    obtain ⟨o, e⟩ := cf1.exH L z
    rw [hL] at e
    cases e
  let P : Nat → Hp → Prop := fun i H2 => ∃ m2 mu2 acc vacc, Cfg K (L :: ex) m2 mu2 H2 ∧ Le ex m1 mu1 H1 (L :: ex) m2 mu2 H2 ∧ (∀ a ∈ ex, H2 a = H1 a) ∧ H2 L = some (.lst vacc) ∧ Rs K (vw (L :: ex) m2 mu2 H2) acc vacc ∧ wCompDL s ds g tt te (wipeD sl vs) Qd (ds.drop i) acc mu2
  refine ⟨fun i j H2 => j = ds.length - i ∧ i ≤ ds.length ∧ P i H2, ⟨ds.length, by simp, Nat.zero_le _, m1, mu1, [], [], cf1.hide hL, ⟨⟨[], by simp⟩, ?_⟩, fun a ha => ?_, upd_same, Rs.nil, by simpa using q1⟩, ?_⟩
  · rw [vw_hide hL]
    exact Same.refl _
  · have na : a ≠ L := fun z => nL (z ▸ ha)
    rw [upd_ne na]
  rintro i j H2 ⟨rfl, hi2, m2, mu2, acc, vacc, cf2, e2, ek2, eL, ra, w2⟩
  have r2 : RS K m2 (vw (L :: ex) m2 mu2 H2) s (.ref a) := by
    obtain ⟨l, el⟩ := e2.pre
    subst el
    exact RS.mono e2.same r1
  obtain ⟨a2, vs2, ea2, hH2, g2⟩ := rdL_ok cf2 r2 (compDL_pin w2)
  cases ea2
  have wk := walk_list (K := K) (a := a) (xs := vs2)
  by_cases hlt : i < ds.length
  · have hlt2 : i < vs2.length := by
      rw [← g2.length]
      exact hlt
    refine .inr ⟨wk.goes i H2 hlt2 (SqL.of hH2), P (i + 1), fun H5 z => ⟨ds.length - (i + 1), by omega, rfl, hlt, z⟩, fun x H3 y => ?_⟩
    obtain ⟨eh, ex3⟩ := wk.yields i H2 x H3 hlt2 (SqL.of hH2) y
    subst eh
    obtain ⟨d, ed, r⟩ := g2.getV ex3
    have edr : ds.drop i = d :: ds.drop (i + 1) := by
      rw [List.drop_eq_getElem_cons hlt]
      rw [List.getElem?_eq_getElem hlt] at ed
      cases ed
      rfl
    rw [edr] at w2
    obtain ⟨sl3, eg, w3⟩ := On.elim w2.2
    have sr3 : SlR K m2 (vw (L :: ex) m2 mu2 H3) sl σ := (sr.ext e1).le e2
    refine ⟨L :: ex, m2, wipeD sl vs, mu2, d, sl3, cf2, sr3.wipe vs, r, eg, fun σ4 sr4 ag => ⟨?_, ?_⟩⟩
    · refine (wipe_eq (σ := L2.wipe σ vs) ag.1 ag.2).trans ?_
      exact wipe_eq (by rw [wipe_length]) fun i hi => wipe_out hi
    refine ⟨L :: ex, m2, sl3, mu2, _, cf2, sr4, w3, fun b mu5 m5 H5 cf5 e5 q5 => ?_⟩
    have ek5 : ∀ a ∈ ex, H5 a = H1 a := fun a ha => by
      rw [e5.exk a (List.mem_cons_of_mem _ ha), ek2 a ha]
    have eL5 : H5 L = some (.lst vacc) := by rw [e5.exk L (List.mem_cons_self ..), eL]
    have le5 := e2.trans e5.le
    cases b with
    | false =>
      rw [if_neg Bool.false_ne_true] at q5
      show P (i + 1) H5
      exact ⟨m5, mu5, acc, vacc, cf5, le5, ek5, eL5, Rs.mono e5.same _ _ ra, q5⟩
    | true =>
      rw [if_pos rfl] at q5
      refine iteT ?_
      refine ⟨L :: ex, m5, sl3, mu5, _, cf5, sr4.ext e5, q5, fun t mu6 m6 H6 v6 cf6 e6 r6 q6 => ?_⟩
      cases t with
      | h _ => exact q6.elim
      | d y6 =>
        obtain ⟨hz, q6⟩ := q6
        have ra6 := Rs.mono (e5.same.trans e6.same) _ _ ra
        refine ⟨vacc, by rw [e6.exk L (List.mem_cons_self ..), eL5], by rw [← ra6.length]; exact hz, m6, mu6, acc ++ [y6], vacc ++ [v6], cf6.put (List.mem_cons_self ..), ⟨(le5.trans e6.le).pre, ?_⟩, fun a ha => ?_, upd_same, ?_, q6⟩
        · rw [vw_put (List.mem_cons_self ..)]
          exact (le5.trans e6.le).same
        · have na : a ≠ L := fun z => nL (z ▸ ha)
          rw [upd_ne na, e6.exk a (List.mem_cons_of_mem _ ha), ek5 a ha]
        · rw [vw_put (List.mem_cons_self ..)]
          exact ra6.append (Rs.cons r6 Rs.nil)
  · have ei : i = ds.length := by omega
    subst ei
    rw [List.drop_length] at w2
    have e2' : Ext ex m1 mu1 H1 m2 mu2 H2 := ⟨e2.pre, e2.same.trans vw_show, ek2⟩
    refine .inl ⟨by rw [g2.length]; exact wk.stops H2 (SqL.of hH2), k (.d (.lst acc)) mu2 m2 H2 (.ref L) cf2.show (e1.trans e2') ?_ w2.2⟩
    simp only [RS, R]
    refine ⟨L, vacc, rfl, vw_some.mpr ⟨nL, fun z => ?_, eL⟩, Rs.mono vw_show _ _ ra⟩
    obtain ⟨k, mo, h1, h2⟩ := z
    exact cf2.exd L (List.mem_cons_self ..) (List.mem_of_getElem? h1)
section
variable {X : Cx} {pos : Pos} {elt tg iter : Expr} {ifs : List Expr} {scope : Scope} {own : List (Str × Nat)} {f : WE} {g : WG} {tt : WT} {te : WE}
theorem re_compL (hc : X.calm = true) (hN : X.N.Nodup) (hi : RE X iter f) (ok : BlkOk X.N X.env.scope scope own)
    (hg : ∀ (s : Shared) (H : Hp) (C : Addr) (cl : List (Str × Addr)) (fp : List Addr), RG (X.blk s H scope (compEnvC scope cl C X.env) fp) tg (own.map (·.2)) g)
    (ht : ∀ (s : Shared) (H : Hp) (C : Addr) (cl : List (Str × Addr)) (fp : List Addr), RTs (X.blk s H scope (compEnvC scope cl C X.env) fp) ifs tt)
    (he : ∀ (s : Shared) (H : Hp) (C : Addr) (cl : List (Str × Addr)) (fp : List Addr), RE (X.blk s H scope (compEnvC scope cl C X.env) fp) elt te)
    (hs : ∀ x, foldedSetIterable iter X.env x = pure x := by intro _; rfl) : RE X (.ListComp elt [⟨tg, iter, ifs, 0⟩] scope pos) (wCompL f g tt te (own.map (·.2))) :=
  pe_imp (pe_lc (wi := iAny (tE X.K f) X.K) (g := tG X.K (own.map fun (p : Str × Nat) => p.2) g) (tt := tT X.K tt) (te := tE X.K te) hc hN (pi_any hi) ok hg ht he hs) fun _ _ _ q => compL_red q
theorem rs_setCL {i : Nat} {y : Str} {py spos : Pos} (hc : X.calm = true) (hN : X.N.Nodup) (hy : X.N[i]? = some y) (hyl : X.env.scope.names.lookup y = some .local)
    (hsw : swapsWith (.ListComp elt [⟨tg, iter, ifs, 0⟩] scope pos) (some (.Name y py)) spos.line X.env = pure true) (hi : RE X iter f) (ok : BlkOk X.N X.env.scope scope own)
    (hg : ∀ (s : Shared) (H : Hp) (C : Addr) (cl : List (Str × Addr)) (fp : List Addr), RG (X.blk s H scope (compEnvC scope cl C X.env) fp) tg (own.map (·.2)) g)
    (ht : ∀ (s : Shared) (H : Hp) (C : Addr) (cl : List (Str × Addr)) (fp : List Addr), RTs (X.blk s H scope (compEnvC scope cl C X.env) fp) ifs tt)
    (he : ∀ (s : Shared) (H : Hp) (C : Addr) (cl : List (Str × Addr)) (fp : List Addr), RE (X.blk s H scope (compEnvC scope cl C X.env) fp) elt te)
    (hs : ∀ x, foldedSetIterable iter X.env x = pure x := by intro _; rfl) : RSt X (.Assign [.Name y py] (.ListComp elt [⟨tg, iter, ifs, 0⟩] scope pos) spos) (wSet i (wCompL f g tt te (own.map (·.2)))) :=
  ps_imp (ps_setLc (wi := iAny (tE X.K f) X.K) (g := tG X.K (own.map fun (p : Str × Nat) => p.2) g) (tt := tT X.K tt) (te := tE X.K te) hc hN hy hyl hsw (pi_any hi) ok hg ht he hs) fun _ _ _ q => set_red (fun _ z => compL_red z) q
end

/-! ### truth of data and of lists -/
def truOf (s : S) (mu : Mu) : Option Bool := match s with
  | .d .non => some false
  | .d (.bl b) => some b
  | .d (.int i) => some (i != 0)
  | .d (.str z) => if z.length ≤ sizeLine then some ((z.length : Int) != 0) else none
  | s => (rdQ s mu).map fun ds => !ds.isEmpty
theorem isEmpty_rs {K : Frag} {H : Hp} {ds : List D} {vs : List V} (g : Rs K H ds vs) : ds.isEmpty = vs.isEmpty := by
  cases ds with
  | nil =>
    rw [g.inv0]
    rfl
  | cons d ds =>
    obtain ⟨v, r, rfl, _, _⟩ := g.inv
    rfl
theorem truOf_ok {K : Frag} {ex m : List Addr} {mu : Mu} {H : Hp} {s : S} {x : V} {k : Bool} (cf : Cfg K ex m mu H) (r : RS K m (vw ex m mu H) s x) (e : truOf s mu = some k) : TruV K x H k := by
  unfold truOf at e
  split at e
  · cases e
    rw [rs_non r]
    rfl
  · cases e
    rw [rs_bool r]
    rfl
  · cases e
    rw [rs_int r]
    rfl
  · split at e
    · rename_i hz
      cases e
      rw [rs_str r]
      exact ⟨hz, rfl⟩
    · cases e
  · obtain ⟨ds, e1, rfl⟩ := Option.map_eq_some_iff.mp e
    rcases rdQ_ok2 cf r e1 with ⟨a, vs, rfl, h, g⟩ | ⟨_, a, vs, rfl, h, g⟩
    · exact .inl ⟨vs, SqL.of h, by rw [isEmpty_rs g]⟩
    · exact .inr (.inl ⟨vs, h, by rw [isEmpty_rs g]⟩)
def wTru (fa : WE) : WT := fun sl mu Q => fa sl mu fun s mu1 => On (truOf s mu1) fun k => Q k mu1
section
variable {X : Cx} {pos apos : Pos} {a o e : Expr} {fa fo fe : WE} {fs : WA} {x : Str} {p : Pos}
theorem rt_tru (ha : RE X a fa) (he : ∀ whole, isTrue a X.env whole = (do let v ← whole; standAt a.pos; holding [v] (truthy v)) := by intro _; rfl) : RT X a (wTru fa) := by
  refine pt_imp (pt_truth ha he) fun σ H Q q => ?_
  obtain ⟨ex, m, sl, mu, Qd, cf, sr, w, k⟩ := q
  refine ⟨ex, m, sl, mu, _, cf, sr, w, fun s mu1 m1 H1 v cf1 e1 r1 q1 => ?_⟩
  obtain ⟨c, ec, q1⟩ := On.elim q1
  exact ⟨c, truOf_ok cf1 r1 ec, k _ _ _ _ cf1 e1 q1⟩
/-! ### list.remove of whole numbers -/
def gRemove : GM := fun ds ss => match ss with
  | [.d (.int k)] => (asInts ds).bind fun ns => if k ∈ ns then some (.non, ds.eraseIdx (ns.idxOf k)) else none
  | _ => none
theorem map_eraseIdx {α β : Type} (f : α → β) : ∀ (l : List α) (i : Nat), (l.map f).eraseIdx i = (l.eraseIdx i).map f
  | [], _ => rfl
  | _ :: _, 0 => rfl
  | x :: l, i + 1 => by
    rw [List.map_cons, List.eraseIdx_cons_succ, List.eraseIdx_cons_succ, List.map_cons, map_eraseIdx f l i]
theorem mt_gRemove : MtR X "list.remove" (rMut X.K gRemove) := by
  refine mtr_imp mt_remove fun x xs H Q q => ?_
  obtain ⟨ex, m, mu, k, ds, ss, d, ds', cf, r, em, rs, eg, kk⟩ := q
  obtain ⟨a, vs, rfl, ha, hh, g⟩ := hnd_l cf em r
  unfold gRemove at eg
  split at eg
  · rename_i k0
    obtain ⟨ns, en, eg⟩ := Option.bind_eq_some_iff.mp eg
    split at eg
    · rename_i hk
      cases eg
      obtain rfl := asInts_ok g en
      obtain ⟨u, rfl, ru⟩ := rss1 rs
      have hlt : ns.idxOf k0 < ns.length := List.idxOf_lt_length_iff.mpr hk
      refine ⟨a, ns, k0, ns.idxOf k0, rfl, by rw [rs_int ru], hh, ?_, fun j hj z => ?_, ?_⟩
      · rw [List.getElem?_eq_getElem hlt, List.getElem_idxOf]
      · obtain ⟨h1, h2⟩ := List.getElem?_eq_some_iff.mp z
        have := List.not_of_lt_findIdx (p := (· == k0)) hj
        simp [h2] at this
      · obtain ⟨c3, e3⟩ := cf.chg (mo' := .lst (ds.eraseIdx (ns.idxOf k0))) (o := .lst ((ns.eraseIdx (ns.idxOf k0)).map V.int)) ha em ⟨_, rfl, by rw [← map_eraseIdx]; exact g.eraseIdx _⟩
        exact kk _ _ c3 e3 r_non
    · cases eg
  · cases eg
theorem re_remove (ho : RE X o fo) (ha : RA X [e] fs) (hbase : attributeBase o "remove" X.env (eval o X.env) = eval o X.env := by rfl)
    (hfew : ((backTo pos (starEach (e :: []) X.env)).all (fun x => !x.1) && (backToKw pos (keywordEach [] X.env)).all (fun x => x.1.isSome)
      && decide ((e :: []).length + ([] : List Keyword).length + (if ([] : List Keyword).isEmpty then 0 else 1) < 30)) = true := by rfl)
    (hline : (apos.endLine == pos.line) = true := by rfl) (hs : starEach [e] X.env = (false, eval e X.env) :: starEach [] X.env := by rfl) :
    RE X (.Call (.Attribute o "remove" apos) [e] [] pos) (wMut gRemove fo fs) :=
  pe_imp (pe_bm PySem.F.plainAttrs_list PySem.F.slot_list_remove PySem.F.type_list_remove mt_gRemove ho ha hbase hfew hline hs rfl) fun _ _ _ q => mut_red q
/-! ### list(range(n)) that changes later, tuple(range(n)) -/
theorem rs_range {K : Frag} {H : Hp} (n : Int) : Rs K H (rangeD 0 n) (rgV 0 n) := by
  unfold rangeD rgV
  have : ∀ l : List Nat, Rs K H (l.map fun (i : Nat) => D.int (0 + i)) (l.map fun (i : Nat) => V.int (0 + i)) := by
    intro l
    induction l with
    | nil => exact Rs.nil
    | cons i l ih => exact Rs.cons (r_int _) ih
  exact this _
def wListRgM (fe : WE) : WE := fun sl mu Q => fe sl mu fun s mu1 => match s with
  | .d (.int n) => (0 ≤ n ∧ n ≤ 16777216) ∧ Q (.h mu1.length) (mu1 ++ [some (.lst (rangeD 0 n))])
  | _ => False
theorem re_listRgM {p2 pos2 : Pos} (hc : X.calm = true) (hg : Gl X "list") (hm : X.mg "list" = none) (hg2 : Gl X "range") (hm2 : X.mg "range" = none) (he : RE X e fe)
    (na : starEach [e] X.env = (false, eval e X.env) :: starEach [] X.env := by rfl) (na2 : starEach [.Call (.Name "range" p2) [e] [] pos2] X.env = (false, eval (.Call (.Name "range" p2) [e] [] pos2) X.env) :: starEach [] X.env := by rfl) :
    RE X (.Call (.Name "list" p) [.Call (.Name "range" p2) [e] [] pos2] [] pos) (wListRgM fe) := by
  refine pe_imp (pe_listRg hc hg hm (prg_1 hg2 hm2 he na) na2) fun σ H Q q => ?_
  obtain ⟨ex, m, sl, mu, Qd, cf, sr, w, k⟩ := q
  refine ⟨ex, m, sl, mu, _, cf, sr, w, fun s mu1 m1 H1 v cf1 e1 r1 q1 => ?_⟩
  split at q1
  · rename_i n
    obtain ⟨⟨h0, h1⟩, q1⟩ := q1
    refine ⟨n, rs_int r1, RgOk.of_le (Int.le_refl _) h1 (by omega) h0, fun a ha => ?_⟩
    obtain ⟨c2, e2⟩ := cf1.add (mo := .lst (rangeD 0 n)) (o := .lst (rgV 0 n)) ha ⟨_, rfl, rs_range n⟩
    exact k (.h mu1.length) _ _ _ _ c2 (e1.trans e2) ⟨a, by rw [← cf1.len]; simp, rfl⟩ q1
  · exact q1.elim
def wTupRg (fe : WE) : WE := fun sl mu Q => fe sl mu fun s mu1 => match s with
  | .d (.int n) => (0 ≤ n ∧ n ≤ 16777216) ∧ Q (.d (.tup (rangeD 0 n))) mu1
  | _ => False
theorem re_tupRg {p2 pos2 : Pos} (hc : X.calm = true) (hg : Gl X "tuple") (hm : X.mg "tuple" = none) (hg2 : Gl X "range") (hm2 : X.mg "range" = none) (he : RE X e fe)
    (na : starEach [e] X.env = (false, eval e X.env) :: starEach [] X.env := by rfl) (na2 : starEach [.Call (.Name "range" p2) [e] [] pos2] X.env = (false, eval (.Call (.Name "range" p2) [e] [] pos2) X.env) :: starEach [] X.env := by rfl) :
    RE X (.Call (.Name "tuple" p) [.Call (.Name "range" p2) [e] [] pos2] [] pos) (wTupRg fe) := by
  refine pe_imp (pe_tupRg hc hg hm (prg_1 hg2 hm2 he na) na2) fun σ H Q q => ?_
  obtain ⟨ex, m, sl, mu, Qd, cf, sr, w, k⟩ := q
  refine ⟨ex, m, sl, mu, _, cf, sr, w, fun s mu1 m1 H1 v cf1 e1 r1 q1 => ?_⟩
  split at q1
  · rename_i n
    obtain ⟨⟨h0, h1⟩, q1⟩ := q1
    refine ⟨n, rs_int r1, RgOk.of_le (Int.le_refl _) h1 (by omega) h0, fun a ha => ?_⟩
    have gr := grown cf1 ha (o := .tup (rgV 0 n))
    exact k (.d (.tup (rangeD 0 n))) _ _ _ _ gr.1 (e1.trans gr.2) (new_tup cf1 ha (rs_range n)) q1
  · exact q1.elim
end
end DL
set_option Elab.async false
set_option linter.all false
set_option maxRecDepth 100000
set_option maxHeartbeats 1000000
/-! DP3: how the readings of DQ are worked out -/
namespace DL
open PySem PySem.Spec L2
section
variable {E : DEnds} {sl : Sl} {mu : Mu} {f fa fb fc : WE} {g h : WS} {t : WT} {Q : S → Mu → Prop} {fs : WA} {P : Bool → Mu → Prop}
theorem e_forL {o : WG} (q : f sl mu fun s mu1 => On (rdL s mu1) fun ds => wForDL s ds o g E ds sl mu1) : wForL f o g E sl mu := q
theorem e_sforL {o : WG} (q : f sl mu fun s mu1 => On (rdL s mu1) fun ds => wForDL s ds o g { nx := fun sl' mu' => h E sl' mu', rt := E.rt, bk := E.bk, ct := E.ct } ds sl mu1) : wSeq (wForL f o g) h E sl mu := q
theorem e_compL {o : WG} {vs : List Nat} (q : fa sl mu fun s mu1 => On (rdL s mu1) fun ds => wCompDL s ds o t f (wipeD sl vs) Q ds [] mu1) : wCompL fa o t f vs sl mu Q := q
theorem e_tru (q : fa sl mu fun s mu1 => On (truOf s mu1) fun k => P k mu1) : wTru fa sl mu P := q
theorem e_listRgM (q : fa sl mu fun s mu1 => AsI s fun n => (0 ≤ n ∧ n ≤ 16777216) ∧ Q (.h mu1.length) (mu1 ++ [some (.lst (rangeD 0 n))])) : wListRgM fa sl mu Q := q
theorem e_tupRg (q : fa sl mu fun s mu1 => AsI s fun n => (0 ≤ n ∧ n ≤ 16777216) ∧ Q (.d (.tup (rangeD 0 n))) mu1) : wTupRg fa sl mu Q := q
end
theorem rdL_h {f : Nat} {ds : List D} {mu : Mu} (h : mu[f]? = some (some (.lst ds))) : rdL (.h f) mu = some ds := by
  unfold rdL
  simp only [h]
/-- nothing changes -/
theorem compL_map {α : Type} {s : S} {all : List D} {mk : α → D} {g : WG} {tt : WT} {te : WE} {sl0 : Sl} {Q : S → Mu → Prop} {mu : Mu} (hr : rdL s mu = some all) (t : α → Bool) (h : α → D) (f : α → Sl) : ∀ (xs : List α) (acc : List D), (∀ x ∈ xs, g (mk x) sl0 = some (f x)) →
    (∀ x ∈ xs, ∀ P : Bool → Mu → Prop, P (t x) mu → tt (f x) mu P) → (∀ x ∈ xs, t x = true → ∀ P : S → Mu → Prop, P (.d (h x)) mu → te (f x) mu P) → acc.length + xs.length ≤ sizeLine →
    Q (.d (.lst (acc ++ (xs.filter t).map h))) mu → wCompDL s all g tt te sl0 Q (xs.map mk) acc mu
  | [], acc, _, _, _, _, q => ⟨hr, by simpa using q⟩
  | x :: xs, acc, hg, ht, he, hl, q => by
    rw [List.map_cons]
    unfold wCompDL
    rw [List.length_cons] at hl
    refine ⟨hr, pw_on (hg x (List.mem_cons_self ..)) (ht x (List.mem_cons_self ..) _ ?_)⟩
    cases ed : t x with
    | true =>
      rw [if_pos rfl]
      refine he x (List.mem_cons_self ..) ed _ ⟨by omega, ?_⟩
      refine compL_map hr t h f xs _ (fun y hy => hg y (List.mem_cons_of_mem _ hy)) (fun y hy => ht y (List.mem_cons_of_mem _ hy)) (fun y hy => he y (List.mem_cons_of_mem _ hy)) (by rw [List.length_append]; simp; omega) ?_
      rw [List.filter_cons, if_pos ed] at q
      simpa using q
    | false =>
      rw [if_neg (by decide)]
      refine compL_map hr t h f xs _ (fun y hy => hg y (List.mem_cons_of_mem _ hy)) (fun y hy => ht y (List.mem_cons_of_mem _ hy)) (fun y hy => he y (List.mem_cons_of_mem _ hy)) (by omega) ?_
      rw [List.filter_cons, if_neg (by rw [ed]; decide)] at q
      exact q
/-- a loop over a list; what holds of it stands in J -/
theorem forL_inv {s : S} {all : List D} {g : WG} {b : WS} {E : DEnds} (J : Nat → Sl → Mu → Prop) (hJ : ∀ n sl mu, J n sl mu → rdL s mu = some all) : ∀ (ds : List D) (n : Nat) (sl : Sl) (mu : Mu), J n sl mu →
    (∀ (i : Nat) (d : D) (sl : Sl) (mu : Mu), ds[i]? = some d → J (n + i) sl mu → ∀ C : Sl → Mu → Prop, (∀ sl mu, J (n + i + 1) sl mu → C sl mu) →
      On (g d sl) fun sl1 => b { nx := C, rt := E.rt, bk := E.nx, ct := C } sl1 mu) →
    (∀ sl mu, J (n + ds.length) sl mu → E.nx sl mu) → wForDL s all g b E ds sl mu
  | [], n, sl, mu, j, _, fin => ⟨hJ _ _ _ j, fin sl mu j⟩
  | d :: ds, n, sl, mu, j, step, fin => by
    unfold wForDL
    refine ⟨hJ _ _ _ j, step 0 d sl mu rfl j (wForDL s all g b E ds) fun sl mu j2 => ?_⟩
    refine forL_inv J hJ ds (n + 1) sl mu j2 (fun i x sl mu e k C hC => ?_) (fun sl mu k => fin sl mu ?_)
    · refine step (i + 1) x sl mu e (by rw [show n + (i + 1) = n + 1 + i by omega]; exact k) C fun sl mu k => hC sl mu ?_
      rw [show n + (i + 1) = n + 1 + i by omega] at k
      exact k
    · rw [List.length_cons, show n + (ds.length + 1) = n + 1 + ds.length by omega]
      exact k
end DL
set_option Elab.async false
set_option linter.all false
set_option maxRecDepth 100000
set_option maxHeartbeats 3200000
/-! EnT: enumerate of a tuple -/
namespace PySem
theorem enumT_new (tu : Addr) (parts : Array Value) :
    Meets (Builtin.«enumerate.__new__» ⟨[.type "enumerate", .ref tu], []⟩) (fun _ R s => s.heap.IsTuple tu parts ∧
      R (.ok (.ret (.ref (s.heap.push { cls := .type "tuple_iterator", data := .fields #[.ref tu, .int 0 0] }).objs.size)))
        { s with heap := (s.heap.push { cls := .type "tuple_iterator", data := .fields #[.ref tu, .int 0 0] }).push { cls := .type "enumerate", data := .fields #[.none, .bool false, .ref s.heap.objs.size, rawInt 0, .none, .none] } }) :=
  .of_wp fun prog w A R s h => by
    obtain ⟨hp, g, d, tk, os⟩ := s
    obtain ⟨hl, h⟩ := h
    have hsub := sub_enumerate
    have hL : Heap.IsTuple (Shared.heap ⟨hp, g, d, tk, os⟩) tu parts := hl
    wp_walk
    refine wpAny_stack_any fun st => wpAny_pure ?_
    split
    · rename_i c _ _ _ _ _
      cases (c == Value.type "enumerate")
      · wp_walk using wpAny_pyIter_tuple hL
        exact ⟨_, rfl, h⟩
      · wp_walk using wpAny_pyIter_tuple hL
        exact ⟨_, rfl, h⟩
    · wp_walk using wpAny_pyIter_tuple hL
      exact ⟨_, rfl, h⟩
end PySem
namespace PySem
section
variable {prog : Program} {w : World} {A : Around} {E : Value → Shared → Prop} {s : Shared}
/-- enumerate(t): its two new cells -/
theorem enumT_call {tu : Addr} {parts : Array Value} {Q : Value → Shared → Prop} (hT : s.heap.IsTuple tu parts)
    (fin : ∀ g, IsEnum g (s.heap.objs.size + 1) s.heap.objs.size 0 .none → g.IsTupleIter s.heap.objs.size tu 0 → (∀ b o, s.heap.get? b = some o → g.get? b = some o) → Q (.ref (s.heap.objs.size + 1)) { s with heap := g }) :
    wpAny (model prog w) A (call (.type "enumerate") [.ref tu]) Q E s := by
  have one := F.typeCall_enumerate_1 (.ref tu)
  have two := F.newCall_enumerate_1 (.ref tu)
  refine callType_new F.called_enumerate (by decide) one two (fun ob => F.args_object_init_2 ob _) F.entry_enumerate_new (enumT_new tu parts) ⟨hT, ?_⟩
  generalize hg : (s.heap.push { cls := .type "tuple_iterator", data := .fields #[.ref tu, .int 0 0] }) = g1
  have z1 : g1.objs.size = s.heap.objs.size + 1 := by
    rw [← hg]
    exact Heap.size_push ..
  have i1 : g1.get? s.heap.objs.size = some { cls := .type "tuple_iterator", data := .fields #[.ref tu, .int 0 0] } := by
    rw [← hg]
    exact Heap.get?_push_size _ rfl
  have k1 : ∀ b o, s.heap.get? b = some o → g1.get? b = some o := fun b o e => by
    rw [← hg]
    exact Heap.get?_push_of_some _ e
  show _ ∧ _
  generalize hg2 : (g1.push { cls := .type "enumerate", data := .fields #[.none, .bool false, .ref s.heap.objs.size, rawInt 0, .none, .none] }) = g2
  have en : IsEnum g2 g1.objs.size s.heap.objs.size 0 .none := by
    rw [← hg2]
    exact Heap.get?_push_size _ rfl
  have k2 : ∀ b o, g1.get? b = some o → g2.get? b = some o := fun b o e => by
    rw [← hg2]
    exact Heap.get?_push_of_some _ e
  rw [z1] at en ⊢
  exact ⟨⟨_, en, rfl⟩, fin _ en ⟨_, k2 _ _ i1, rfl, rfl⟩ fun b o e => k2 _ _ (k1 _ _ e)⟩
end
end PySem
namespace DL
open PySem PySem.Spec L2
/-- the tuple at t, each item in a new pair -/
def ItT (K : Frag) (t : Addr) : It :=
  { go := fun i H => ∃ xs x, SqT K H t xs ∧ xs[i]? = some x
    yld := fun i H v H' => ∃ p x, v = .ref p ∧ H p = none ∧ H' = upd H p (.tup [.int (i : Nat), x]) ∧ ∀ xs, SqT K H t xs → xs[i]? = some x
    stop := fun i H => ∃ xs, SqT K H t xs ∧ xs.length = i }
/-- the stand of such an enumerate ahead of turn i -/
def EnAt (en it tu : Addr) (i : Nat) (h : Heap) : Prop := (∃ old, IsEnum h en it ((i : Nat) : Int) old) ∧ h.IsTupleIter it tu i ∧ en ≠ it ∧ tu ≠ it ∧ en ≠ tu
theorem turnT {P : Program} {w : World} {K : Frag} {elts : List Expr} {kk : Nat} {tpos : Pos} (tu en it : Addr) : Turn P w K (.Tuple elts kk tpos) (ItT K tu) [en, it] en (EnAt en it tu) where
  mem := List.mem_cons_self ..
  obj := by
    rintro i h ⟨⟨old, e1⟩, ⟨o, e2, e3, e4⟩, _⟩ b hb
    simp only [List.mem_cons, List.not_mem_nil, or_false] at hb
    rcases hb with rfl | rfl
    · exact ⟨_, e1, fun v z => nomatch z⟩
    · refine ⟨o, e2, fun v z => ?_⟩
      rw [e4] at z
      cases z
  keep := by
    rintro i h h' ⟨⟨old, e1⟩, e2, e3⟩ k
    exact ⟨⟨old, k _ (by simp) _ e1⟩, e2.at fun o q => k _ (by simp) o q, e3⟩
  item := by
    rintro X rfl rfl rfl hc i pins s σ H E I hf ⟨⟨old, e1⟩, e2, e3, e4, e5⟩ ⟨xs, x, hq, hx⟩
    obtain ⟨its, rv, tup, hz⟩ := I.tuple hq
    obtain ⟨u, hu, ru⟩ := rv.get hx
    have lt1 : en < s.heap.objs.size := Heap.lt_size e1
    have lt2 : it < s.heap.objs.size := by
      obtain ⟨_, q, _⟩ := e2
      exact Heap.lt_size q
    have isT : s.heap.IsTuple tu its.toArray := tup
    have hd : X.A.in1.handled = none := I.ok.hd hc
    have inb : i < its.toArray.size := by
      rw [List.size_toArray]
      exact (List.getElem?_eq_some_iff.mp hu).1
    refine wpAny_pyNext_enum_itemD (Draws.tuple hd it tu e4 its.toArray) e1 ⟨e2, isT⟩ inb e3 (by simp [e3, e5]) fun y g tk hy out st np sz kp => ?_
    have ey : y = u := by
      have : its.toArray[i]? = some u := by simpa using hu
      rw [this] at hy
      cases hy
      rfl
    subst ey
    refine ⟨_, rfl, wpAny_letOwnedTupleGo_enum (s := { s with heap := g, toks := tk + 1 }) out fun g2 e7 sb => ?_⟩
    have np2 : g2.get? s.heap.objs.size = some { cls := .type "tuple", data := .seq #[.int i tk, y] } := (sb.2 _ (Nat.ne_of_gt lt1)).trans np
    have ob : ObjOk X.prog X.w (upd H s.heap.objs.size (.tup [.int (i : Nat), x])) g2 s.heap.objs.size (.tup [.int (i : Nat), x]) := by
      refine ⟨?_, [.int i tk, y], .cons ⟨_, rfl⟩ (.cons ru .nil), ⟨_, np2, rfl, _, rfl⟩⟩
      show 2 ≤ sizeLine
      decide
    have I1 := I.turnedNew (t' := tk + 1) (ch := [en, it]) (fun b o hb q => (sb.2 b fun z => hb (by simp [z])).trans (kp b o (fun z => hb (by simp [z])) (fun z => hb (by simp [z])) q)) hf (Nat.le_refl _) ob
    refine ⟨.ref s.heap.objs.size, _, I1, rfl, ⟨_, x, rfl, I.hok.fresh (Nat.le_refl _), rfl, fun ys hy2 => by rw [I.tuple_inj hy2 hq]; exact hx⟩, ⟨⟨y, ?_⟩, st.1.at fun o q => (sb.2 it (Ne.symm e3)).trans q, e3, e4, e5⟩, fun b hb => ?_⟩
    · have e8 : ((i + 1 : Nat) : Int) = (i : Int) + 1 := by omega
      rw [e8]
      exact e7
    · have lb : b < s.heap.objs.size := by
        simp only [List.mem_cons, List.not_mem_nil, or_false] at hb
        rcases hb with rfl | rfl
        · exact lt1
        · exact lt2
      rw [upd_ne (Nat.ne_of_lt lb)]
      exact (hf b hb).1
  done := by
    rintro X rfl rfl rfl hc i pins s σ H E I hf ⟨⟨old, e1⟩, e2, e3, e4, e5⟩ ⟨xs, hq, hx⟩
    obtain ⟨its, rv, tup, hz⟩ := I.tuple hq
    have isT : s.heap.IsTuple tu its.toArray := tup
    have hd : X.A.in1.handled = none := I.ok.hd hc
    have hl := rv.length
    obtain ⟨f0, f1, f2, f3, f4, f5⟩ := hf it (by simp)
    have ei : i = its.toArray.size := by
      rw [List.size_toArray, ← hl]
      exact hx.symm
    refine wpAny_pyNext_enum_endD (Draws.tuple hd it tu e4 its.toArray) e1 ⟨by rw [← ei]; exact e2, isT⟩ fun g eb => ⟨rfl, ?_⟩
    exact I.turned (t' := s.toks) (fun b o hb q => eb b o hb q) f0 f1 f3 f4 f5
  self := fun A i s Q E st h => by
    obtain ⟨⟨_, e1⟩, _⟩ := st
    exact wpAny_pyIter_enum e1 h
def iEnT (K : Frag) (ta : TA) : TI := fun σ H Rr => ta σ H fun vs H1 => ∃ t xs, vs = [.ref t] ∧ SqT K H1 t xs ∧ Rr (ItT K t) H1
open PyProof.Rows in
theorem pi_enT {X : Cx} {e : Expr} {ta : TA} {p pos tpos : Pos} {elts : List Expr} {kk : Nat} (hg : Gl X "enumerate") (hm : X.mg "enumerate" = none) (ha : PA X [e] ta) (hs : starEach [e] X.env = [(false, eval e X.env)] := by rfl) :
    PI X (.Tuple elts kk tpos) (.Call (.Name "enumerate" p) [e] [] pos) (iEnT X.K ta) := by
  constructor
  intro pins s σ H Rr I h
  refine Call_ (ld_blt I hg hm boot_enumerate (PyProof.Rows.callWith_type1 (thn (ha.run pos pins s σ H _ I h) fun us s1 z => ?_) hs rfl))
  obtain ⟨vs, H1, I1, r1, tu, xs, ex, hq, q⟩ := z
  subst ex
  cases r1 with
  | cons r rr =>
    cases rr
    cases r
    obtain ⟨its, rv, tup, hz⟩ := I1.tuple hq
    have isT : s1.heap.IsTuple tu its.toArray := tup
    have ltu : tu < s1.heap.objs.size := by
      obtain ⟨_, z, _⟩ := isT
      exact Heap.lt_size z
    refine enumT_call isT fun g en it0 kp => wpAny_pyIter_enum en ?_
    have I2 : Inv X pins σ H1 { s1 with heap := g } := I1.kept (t' := s1.toks) kp
    refine ⟨s1.heap.objs.size + 1, [s1.heap.objs.size + 1, s1.heap.objs.size], EnAt (s1.heap.objs.size + 1) s1.heap.objs.size tu, ItT X.K tu, H1, rfl, I2, turnT tu _ _, ⟨⟨.none, en⟩, it0, Nat.succ_ne_self _, Nat.ne_of_lt ltu, Nat.ne_of_gt (Nat.lt_trans ltu (Nat.lt_succ_self _))⟩, fun b hb => ?_, q⟩
    have hle : s1.heap.objs.size ≤ b := by
      simp only [List.mem_cons, List.not_mem_nil, or_false] at hb
      rcases hb with z | z
      · rw [z]
        exact Nat.le_succ _
      · rw [z]
        exact Nat.le_refl _
    exact I1.fpOk hle (I1.hok.fresh hle)
theorem wk_enT {K : Frag} {ex m : List Addr} {mu : Mu} {H : Hp} {t : Addr} {vs : List V} {ds : List D} (h1 : vw ex m mu H t = some (.tup vs)) (r1 : Rs K (vw ex m mu H) ds vs) : WkD K ex m mu H (ItT K t) (enumD 0 ds) := by
  have hl : (enumD 0 ds).length = vs.length := by rw [enumD_len, r1.length]
  refine ⟨fun i ex2 m2 mu2 H2 hi cf le => ?_, fun i ex2 m2 mu2 H2 x H3 hi cf le y => ?_, fun ex2 m2 mu2 H2 cf le => ?_⟩
  · rw [hl] at hi
    exact ⟨vs, vs[i], SqT.of (vw_sub _ _ (le.same _ _ h1)), List.getElem?_eq_getElem hi⟩
  · obtain ⟨p, v, rfl, hp, rfl, g1⟩ := y
    obtain ⟨d, e1, q1⟩ := r1.getV (g1 vs (SqT.of (vw_sub _ _ (le.same _ _ h1))))
    refine ⟨.tup [.int (i : Nat), d], ?_, grown cf hp, rs_pair cf hp (r_int _) (R.mono le.same _ _ q1)⟩
    have := enumD_get 0 ds i d e1
    rwa [Nat.zero_add] at this
  · rw [hl]
    exact ⟨vs, SqT.of (vw_sub _ _ (le.same _ _ h1)), rfl⟩
def wEnT (fs : WA) : WI := fun sl mu Q => fs sl mu fun ss mu1 => match ss with
  | [.d (.tup a)] => Q (enumD 0 a) mu1
  | _ => False
theorem ri_enT {X : Cx} {e : Expr} {fs : WA} {p pos tpos : Pos} {elts : List Expr} {kk : Nat} (hg : Gl X "enumerate") (hm : X.mg "enumerate" = none) (ha : RA X [e] fs) (hs : starEach [e] X.env = [(false, eval e X.env)] := by rfl) :
    RI X (.Tuple elts kk tpos) (.Call (.Name "enumerate" p) [e] [] pos) (wEnT fs) := by
  refine pi_imp (pi_enT hg hm ha hs) fun σ H Q q => ?_
  obtain ⟨ex, m, sl, mu, Qd, cf, sr, w, k⟩ := q
  refine ⟨ex, m, sl, mu, _, cf, sr, w, fun ss mu1 m1 H1 v cf1 e1 rs q1 => ?_⟩
  split at q1
  · obtain ⟨x, rfl, r1⟩ := rss1 rs
    simp only [RS, R] at r1
    obtain ⟨t, vs, rfl, h1, g1⟩ := r1
    exact ⟨t, vs, rfl, SqT.of (vw_sub _ _ h1), k _ _ _ _ _ cf1 e1 (wk_enT h1 g1) q1⟩
  · exact q1.elim
/-! ### in, of data that is compared part by part -/
def dInG (neg : Bool) : G2 := fun s1 s2 mu => (pk s1 mu).bind fun a => (pk s2 mu).bind fun b => (toPy a).bind fun p => (toPy b).bind fun q => match q with
  | .list qs => if SeqAt.shaped p && SeqAt.shaped (.list qs) then some (.bl (if neg then !(qs.any fun z => PyData.eqv z p) else qs.any fun z => PyData.eqv z p)) else none
  | _ => none
theorem dInG_inv {neg : Bool} {s1 s2 : S} {mu : Mu} {d : D} (e : dInG neg s1 s2 mu = some d) : ∃ a b p qs, pk s1 mu = some a ∧ pk s2 mu = some b ∧ toPy a = some p ∧ toPy b = some (.list qs) ∧ SeqAt.shaped p = true ∧ SeqAt.shaped (.list qs) = true ∧
    d = .bl (if neg then !(qs.any fun z => PyData.eqv z p) else qs.any fun z => PyData.eqv z p) := by
  unfold dInG at e
  obtain ⟨a, e1, e⟩ := Option.bind_eq_some_iff.mp e
  obtain ⟨b, e2, e⟩ := Option.bind_eq_some_iff.mp e
  obtain ⟨p, e3, e⟩ := Option.bind_eq_some_iff.mp e
  obtain ⟨q, e4, e⟩ := Option.bind_eq_some_iff.mp e
  split at e
  · split at e
    · rename_i qs h
      cases e
      rw [Bool.and_eq_true] at h
      exact ⟨a, b, p, qs, e1, e2, e3, e4, h.1, h.2, rfl⟩
    · cases e
  · cases e
section
variable {X : Cx}
theorem op_dInG (hu : X.A.units + 65 < cLine) : OpR X (compareOp .In) (r2D X.K (dInG false)) := by
  refine opr_imp (op_inD hu) fun x y H Q q => ?_
  obtain ⟨ex, m, mu, s1, s2, d, cf, r1, r2, e, k⟩ := q
  obtain ⟨a, b, p, qs, e1, e2, e3, e4, h1, h2, rfl⟩ := dInG_inv e
  exact ⟨p, qs, toPy_ok _ _ _ (pk_ok cf r1 e1) e3, toPy_ok _ _ _ (pk_ok cf r2 e2) e4, h1, h2, k _ _ (grown_refl cf) (r_bl _)⟩
theorem op_dNotInG (hu : X.A.units + 65 < cLine) : OpR X (compareOp .NotIn) (r2D X.K (dInG true)) := by
  refine opr_imp (op_notInD hu) fun x y H Q q => ?_
  obtain ⟨ex, m, mu, s1, s2, d, cf, r1, r2, e, k⟩ := q
  obtain ⟨a, b, p, qs, e1, e2, e3, e4, h1, h2, rfl⟩ := dInG_inv e
  exact ⟨p, qs, toPy_ok _ _ _ (pk_ok cf r1 e1) e3, toPy_ok _ _ _ (pk_ok cf r2 e2) e4, h1, h2, k _ _ (grown_refl cf) (r_bl _)⟩
end
theorem room65 {k : Nat} {A : Around} (r : Room k A) : A.units + 65 < cLine := by
  have := r.un
  omega
end DL
set_option Elab.async false
set_option linter.all false
set_option maxRecDepth 100000
set_option maxHeartbeats 3200000
/-! RevT: a tuple from its end -/
namespace HT
open PySem PySem.Spec PyProof.Rows
theorem back_bounds (n : Nat) : Builtin.Slice.sliceAdjust none none (-1) (n : Int) = ((n : Int) - 1, -1) := by
  unfold Builtin.Slice.sliceAdjust
  have : ((-1 : Int) < 0) := by decide
  simp only [this, if_true]
theorem back_places (n : Nat) : Builtin.Slice.slicePlaces ((n : Int) - 1) (-1) (-1) = n := by
  unfold Builtin.Slice.slicePlaces
  rw [if_neg (show ¬ ((-1 : Int) > 0) by decide)]
  by_cases h : n = 0
  · subst h
    rfl
  · rw [if_pos (show ((n : Int) - 1 > -1) by omega)]
    have e : ((n : Int) - 1 - -1 - 1) / (-(-1)) = (n : Int) - 1 := by
      rw [show (-(-1) : Int) = 1 by decide, Int.ediv_one]
      omega
    rw [e]
    omega
theorem fm_congr {α β : Type} {f g : α → Option β} : ∀ {l : List α}, (∀ x ∈ l, f x = g x) → l.filterMap f = l.filterMap g
  | [], _ => rfl
  | x :: l, h => by
    have ih := fm_congr (l := l) fun y hy => h y (List.mem_cons_of_mem _ hy)
    rw [List.filterMap_cons, List.filterMap_cons, h x (List.mem_cons_self ..), ih]
theorem back_pick (xs : Array Value) : ((List.range xs.size).filterMap fun (m : Nat) => xs[(((xs.size : Int) - 1) + (m : Int) * (-1)).toNat]?).toArray = xs.toList.reverse.toArray := by
  congr 1
  have e : ∀ m ∈ List.range xs.size, xs[(((xs.size : Int) - 1) + (m : Int) * (-1)).toNat]? = xs.toList.reverse[m]? := fun m hm => by
    have lt := List.mem_range.mp hm
    have e1 : (((xs.size : Int) - 1) + (m : Int) * (-1)).toNat = xs.size - 1 - m := by omega
    rw [e1, List.getElem?_reverse (by rw [Array.length_toList]; exact lt), Array.length_toList, Array.getElem?_toList]
  rw [fm_congr e]
  have all : ∀ ys : List Value, (List.range ys.length).filterMap (fun m => ys[m]?) = ys := by
    intro ys
    induction ys with
    | nil => rfl
    | cons y ys ih =>
      rw [List.length_cons, List.range_succ_eq_map, List.filterMap_cons]
      show y :: _ = _
      rw [List.filterMap_map]
      congr 1
  have := all xs.toList.reverse
  rwa [List.length_reverse, Array.length_toList] at this
section
variable {prog : Program} {w : World} {A : Around} {E : Value → Shared → Prop} {s : Shared}
theorem back_applied {sl : Addr} {a b c : Value} {n : Nat} {Q : Int × Int × Nat → Shared → Prop} (hs : s.heap.IsSliceOf sl a b c) (pa : IsPart a none) (pb : IsPart b none) (pc : IsPart c (some (-1))) (fin : Q ((n : Int) - 1, -1, n) s) :
    wpAny (model prog w) A (Builtin.Slice.sliceApplied (.ref sl) (pure (n : Int))) Q E s := by
  obtain ⟨o, ho, hc, hd⟩ := id hs
  unfold Builtin.Slice.sliceApplied Builtin.Slice.sliceFields
  refine wpAny_bind (wpAny_bind (wpAny_field ho hd (x := a) rfl ?_))
  refine wpAny_bind (wpAny_field ho hd (x := b) rfl ?_)
  refine wpAny_bind (wpAny_field ho hd (x := c) rfl (wpAny_pure ?_))
  refine wpAny_bind (slicePart_ pc ?_)
  show wpAny _ _ (if ((-1 : Int) == 0) = true then _ else _) _ _ s
  rw [if_neg (by decide)]
  refine wpAny_bind (slicePart_ pa ?_)
  refine wpAny_bind (slicePart_ pb ?_)
  refine wpAny_bind (wpAny_pure ?_)
  show wpAny _ _ (match Builtin.Slice.sliceAdjust none none (-1) (n : Int) with | (p, q) => pure (p, (-1 : Int), Builtin.Slice.slicePlaces p q (-1))) _ _ s
  rw [back_bounds]
  show wpAny _ _ (pure ((n : Int) - 1, (-1 : Int), Builtin.Slice.slicePlaces ((n : Int) - 1) (-1) (-1))) _ _ s
  rw [back_places]
  exact wpAny_pure fin
theorem back_item {t sl : Addr} {xs : Array Value} {a b c : Value} {Q : Value → Shared → Prop} (ht : IsTup s.heap t xs) (hs : s.heap.IsSliceOf sl a b c) (pa : IsPart a none) (pb : IsPart b none) (pc : IsPart c (some (-1)))
    (fin : Q (.ref s.heap.objs.size) { s with heap := s.heap.push { cls := .type "tuple", data := .seq xs.toList.reverse.toArray } }) (few : xs.size ≤ sizeLine) : wpAny (model prog w) A (getItem (.ref t) (.ref sl)) Q E s := by
  have big : sizeOk (.seq xs.toList.reverse.toArray) := by
    show xs.toList.reverse.toArray.size ≤ sizeLine
    rw [List.size_toArray, List.length_reverse, Array.length_toList]
    exact few
  obtain ⟨o, ho, hc, hd⟩ := id hs
  have tS : s.TypeIs (.ref sl) "slice" := ⟨o, ho, hc⟩
  unfold getItem
  try with_reducible refine wpAny_holding ?_
  first | refine wpAny_bind (wpAny_pure ?_) | skip
  refine wpAny_bind (wpAny_sequenceKey ht.typeIs (by decide) ?_)
  refine wpAny_bind (wpAny_callSpecial?_slot (name := Str.ofString "__getitem__") ht.typeIs slot_tuple_getitem ?_)
  refine wpAny_call_entry slot_tuple_getitem ht.typeIs entry_tuple_getitem ?_ (args_tuple_getitem _ _)
  show wpAny _ _ (Builtin.Tuple.tupleItemsOf (.ref t) >>= _) _ _ s
  refine wpAny_bind (tupleItemsOf_ ht ?_)
  refine wpAny_bind (wpAny_typeOf tS ?_)
  rw [if_pos (by decide)]
  refine wpAny_bind (back_applied hs pa pb pc ?_)
  have no : ¬ ((((xs.size : Int) - 1) == 0 && (-1 : Int) == 1 && xs.size == xs.size) = true) := by
    intro z
    rw [Bool.and_eq_true, Bool.and_eq_true] at z
    exact absurd z.1.2 (by decide)
  show wpAny _ _ (if (((xs.size : Int) - 1) == 0 && (-1 : Int) == 1 && xs.size == xs.size) = true then _ else _) _ _ s
  rw [if_neg no, back_pick]
  first
    | exact wpAny_bind (m := Builtin.Tuple.tupleExact _) (wpAny_newObj_type (wpAny_pure ⟨_, rfl, wpAny_pure fin⟩) big)
    | exact wpAny_bind (m := Builtin.Tuple.tupleExact _) (wpAny_newObj_type (wpAny_bind (wpAny_pure (wpAny_pure ⟨_, rfl, wpAny_pure fin⟩))) big)
    | exact wpAny_bind (wpAny_bind (m := Builtin.Tuple.tupleExact _) (wpAny_newObj_type (wpAny_pure (wpAny_pure ⟨_, rfl, wpAny_pure fin⟩)) big))
    | exact wpAny_bind (wpAny_bind (m := Builtin.Tuple.tupleExact _) (wpAny_newObj_type (wpAny_pure ⟨_, rfl, wpAny_pure fin⟩) big))
end
end HT
namespace DL
open PySem PySem.Spec L2
section
variable {X : Cx} {e : Expr} {te : TE} {fe : WE} {k : Nat} {p1 p2 p3 pos : Pos}
def tBack (K : Frag) (te : TE) : TE := fun σ H Q => te σ H fun x H1 => ∃ a xs, x = .ref a ∧ SqT K H1 a xs ∧ ∀ p, H1 p = none → Q (.ref p) (upd H1 p (.tup xs.reverse))
open PyProof.Rows in
theorem pe_back (he : PE X e te) : PE X (.Subscript e (.Slice none none (some (.UnaryOp .USub (.Constant (.int 1) k p1) p2)) p3) pos) (tBack X.K te) := by
  constructor
  intro pins s σ H Q I h
  refine Subscript_ (thn (he.run pins s σ H _ I h) fun v s1 z => ?_)
  obtain ⟨x, H1, I1, r1, a, xs, ex, hx, q⟩ := z
  subst ex
  cases r1
  have st : PO X (some (.UnaryOp .USub (.Constant (.int 1) k p1) p2)) (tPart (tUn (rU fun i => .int (-i)) (tC (.int 1)))) := po_some (pe_un un_neg pe_int)
  refine wpAny_Slice (thn (po_none.run pins s1 σ H1 (fun o H2 => o = none ∧ H2 = H1) I1 ⟨rfl, rfl⟩) fun va s2 z2 => ?_)
  obtain ⟨o1, H2, I2, pa, rfl, rfl⟩ := z2
  refine thn (po_none.run pins s2 σ H2 (fun o H3 => o = none ∧ H3 = H2) I2 ⟨rfl, rfl⟩) fun vb s3 z3 => ?_
  obtain ⟨o2, H3, I3, pb, rfl, rfl⟩ := z3
  refine thn (st.run pins s3 σ H3 (fun o H4 => o = some (-1) ∧ H4 = H3) I3 ⟨1, rfl, -1, rfl, rfl, rfl⟩) fun vc s4 z4 => ?_
  obtain ⟨o3, H4, I4, pc, rfl, rfl⟩ := z4
  have I5 := I4.kept (t' := s4.toks) (h' := s4.heap.push { cls := .type "slice", data := .fields #[va, vb, vc] }) fun b ob z => Heap.get?_push_of_some _ z
  obtain ⟨its, r, ht, hz⟩ := I5.tuple hx
  show wpAny (model X.prog X.w) X.A (subscriptTail e (.Slice none none (some (.UnaryOp .USub (.Constant (.int 1) k p1) p2)) p3) (.ref a) (.ref s4.heap.objs.size)) (EP X pins σ Q) X.xe { s4 with heap := s4.heap.push { cls := .type "slice", data := .fields #[va, vb, vc] } }
  refine tail_any (ops := [.ref a, .ref s4.heap.objs.size]) ht.typeIs slot_tuple_getitem.lookup ?_ (by with_unfolding_all rfl)
  refine HT.back_item ht (Heap.IsSliceOf.new _ va vb vc) pa pb pc ?_ (by rw [List.size_toArray, ← r.length]; exact hz)
  refine ⟨.ref _, _, I5.laid (t' := s4.toks) (o := .tup xs.reverse) (fun b ob z => Heap.get?_push_of_some _ z) (Nat.le_refl _) ?_, rfl, q _ (I5.hok.fresh (Nat.le_refl _))⟩
  exact ⟨by rw [List.length_reverse]; exact hz, _, r.reverse, IsTup.new _ _⟩
def dRevT : G1 := fun s _ => match s with
  | .d (.tup ds) => some (.tup ds.reverse)
  | _ => none
theorem re_revT (he : RE X e fe) : RE X (.Subscript e (.Slice none none (some (.UnaryOp .USub (.Constant (.int 1) k p1) p2)) p3) pos) (wUn dRevT fe) := by
  refine pe_imp (pe_back he) fun σ H Q q => ?_
  obtain ⟨ex, m, sl, mu, Qd, cf, sr, w, kk⟩ := q
  refine ⟨ex, m, sl, mu, _, cf, sr, w, fun s mu1 m1 H1 v cf1 e1 r1 q1 => ?_⟩
  obtain ⟨d, ed, q⟩ := On.elim q1
  unfold dRevT at ed
  split at ed
  · cases ed
    obtain ⟨a, vs, rfl, h, g⟩ := rs_tup' r1
    refine ⟨a, vs, rfl, SqT.of h, fun p hp => ?_⟩
    have gr := grown cf1 hp (o := .tup vs.reverse)
    exact kk (.d (.tup _)) _ _ _ _ gr.1 (e1.trans gr.2) (new_tup cf1 hp g.reverse) q
  · cases ed
end
end DL
set_option Elab.async false
set_option linter.all false
set_option maxRecDepth 100000
set_option maxHeartbeats 1000000
/-! DP4: how the readings of EnT are worked out -/
namespace DL
open PySem PySem.Spec L2
theorem bt_bool : bootBuiltins "bool" = some (.type "bool") := by decide +kernel
def AsT (ss : List S) (P : List D → Prop) : Prop := match ss with
  | [.d (.tup a)] => P a
  | _ => False
theorem e_enT {fs : WA} {sl : Sl} {mu : Mu} {A : List D → Mu → Prop} (q : fs sl mu fun ss mu1 => AsT ss fun a => A (enumD 0 a) mu1) : wEnT fs sl mu A := q
theorem e_asT {a : List D} {P : List D → Prop} (q : P a) : AsT [.d (.tup a)] P := q
end DL
set_option Elab.async false
set_option linter.all false
set_option maxRecDepth 100000
set_option maxHeartbeats 1600000
/-! SC1: {e for x in xs for y in ys}, turn by turn; a key added to a set -/
namespace DL
open PySem PySem.Spec L2 PyProof.Rows
section
variable {P : Program} {w : World} {κ : Type} [DecidableEq κ] {kd : PySem.KeyKind P w κ} {A : Around} {E : Value → Shared → Prop} {s : Shared} {a : Addr}
theorem SetG.cls {h : Heap} {ks : List κ} (G : SetG kd h a ks) : ∃ ob, h.get? a = some ob ∧ ob.cls = .type "set" ∧ ∀ v, ob.data ≠ .cell v := by
  obtain ⟨ob, el, ec, tb, ms, h1, h2, h3, _⟩ := G
  exact ⟨ob, h1, h2.1, fun v z => by rw [h3] at z; cases z⟩
theorem call_addG {k : κ} {x : Value} {ks : List κ} {Q : Value → Shared → Prop} (is : kd.is k x = true) (sc : x.scannable = true) (G : SetG kd s.heap a ks) (room : ks.length + 1 < scanBound)
    (fin : ∀ h2, Heap.SameBut a s.heap h2 → SetG kd h2 a (withK ks k) → Q .none { s with heap := h2, toks := s.toks + 1 }) : wpAny (model P w) A (call (.builtin "set.add") [.ref a, x]) Q E s := by
  obtain ⟨ob, h1, h2, _⟩ := G.cls
  have ty : s.TypeIs (.ref a) "set" := ⟨ob, h1, h2⟩
  refine wpAny_call_entry F.slot_set_add ty F.entry_set_add ?_ (F.args_set_add_2 _ _)
  simp only [Builtin.«set.add», Builtin.Frozenset.oneOther, List.isEmpty_nil, bind_assoc, Builtin.Frozenset.addrOf]
  refine wpAny_bind (wpAny_pure ?_)
  try dsimp only
  refine wpAny_bind (wpAny_pure (wpAny_bind ?_))
  unfold setAdd
  refine wpAny_holding (wpAny_bind (kd.pyHash is (addG (s := { s with toks := s.toks + 1 }) is sc G room fun h3 sb G3 b => ?_)))
  show wpAny _ _ (ret Value.none) _ _ _
  exact wpAny_pure ⟨_, rfl, fin h3 sb G3⟩
end
section
variable {P : Program} {w : World} {A : Around} {R : Result → Shared → Prop} {s : Shared} {ea ta ia tb ib : Expr} {sc : Scope} {po : Pos} {it acc : Value} {env : Env}
abbrev SX (ea ta ia tb ib : Expr) (sc : Scope) (po : Pos) : Expr := .SetComp ea [⟨ta, ia, [], 0⟩, ⟨tb, ib, [], 0⟩] sc po
theorem sx_turn0 : compTurn (SX ea ta ia tb ib sc po) 0 it acc env = (do
      standAt ia.pos
      match ← pyNext it with
      | none => pure (.done .next)
      | some u =>
        letOwnedTupleGo ta it u
        assign ta env u
        let mut go := true
        for c in ([] : List Expr) do
          if go then go ← isTrue c env (eval c env)
        if go then
          let y ← eval ib env
          standAt ib.pos
          let y ← foldedSetIterable ib env y
          let _ ← runOwn (.compStart (SX ea ta ia tb ib sc po) 1 (← holding [y] (pyIter y)) acc env) env
        again (.compLoop (SX ea ta ia tb ib sc po) 0 it acc env)) := by rfl
theorem sx_turn1 : compTurn (SX ea ta ia tb ib sc po) 1 it acc env = (do
      standAt ib.pos
      match ← pyNext it with
      | none => pure (.done .next)
      | some u =>
        letOwnedTupleGo tb it u
        assign tb env u
        let mut go := true
        for c in ([] : List Expr) do
          if go then go ← isTrue c env (eval c env)
        if go then
          (do let y ← eval ea env; standAt ea.pos; let _ ← call (.builtin "set.add") [acc, y])
        again (.compLoop (SX ea ta ia tb ib sc po) 1 it acc env)) := by rfl
abbrev nay : Value → Shared → Prop := fun _ _ => False
theorem sx_loop0 (hs : ∀ y, foldedSetIterable ib env y = pure y) (J : Nat → Shared → Prop)
    (step : ∀ n s, J n s → wpAny (model P w) A (pyNext it) (fun r s1 => match r with
      | none => R (.ok .next) s1
      | some u => wpAny (model P w) A (letOwnedTupleGo ta it u) (fun _ s2 => wpAny (model P w) A (assign ta env u) (fun _ s3 => wpAny (model P w) A (eval ib env) (fun y s4 => wpAny (model P w) A (pyIter y) (fun it1 s5 =>
          codeAny (model P w) A (.compStart (SX ea ta ia tb ib sc po) 1 it1 acc env) (fun r s6 => match r with
            | .ok _ => ∃ m, m < n ∧ J m s6
            | .error _ => False) s5) nay s4) nay s3) nay s2) nay s1) nay s)
    (n : Nat) (h : J n s) : codeAny (model P w) A (.compLoop (SX ea ta ia tb ib sc po) 0 it acc env) R s := by
  refine codeAny_loop rfl J (fun n s hJ => ?_) n h
  show wpAny _ A ((compTurn (SX ea ta ia tb ib sc po) 0 it acc env).onRaise (fun x => do noteFrame x env; theTreesLotGoes x)) _ _ s
  refine wpAny_noted ?_
  rw [sx_turn0]
  refine wpAny_bind (wpAny_standAt (wpAny_bind (thnF (step n s hJ) fun r s1 h1 => ?_)))
  cases r with
  | none => exact wpAny_pure h1
  | some u =>
    refine wpAny_bind (thnF h1 fun _ s2 h2 => wpAny_bind (thnF h2 fun _ s3 h3 => wpAny_bind (wpAny_tests_nil ?_)))
    refine wpAny_bind (thnF h3 fun y s4 h4 => wpAny_bind (wpAny_standAt (wpAny_bind (wpAny_of_eq (hs y) (wpAny_bind (wpAny_holding (thnF h4 fun it1 s5 h5 => ?_)))))))
    refine wpAny_bind (wpAny_runOwn ?_)
    rw [Around.mark_none]
    refine codeAny_mono h5 fun r s6 hr => ?_
    cases r with
    | ok f => first | exact wpAny_pure ⟨rfl, hr⟩ | exact wpAny_bind (wpAny_pure (wpAny_pure ⟨rfl, hr⟩))
    | error e => exact hr.elim
theorem sx_loop1 (J : Nat → Shared → Prop)
    (step : ∀ n s, J n s → wpAny (model P w) A (pyNext it) (fun r s1 => match r with
      | none => R (.ok .next) s1
      | some u => wpAny (model P w) A (letOwnedTupleGo tb it u) (fun _ s2 => wpAny (model P w) A (assign tb env u) (fun _ s3 => wpAny (model P w) A (eval ea env) (fun y s4 =>
          wpAny (model P w) A (call (.builtin "set.add") [acc, y]) (fun _ s5 => ∃ m, m < n ∧ J m s5) nay s4) nay s3) nay s2) nay s1) nay s)
    (n : Nat) (h : J n s) : codeAny (model P w) A (.compLoop (SX ea ta ia tb ib sc po) 1 it acc env) R s := by
  refine codeAny_loop rfl J (fun n s hJ => ?_) n h
  show wpAny _ A ((compTurn (SX ea ta ia tb ib sc po) 1 it acc env).onRaise (fun x => do noteFrame x env; theTreesLotGoes x)) _ _ s
  refine wpAny_noted ?_
  rw [sx_turn1]
  refine wpAny_bind (wpAny_standAt (wpAny_bind (thnF (step n s hJ) fun r s1 h1 => ?_)))
  cases r with
  | none => exact wpAny_pure h1
  | some u =>
    refine wpAny_bind (thnF h1 fun _ s2 h2 => wpAny_bind (thnF h2 fun _ s3 h3 => wpAny_bind (wpAny_tests_nil ?_)))
    exact wpAny_bind (wpAny_bind (thnF h3 fun y s4 h4 => wpAny_bind (wpAny_standAt (wpAny_bind (thnF h4 fun _ s5 h5 => wpAny_pure (wpAny_pure ⟨rfl, h5⟩))))))
theorem sx_start1 (h0 : codeAny (model P w) A (.compLoop (SX ea ta ia tb ib sc po) 1 it acc env) R s)
    (h : wpAny (model P w) A (pyIter it) (fun it1 s1 => codeAny (model P w) A (.compLoop (SX ea ta ia tb ib sc po) 1 it1 acc env) R s1) nay s) :
    codeAny (model P w) A (.compStart (SX ea ta ia tb ib sc po) 1 it acc env) R s := by
  refine codeAny_of_tree ?_
  show wpAny _ A ((compStart (SX ea ta ia tb ib sc po) 1 it acc env).onRaise (fun x => do noteFrame x env; standAt theWindowsPlace)) _ _ s
  refine wpAny_notedAt ?_
  unfold compStart
  show wpAny _ A (ask >>= _) _ _ s
  refine wpAny_bind (wpAny_askSetting (wpAny_ite ?_))
  split
  · first | exact wpAny_bind (wpAny_pure (wpAny_pure ⟨rfl, h0⟩)) | exact wpAny_pure ⟨rfl, h0⟩
  · first
      | exact wpAny_bind (wpAny_rule (wpAny_bind (wpAny_standAt (wpAny_bind (thnF h fun it1 s1 h1 => wpAny_pure ⟨rfl, h1⟩)))))
      | (refine wpAny_bind (wpAny_rule ?_); show wpAny _ A (standAt ib.pos >>= _) _ _ s; exact wpAny_bind (wpAny_standAt (wpAny_bind (thnF h fun it1 s1 h1 => wpAny_pure ⟨rfl, h1⟩))))
end
end DL
set_option Elab.async false
set_option linter.all false
set_option maxRecDepth 100000
set_option maxHeartbeats 3200000
/-! SC2: {e for x in xs for y in ys} of texts -/
namespace DL
open PySem PySem.Spec L2 PyProof.Rows
section
variable {X : Cx}
abbrev TxG (X : Cx) (h : Heap) (a : Addr) (ks : List Str) : Prop := SetG (PySem.strKind X.prog X.w) h a ks
/-- the first source, its turns, the second one's turns, with what stands in the set -/
def tSx (wi : TI) (g : TG) (wi1 : TI) (g1 : TG) (te : TE) (vs vs1 : List Nat) : L2.St → Hp → (List Str → Hp → Prop) → Prop := fun σ H Q =>
  wi σ H fun J H1 => ∃ W : Nat → Nat → List Str → Hp → Prop, (∃ m, W 0 m [] H1) ∧ ∀ i m ks H2, W i m ks H2 →
    (J.stop i H2 ∧ Q ks H2) ∨ (J.go i H2 ∧ ∃ Nx : List Str → Hp → Prop, (∀ ks' H', Nx ks' H' → ∃ m', m' < m ∧ W (i + 1) m' ks' H') ∧
      ∀ x H3, J.yld i H2 x H3 → g x (wipe σ vs) H3 fun σ2 H4 => wipe σ2 vs = wipe σ vs ∧
        wi1 σ2 H4 fun J1 H5 => ∃ W1 : Nat → Nat → List Str → Hp → Prop, (∃ m, W1 0 m ks H5) ∧ ∀ j n ks1 H6, W1 j n ks1 H6 →
          (J1.stop j H6 ∧ Nx ks1 H6) ∨ (J1.go j H6 ∧ ∃ N1 : List Str → Hp → Prop, (∀ ks' H', N1 ks' H' → ∃ n', n' < n ∧ W1 (j + 1) n' ks' H') ∧
            ∀ x H7, J1.yld j H6 x H7 → g1 x (wipe σ2 vs1) H7 fun σ3 H8 => wipe σ3 vs1 = wipe σ2 vs1 ∧ te σ3 H8 fun y H9 => ∃ z, y = .str z ∧ ks1.length + 1 < scanBound ∧ N1 (withK ks1 z) H9))
theorem keepD {Y : Cx} {pins : List (Addr × Obj)} {σ : L2.St} {H : Hp} {s s0 : Shared} {D : Addr} {ks : List Str} (G : TxG X s0.heap D ks) (I : Inv Y (pins ++ pinsAt [D] s0.heap) σ H s) : TxG X s.heap D ks ∧ H D = none := by
  obtain ⟨ob, e, _⟩ := G.cls
  have p := I.pin (D, ob) (List.mem_append_right _ (List.mem_append_right _ (mem_pinsAt (List.mem_cons_self ..) e)))
  refine ⟨G.at fun o2 e2 => ?_, p.2.1⟩
  rw [e] at e2
  cases e2
  exact p.1
theorem hasS {h : Heap} {D : Addr} {ks : List Str} (G : TxG X h D ks) : ∀ b ∈ [D], ∃ o, h.get? b = some o ∧ ∀ v, o.data ≠ .cell v := fun b hb => by
  rw [List.mem_singleton.mp hb]
  obtain ⟨ob, e, _, d⟩ := G.cls
  exact ⟨ob, e, d⟩
theorem sx_core {pins : List (Addr × Obj)} {s : Shared} {σ : L2.St} {H : Hp} {Q : List Str → Hp → Prop} {ea ta ia tb ib : Expr} {sc : Scope} {own : List (Str × Nat)} {vs1 : List Nat} {po : Pos} {wi wi1 : TI} {g g1 : TG} {te : TE} {Qf : Value → Shared → Prop}
    (hc : X.calm = true) (hN : X.N.Nodup) (I : Inv X pins σ H s) (hi : PI X ta ia wi) (ok : BlkOk X.N X.env.scope sc own) (hv : ∀ i ∈ vs1, i ∈ own.map (·.2))
    (hg : ∀ (s : Shared) (H : Hp) (C : Addr) (cl : List (Str × Addr)) (fp : List Addr), PG (X.blk s H sc (compEnvC sc cl C X.env) fp) ta g)
    (hi1 : ∀ (s : Shared) (H : Hp) (C : Addr) (cl : List (Str × Addr)) (fp : List Addr), PI (X.blk s H sc (compEnvC sc cl C X.env) fp) tb ib wi1)
    (hg1 : ∀ (s : Shared) (H : Hp) (C : Addr) (cl : List (Str × Addr)) (fp : List Addr), PG (X.blk s H sc (compEnvC sc cl C X.env) fp) tb g1)
    (he : ∀ (s : Shared) (H : Hp) (C : Addr) (cl : List (Str × Addr)) (fp : List Addr), PE (X.blk s H sc (compEnvC sc cl C X.env) fp) ea te)
    (hs : ∀ y, foldedSetIterable ia X.env y = pure y) (hs1 : ∀ env y, foldedSetIterable ib env y = pure y)
    (h : tSx wi g wi1 g1 te (own.map (·.2)) vs1 σ H Q) (fin : ∀ D ks s1 H1, Inv X pins σ H1 s1 → TxG X s1.heap D ks → Q ks H1 → Qf (.ref D) s1) :
    wpAny (model X.prog X.w) X.A (eval (SX ea ta ia tb ib sc po) X.env) Qf X.xe s := by
  rw [arm_eval_SetComp]
  have hfree : ∀ y ∈ sc.names, y.2 = .free → ∃ c, X.env.cells.lookup y.1 = some c := fun y hy e => (ok.free y hy e).elim (fun k => I.ok.has _ (.inl k)) fun k => I.ok.has _ (.inr k)
  refine wpAny_comprehension_free (use := none) rfl hs (closure_ok hfree) ok.kind (fun y hy e => by rw [ok.uniq y hy, e]) (thn (hi.run pins s σ H _ I h) fun yv s1 h1 => thn h1 fun itv s2 h2 => ?_)
  obtain ⟨it, fp, tn, J, H2, e, I2, T, st2, f2, W, ⟨m0, w0⟩, turn⟩ := h2
  subst e
  refine wpAny_newSet_raw fun led hled => newEnv_comp ?_
  subst hled
  generalize hD : s2.heap.objs.size = D
  have hDn : H2 D = none := I2.hok.fresh (Nat.le_of_eq hD)
  generalize hs3 : ({ s2 with heap := s2.heap.push { cls := .type "set", dict := none, data := .set #[] 0 (.fresh 0 0 (!(X.w.params.followText "set-order"))) } } : Shared) = s3
  have kp : ∀ b o, s2.heap.get? b = some o → s3.heap.get? b = some o := fun b o e => by
    rw [← hs3]
    exact Heap.get?_push_of_some _ e
  have I3 : Inv X pins σ H2 s3 := by
    rw [← hs3]
    exact I2.kept (t' := s2.toks) fun b o e => Heap.get?_push_of_some _ e
  have G3 : TxG X s3.heap D [] := by
    refine setG_naked ?_
    rw [← hs3, ← hD]
    exact Heap.get?_push_size _ rfl
  have size3 : s3.heap.objs.size = D + 1 := by
    rw [← hs3, ← hD]
    exact Heap.size_push ..
  have lt : ∀ b ∈ fp, b < D := fun b hb => by
    obtain ⟨o, e, _⟩ := T.obj _ _ st2 b hb
    rw [← hD]
    exact Heap.lt_size e
  have f3 : ∀ b ∈ D :: fp, FpOk X pins H2 b ∧ b < s3.heap.objs.size := fun b hb => by
    rcases List.mem_cons.mp hb with z | z
    · rw [z, size3]
      exact ⟨I2.fpOk (Nat.le_of_eq hD) hDn, Nat.lt_succ_self _⟩
    · rw [size3]
      exact ⟨f2 b z, Nat.lt_succ_of_lt (lt b z)⟩
  have st3 : tn 0 s3.heap := T.keep _ _ _ st2 fun b _ o e => kp b o e
  have I4 := block_start I3 ok hN f3
  have pg := hg s3 H2 s3.heap.objs.size (cellsFrom (s3.heap.objs.size + 1) sc.names (cloFrom X.env.cells sc.names [])) (D :: fp)
  have pi1 := hi1 s3 H2 s3.heap.objs.size (cellsFrom (s3.heap.objs.size + 1) sc.names (cloFrom X.env.cells sc.names [])) (D :: fp)
  have pg1 := hg1 s3 H2 s3.heap.objs.size (cellsFrom (s3.heap.objs.size + 1) sc.names (cloFrom X.env.cells sc.names [])) (D :: fp)
  have pe := he s3 H2 s3.heap.objs.size (cellsFrom (s3.heap.objs.size + 1) sc.names (cloFrom X.env.cells sc.names [])) (D :: fp)
  show codeAny _ _ (.compStart (SX ea ta ia tb ib sc po) 0 (.ref it) (.ref D) (compEnvC sc (cellsFrom (s3.heap.objs.size + 1) sc.names (cloFrom X.env.cells sc.names [])) s3.heap.objs.size X.env))
    (compPost (model X.prog X.w) X.A X.xe none Qf (.ref D) s3.heap.objs.size) { s3 with heap := pushCells (s3.heap.push { cls := .type "dict", data := .dict #[] }) sc.names }
  generalize hce : compEnvC sc (cellsFrom (s3.heap.objs.size + 1) sc.names (cloFrom X.env.cells sc.names [])) s3.heap.objs.size X.env = ce at I4 pg pi1 pg1 pe ⊢
  have cL : ce.locals = s3.heap.objs.size := by
    subst hce
    rfl
  have kp4 : ∀ b o, s3.heap.get? b = some o → (pushCells (s3.heap.push { cls := .type "dict", data := .dict #[] }) sc.names).get? b = some o := fun b o e => pushCells_keeps _ _ _ _ (Heap.get?_push_of_some _ e)
  generalize hs4 : ({ s3 with heap := pushCells (s3.heap.push { cls := .type "dict", data := .dict #[] }) sc.names } : Shared) = s4 at I4 ⊢
  have st4 : tn 0 s4.heap := T.keep _ _ _ st3 fun b _ o e => by
    rw [← hs4]
    exact kp4 b o e
  have G4 : TxG X s4.heap D [] := G3.at fun o e => by
    rw [← hs4]
    exact kp4 D o e
  have n4 : ∀ b ∈ D :: fp, H2 b = none := fun b hb => (f3 b hb).1.1
  -- what stays true of the set and of the first iterator's objects
  have stat : ∀ {pn : List (Addr × Obj)} {σ' : L2.St} {H' : Hp} {s' : Shared}, Inv (X.blk s3 H2 sc ce (D :: fp)) pn σ' H' s' → ∀ b ∈ D :: fp, H' b = none → (∀ p ∈ pn, p.1 ≠ b) → FpOk (X.blk s3 H2 sc ce (D :: fp)) pn H' b := fun {pn σ' H' s'} I' b hb hn hp =>
    ⟨hn, (I'.ok.exf b hb).1, I'.ok.exfs b hb, .inl hb, fun y c e => (I'.ok.exf b hb).2 y c e, fun p z => (List.mem_append.mp z).elim (fun z => by cases z) fun z => hp p z⟩
  have pinD : ∀ {h : Heap} {p : Addr × Obj}, p ∈ pinsAt [D] h → p.1 = D := fun {h p} z => List.mem_singleton.mp (of_pinsAt z).1
  have only : ∀ {pn : List (Addr × Obj)} {σ' : L2.St} {H' : Hp} {s' : Shared}, Inv (X.blk s3 H2 sc ce (D :: fp)) pn σ' H' s' → H' D = none → (∀ p ∈ pn, p.1 ≠ D) → ∀ b ∈ [D], FpOk (X.blk s3 H2 sc ce (D :: fp)) pn H' b := fun {pn σ' H' s'} I' hn hp b hb => by
    rw [List.mem_singleton.mp hb]
    exact stat I' D (List.mem_cons_self ..) hn hp
  have loop : codeAny (model X.prog X.w) X.A (.compLoop (SX ea ta ia tb ib sc po) 0 (.ref it) (.ref D) ce) (compPost (model X.prog X.w) X.A X.xe none Qf (.ref D) s3.heap.objs.size) s4 := by
    refine sx_loop0 (hs1 ce) (fun n s' => ∃ i H' ks, Inv (X.blk s3 H2 sc ce (D :: fp)) [] (wipe σ (own.map (·.2))) H' s' ∧ tn i s'.heap ∧ (∀ b ∈ D :: fp, H' b = none) ∧ TxG X s'.heap D ks ∧ W i n ks H') ?_ m0 ⟨0, H2, [], I4, st4, n4, G4, w0⟩
    rintro n s5 ⟨i, H5, ks, I5, st5, n5, G5, w5⟩
    have d5 := n5 D (List.mem_cons_self ..)
    have P5 := I5.pinned (only I5 d5 fun p hp => by cases hp) (hasS G5)
    have f5 : ∀ b ∈ fp, FpOk (X.blk s3 H2 sc ce (D :: fp)) ([] ++ pinsAt [D] s5.heap) H5 b := fun b hb => stat P5 b (List.mem_cons_of_mem _ hb) (n5 b (List.mem_cons_of_mem _ hb)) fun p hp => by
      rw [pinD hp]
      exact fun z => absurd (lt b hb) (by rw [← z]; exact Nat.lt_irrefl _)
    rcases turn i n ks H5 w5 with ⟨stop, qq⟩ | ⟨go, Nx, hNx, step⟩
    · refine thnF (T.done (X.blk s3 H2 sc ce (D :: fp)) rfl rfl rfl hc i _ s5 _ H5 nay P5 f5 st5 stop) fun r s6 ⟨hr, I6⟩ => ?_
      subst hr
      obtain ⟨G6, d6⟩ := keepD G5 I6
      have I7 : Inv X pins σ H5 s6 := I3.call' (ch := D :: fp) I6.os I6.base I6.hok I6.bare fun b hb => ⟨(f3 b hb).1.2.2.2.1, (f3 b hb).1.2.1, (f3 b hb).1.2.2.2.2.1, (f3 b hb).1.2.2.2.2.2⟩
      have nC : H5 s3.heap.objs.size = none := by
        have z : H5 ce.locals = none := I6.free
        rw [cL] at z
        exact z
      obtain ⟨m, hn, _⟩ := I6.loc
      have hn : s6.heap.Ns ce.locals m := hn
      rw [cL] at hn
      obtain ⟨a0, a1, a2, a3, a4, a5⟩ := I3.fpOk (Nat.le_refl _) nC
      refine ⟨m, hn, fun h7 sb => fin D ks _ H5 (I7.turned (t' := s6.toks) (fun b o hb e => (sb.2 b hb).trans e) a0 a1 a3 a4 a5) (G6.at fun o e => (sb.2 D ?_).trans e) qq⟩
      rw [size3]
      exact Nat.ne_of_lt (Nat.lt_succ_self _)
    · refine thnF (T.item (X.blk s3 H2 sc ce (D :: fp)) rfl rfl rfl hc i _ s5 _ H5 nay P5 f5 st5 go) fun r s6 ⟨u, hr, h6⟩ => ?_
      subst hr
      refine thnF h6 fun _ s7 ⟨x, H7, I7, r7, y7, st7, n7⟩ => ?_
      obtain ⟨G7, d7⟩ := keepD G5 I7
      have I7u := I7.unpinned (pins := [])
      have I8 := I7u.pinned (fp := fp) (fun b hb => stat I7u b (List.mem_cons_of_mem _ hb) (n7 b hb) fun p hp => by cases hp) (T.obj _ _ st7)
      have pinF : ∀ p ∈ ([] : List (Addr × Obj)) ++ pinsAt fp s7.heap, p.1 ≠ D := fun p hp z => by
        have := lt p.1 (of_pinsAt hp).1
        rw [z] at this
        exact Nat.lt_irrefl _ this
      have I9 := I8.pinned (only I8 d7 pinF) (hasS G7)
      refine thnF (pg.run _ s7 _ H7 x u _ I9 r7 (step x H7 y7)) fun _ s8 ⟨σ8, H8, J8, hw8, q8⟩ => ?_
      refine thnF (pi1.run _ s8 σ8 H8 _ J8 q8) fun yv s9 h9 => thnF h9 fun itv s10 h10 => ?_
      obtain ⟨it1, fp1, tn1, J1, H10, e1, I10, T1, st10, f10, W1, ⟨m1, w1⟩, turn1⟩ := h10
      subst e1
      obtain ⟨G10, d10⟩ := keepD G7 I10
      have I10u := I10.unpinned
      have apart : ∀ b ∈ fp1, b ≠ D := fun b hb z => by
        obtain ⟨ob, e, _⟩ := G7.cls
        exact (f10 b hb).2.2.2.2.2 (D, ob) (List.mem_append_right _ (List.mem_append_right _ (mem_pinsAt (List.mem_cons_self ..) e))) z.symm
      -- the second iterator's objects, with more pinned or less
      have stat1 : ∀ {H' : Hp}, (∀ b ∈ fp1, H' b = none) → ∀ b ∈ fp1, FpOk (X.blk s3 H2 sc ce (D :: fp)) ([] ++ pinsAt fp s7.heap) H' b := fun hn b hb =>
        ⟨hn b hb, (f10 b hb).2.1, (f10 b hb).2.2.1, (f10 b hb).2.2.2.1, (f10 b hb).2.2.2.2.1, fun p hp => (f10 b hb).2.2.2.2.2 p ((List.mem_append.mp hp).elim (fun z => List.mem_append_left _ z) fun z => List.mem_append_right _ (List.mem_append_left _ z))⟩
      have stat2 : ∀ {H' : Hp} {hp : Heap}, (∀ b ∈ fp1, H' b = none) → ∀ b ∈ fp1, FpOk (X.blk s3 H2 sc ce (D :: fp)) (([] ++ pinsAt fp s7.heap) ++ pinsAt [D] hp) H' b := fun hn b hb => by
        obtain ⟨a0, a1, a2, a3, a4, a5⟩ := stat1 hn b hb
        refine ⟨a0, a1, a2, a3, a4, fun p z => ?_⟩
        rcases List.mem_append.mp z with z | z
        · exact a5 p (List.mem_append_left _ z)
        · rcases List.mem_append.mp z with z | z
          · exact a5 p (List.mem_append_right _ z)
          · rw [pinD z]
            exact (apart b hb).symm
      have hl8 : (wipe σ (own.map (·.2))).length = σ8.length := by rw [← hw8, wipe_length]
      have hk8 : ∀ (j : Nat) v, (wipe σ (own.map (·.2)))[j]? = some (some v) → (wipe σ8 vs1)[j]? = some (some v) := fun j v e => by
        rw [← hw8] at e
        obtain ⟨e1, e2⟩ := wipe_some e
        rw [wipe_out fun z => e2 (hv j z)]
        exact e1
      have loop1 : codeAny (model X.prog X.w) X.A (.compLoop (SX ea ta ia tb ib sc po) 1 (.ref it1) (.ref D) ce) (fun r s' => match r with
          | .ok _ => ∃ m, m < n ∧ ∃ i H' ks, Inv (X.blk s3 H2 sc ce (D :: fp)) [] (wipe σ (own.map (·.2))) H' s' ∧ tn i s'.heap ∧ (∀ b ∈ D :: fp, H' b = none) ∧ TxG X s'.heap D ks ∧ W i m ks H'
          | .error _ => False) s10 := by
        refine sx_loop1 (fun k s' => ∃ j H' ks1, Inv (X.blk s3 H2 sc ce (D :: fp)) ([] ++ pinsAt fp s7.heap) (wipe σ8 vs1) H' s' ∧ tn1 j s'.heap ∧ (∀ b ∈ fp1, H' b = none) ∧ H' D = none ∧ TxG X s'.heap D ks1 ∧ W1 j k ks1 H') ?_ m1
          ⟨0, H10, ks, I10u.weak (wipe_length _ _) (fun j v e => (wipe_some e).1), st10, fun b hb => (f10 b hb).1, d10, G10, w1⟩
        rintro k s12 ⟨j, H12, ks1, I12, st12, n12, d12, G12, w12⟩
        have P12 := I12.pinned (only I12 d12 pinF) (hasS G12)
        rcases turn1 j k ks1 H12 w12 with ⟨stop1, nx1⟩ | ⟨go1, N1, hN1, step1⟩
        · refine thnF (T1.done (X.blk s3 H2 sc ce (D :: fp)) rfl rfl rfl hc j _ s12 _ H12 nay P12 (stat2 n12) st12 stop1) fun r s13 ⟨hr, I13⟩ => ?_
          subst hr
          obtain ⟨G13, d13⟩ := keepD G12 I13
          have I13u := I13.unpinned
          obtain ⟨m', hm, w'⟩ := hNx ks1 H12 nx1
          have stay : ∀ b ∈ fp, ∀ o, s7.heap.get? b = some o → s13.heap.get? b = some o ∧ H12 b = none := fun b hb o e =>
            let z := I13u.pin (b, o) (List.mem_append_right _ (List.mem_append_right _ (mem_pinsAt hb e)))
            ⟨z.1, z.2.1⟩
          refine ⟨m', hm, i + 1, H12, ks1, (I13u.unpinned (pins := [])).weak (hl8.trans (wipe_length σ8 vs1).symm) hk8, T.keep _ _ _ st7 fun b hb o e => (stay b hb o e).1, fun b hb => ?_, G13, w'⟩
          rcases List.mem_cons.mp hb with z | z
          · rw [z]
            exact d13
          · obtain ⟨o, e, _⟩ := T.obj _ _ st7 b z
            exact (stay b z o e).2
        · refine thnF (T1.item (X.blk s3 H2 sc ce (D :: fp)) rfl rfl rfl hc j _ s12 _ H12 nay P12 (stat2 n12) st12 go1) fun r s13 ⟨u1, hr, h13⟩ => ?_
          subst hr
          refine thnF h13 fun _ s14 ⟨x1, H14, I14, r14, y14, st14, n14⟩ => ?_
          obtain ⟨G14, d14⟩ := keepD G12 I14
          have I14u := I14.unpinned
          have I15 := I14u.pinned (stat1 n14) (T1.obj _ _ st14)
          have pinF1 : ∀ p ∈ (([] : List (Addr × Obj)) ++ pinsAt fp s7.heap) ++ pinsAt fp1 s14.heap, p.1 ≠ D := fun p hp => (List.mem_append.mp hp).elim (fun z => pinF p z) fun z => apart p.1 (of_pinsAt z).1
          have I16 := I15.pinned (only I15 d14 pinF1) (hasS G14)
          refine thnF (pg1.run _ s14 (wipe σ8 vs1) H14 x1 u1 _ I16 r14 (step1 x1 H14 y14)) fun _ s15 ⟨σ15, H15, J15, hw15, q15⟩ => ?_
          refine thnF (pe.run _ s15 σ15 H15 _ J15 q15) fun v s17 ⟨yv, H17, I17, r17, z, ez, room, nx⟩ => ?_
          subst ez
          obtain ⟨tz, rfl⟩ := r17
          obtain ⟨G17, d17⟩ := keepD G14 I17
          have I17u := I17.unpinned
          refine call_addG (strKind_is X.prog X.w z tz) rfl G17 room fun h18 sb G18 => ?_
          obtain ⟨a0, a1, a2, a3, a4, a5⟩ := only I17u d17 pinF1 D (List.mem_cons_self ..)
          have I18 := I17u.turned (t' := s17.toks + 1) (fun b o hb e => (sb.2 b hb).trans e) a0 a1 a3 a4 a5
          obtain ⟨m', hm, w'⟩ := hN1 _ H17 nx
          have stay : ∀ b ∈ fp1, ∀ o, s14.heap.get? b = some o → h18.get? b = some o ∧ H17 b = none := fun b hb o e =>
            let z := I18.pin (b, o) (List.mem_append_right _ (List.mem_append_right _ (mem_pinsAt hb e)))
            ⟨z.1, z.2.1⟩
          refine ⟨m', hm, j + 1, H17, withK ks1 z, I18.unpinned.weak (by rw [← hw15, wipe_length]) (fun j v e => by rw [← hw15] at e; exact (wipe_some e).1), T1.keep _ _ _ st14 fun b hb o e => (stay b hb o e).1, fun b hb => ?_, d17, G18, w'⟩
          obtain ⟨o, e, _⟩ := T1.obj _ _ st14 b hb
          exact (stay b hb o e).2
      exact sx_start1 loop1 (T1.self X.A 0 _ _ _ st10 loop1)
  exact codeAny_compStart_set loop (T.self X.A 0 _ _ _ st4 loop)
end
end DL
set_option Elab.async false
set_option linter.all false
set_option maxRecDepth 100000
set_option maxHeartbeats 1600000
/-! SC3: sorted({e for x in xs for y in ys}) of texts, read off -/
namespace DL
open PySem PySem.Spec L2
def wSXi (g1 : WG) (te : WE) (sl1 : Sl) (F : List Str → Mu → Prop) : List D → List Str → Mu → Prop
  | [], ks, mu => F ks mu
  | d :: ds, ks, mu => On (g1 d sl1) fun sl2 => te sl2 mu fun s mu1 => match s with
    | .d (.str z) => ks.length < 60 ∧ wSXi g1 te sl1 F ds (withK ks z) mu1
    | _ => False
def wSXo (g : WG) (fi1 : WI) (g1 : WG) (te : WE) (vs1 : List Nat) (sl0 : Sl) (F : List Str → Mu → Prop) : List D → List Str → Mu → Prop
  | [], ks, mu => F ks mu
  | d :: ds, ks, mu => On (g d sl0) fun sl1 => fi1 sl1 mu fun ds1 mu1 => wSXi g1 te (wipeD sl1 vs1) (fun ks' mu' => wSXo g fi1 g1 te vs1 sl0 F ds ks' mu') ds1 ks mu1
def wSX (fi : WI) (g : WG) (fi1 : WI) (g1 : WG) (te : WE) (vs vs1 : List Nat) : WE := fun sl mu Q =>
  fi sl mu fun ds mu1 => wSXo g fi1 g1 te vs1 (wipeD sl vs) (fun ks mu2 => ks.length < 64 ∧ Q (.d (.lst ((sortS ks).map D.str))) mu2) ds [] mu1
theorem drop_at {α : Type} {xs : List α} {i : Nat} {x : α} (h : i < xs.length) (e : xs[i]? = some x) : xs.drop i = x :: xs.drop (i + 1) := by
  rw [List.drop_eq_getElem_cons h]
  rw [List.getElem?_eq_getElem h] at e
  cases e
  rfl
theorem sx_red {K : Frag} {fi fi1 : WI} {g g1 : WG} {te : WE} {vs vs1 : List Nat} {σ : L2.St} {H : Hp} {Q : VK} (q : tE K (wSX fi g fi1 g1 te vs vs1) σ H Q) :
    tSx (tI K fi) (tG K vs g) (tI K fi1) (tG K vs1 g1) (tE K te) vs vs1 σ H fun ks H1 => ks.length < 64 ∧ ∀ L, H1 L = none → Q (.ref L) (upd H1 L (.lst ((sortS ks).map V.str))) := by
  obtain ⟨ex, m, sl, mu, Qd, cf, sr, w, k⟩ := q
  refine ⟨ex, m, sl, mu, _, cf, sr, w, fun ds mu1 m1 H1 J cf1 e1 wk q1 => ?_⟩
  let P : Nat → List Str → Hp → Prop := fun i ks H2 => ∃ m2 mu2, Cfg K ex m2 mu2 H2 ∧ Ext ex m1 mu1 H1 m2 mu2 H2 ∧
    wSXo g fi1 g1 te vs1 (wipeD sl vs) (fun ks mu2 => ks.length < 64 ∧ Qd (.d (.lst ((sortS ks).map D.str))) mu2) (ds.drop i) ks mu2
  refine ⟨fun i n ks H2 => n = ds.length - i ∧ i ≤ ds.length ∧ P i ks H2, ⟨ds.length, by simp, Nat.zero_le _, m1, mu1, cf1, Ext.refl, by simpa using q1⟩, ?_⟩
  rintro i n ks H2 ⟨rfl, hi, m2, mu2, cf2, e2, w2⟩
  by_cases hlt : i < ds.length
  · refine .inr ⟨wk.go i _ m2 mu2 H2 hlt cf2 e2.le, P (i + 1), fun ks' H5 z => ⟨ds.length - (i + 1), by omega, rfl, hlt, z⟩, fun x H3 y => ?_⟩
    obtain ⟨d, ed, gr, r⟩ := wk.yld i _ m2 mu2 H2 x H3 hlt cf2 e2.le y
    rw [drop_at hlt ed] at w2
    obtain ⟨sl3, eg, w3⟩ := On.elim w2
    have e3 := e2.trans gr.2
    have sr3 : SlR K m2 (vw ex m2 mu2 H3) sl σ := (sr.ext e1).ext e3
    refine ⟨ex, m2, wipeD sl vs, mu2, d, sl3, gr.1, sr3.wipe vs, r, eg, fun σ4 sr4 ag => ⟨?_, ?_⟩⟩
    · refine (wipe_eq (σ := L2.wipe σ vs) ag.1 ag.2).trans ?_
      exact wipe_eq (by rw [wipe_length]) fun i hi => wipe_out hi
    refine ⟨ex, m2, sl3, mu2, _, gr.1, sr4, w3, fun ds1 mu5 m5 H5 J1 cf5 e5 wk1 q5 => ?_⟩
    let P1 : Nat → List Str → Hp → Prop := fun j ks1 H6 => ∃ m6 mu6, Cfg K ex m6 mu6 H6 ∧ Ext ex m5 mu5 H5 m6 mu6 H6 ∧
      wSXi g1 te (wipeD sl3 vs1) (fun ks' mu' => wSXo g fi1 g1 te vs1 (wipeD sl vs) (fun ks mu2 => ks.length < 64 ∧ Qd (.d (.lst ((sortS ks).map D.str))) mu2) (ds.drop (i + 1)) ks' mu') (ds1.drop j) ks1 mu6
    refine ⟨fun j n ks1 H6 => n = ds1.length - j ∧ j ≤ ds1.length ∧ P1 j ks1 H6, ⟨ds1.length, by simp, Nat.zero_le _, m5, mu5, cf5, Ext.refl, by simpa using q5⟩, ?_⟩
    rintro j n ks1 H6 ⟨rfl, hj, m6, mu6, cf6, e6, w6⟩
    by_cases hlt1 : j < ds1.length
    · refine .inr ⟨wk1.go j _ m6 mu6 H6 hlt1 cf6 e6.le, P1 (j + 1), fun ks' H7 z => ⟨ds1.length - (j + 1), by omega, rfl, hlt1, z⟩, fun x H7 y => ?_⟩
      obtain ⟨d1, ed1, gr1, r1⟩ := wk1.yld j _ m6 mu6 H6 x H7 hlt1 cf6 e6.le y
      rw [drop_at hlt1 ed1] at w6
      obtain ⟨sl5, eg1, w7⟩ := On.elim w6
      have e7 := e6.trans gr1.2
      have sr7 : SlR K m6 (vw ex m6 mu6 H7) sl3 σ4 := (sr4.ext e5).ext e7
      refine ⟨ex, m6, wipeD sl3 vs1, mu6, d1, sl5, gr1.1, sr7.wipe vs1, r1, eg1, fun σ5 sr5 ag1 => ⟨?_, ?_⟩⟩
      · refine (wipe_eq (σ := L2.wipe σ4 vs1) ag1.1 ag1.2).trans ?_
        exact wipe_eq (by rw [wipe_length]) fun i hi => wipe_out hi
      refine ⟨ex, m6, sl5, mu6, _, gr1.1, sr5, w7, fun s mu8 m8 H8 v8 cf8 e8 r8 q8 => ?_⟩
      split at q8
      · rename_i z
        simp only [RS, R] at r8
        exact ⟨z, r8, by unfold scanBound; omega, m8, mu8, cf8, e7.trans e8, q8.2⟩
      · exact q8.elim
    · have ej : j = ds1.length := by omega
      subst ej
      rw [List.drop_length] at w6
      exact .inl ⟨wk1.stop _ m6 mu6 H6 cf6 e6.le, m6, mu6, cf6, ((e2.trans gr.2).trans e5).trans e6, w6⟩
  · have ei : i = ds.length := by omega
    subst ei
    rw [List.drop_length] at w2
    obtain ⟨few, w2⟩ : _ ∧ _ := w2
    exact .inl ⟨wk.stop _ m2 mu2 H2 cf2 e2.le, few, fun L hL => k (.d (.lst ((sortS ks).map D.str))) mu2 m2 _ _ (grown cf2 hL).1 ((e1.trans e2).trans (grown cf2 hL).2) (new_lst cf2 hL (rs_strs _)) w2⟩
theorem rg_more {X : Cx} {tg : Expr} {vs ws : List Nat} {g : WG} (h : RG X tg vs g) (hv : ∀ i ∈ vs, i ∈ ws) : RG X tg ws g := by
  refine pg_imp h fun v σ H Q q => ?_
  obtain ⟨ex, m, sl, mu, d, sl2, cf, sr, r, e, k⟩ := q
  exact ⟨ex, m, sl, mu, d, sl2, cf, sr, r, e, fun τ srt ag => k τ srt ⟨ag.1, fun i hi => ag.2 i fun z => hi (hv i z)⟩⟩
section
variable {X : Cx} {pos : Pos} {ea ta ia tb ib : Expr} {sc : Scope} {own : List (Str × Nat)} {vs1 : List Nat} {fi fi1 : WI} {g g1 : WG} {te : WE} {p q : Pos}
/-- sorted({e for x in xs for y in ys}) -/
theorem re_sortSX (hc : X.calm = true) (hN : X.N.Nodup) (hb : Gl X "sorted") (hm : X.mg "sorted" = none) (hi : RI X ta ia fi) (ok : BlkOk X.N X.env.scope sc own) (hv : ∀ i ∈ vs1, i ∈ own.map (·.2))
    (hg : ∀ (s : Shared) (H : Hp) (C : Addr) (cl : List (Str × Addr)) (fp : List Addr), RG (X.blk s H sc (compEnvC sc cl C X.env) fp) ta (own.map (·.2)) g)
    (hi1 : ∀ (s : Shared) (H : Hp) (C : Addr) (cl : List (Str × Addr)) (fp : List Addr), RI (X.blk s H sc (compEnvC sc cl C X.env) fp) tb ib fi1)
    (hg1 : ∀ (s : Shared) (H : Hp) (C : Addr) (cl : List (Str × Addr)) (fp : List Addr), RG (X.blk s H sc (compEnvC sc cl C X.env) fp) tb vs1 g1)
    (he : ∀ (s : Shared) (H : Hp) (C : Addr) (cl : List (Str × Addr)) (fp : List Addr), RE (X.blk s H sc (compEnvC sc cl C X.env) fp) ea te)
    (hs : ∀ x, foldedSetIterable ia X.env x = pure x := by intro _; rfl) (hs1 : ∀ env x, foldedSetIterable ib env x = pure x := by intro _ _; rfl) :
    RE X (.Call (.Name "sorted" p) [SX ea ta ia tb ib sc q] [] pos) (wSX fi g fi1 g1 te (own.map (·.2)) vs1) := by
  refine ⟨fun pins s σ H Q I h => ?_⟩
  refine PyProof.Rows.Call_ (ld_blt I hb hm bt_sorted ?_)
  refine PyProof.Rows.callWith_builtin1 (PyProof.Rows.args_cons ?_ rfl) rfl rfl
  refine sx_core (wi := tI X.K fi) (g := tG X.K (own.map fun (p : Str × Nat) => p.2) g) (wi1 := tI X.K fi1) (g1 := tG X.K vs1 g1) (te := tE X.K te) hc hN I hi ok hv hg hi1 hg1 he hs hs1 (sx_red h) fun D ks s1 H1 I1 G ⟨few, kq⟩ => ?_
  refine PyProof.Rows.args_nil ?_
  exact sort_run I1 few (gath_set (by rw [Around.in1_handled]; exact I1.ok.hd hc) G) fun L hL => kq L hL
end
end DL
set_option Elab.async false
set_option linter.all false
set_option maxRecDepth 100000
set_option maxHeartbeats 1600000
/-! InT: in, of tuples whose items are data of any depth -/
namespace DL
open PySem PySem.Spec L2 PyProof.Rows
def dInT (neg : Bool) : G2 := fun s1 s2 mu => (pk s1 mu).bind fun a => (pk s2 mu).bind fun b => (toPy a).bind fun p => (toPy b).bind fun q => match q with
  | .tuple qs => if SeqAt.shaped p && SeqAt.shaped (.tuple qs) then some (.bl (if neg then !(qs.any fun z => PyData.eqv z p) else qs.any fun z => PyData.eqv z p)) else none
  | _ => none
theorem dInT_inv {neg : Bool} {s1 s2 : S} {mu : Mu} {d : D} (e : dInT neg s1 s2 mu = some d) : ∃ a b p qs, pk s1 mu = some a ∧ pk s2 mu = some b ∧ toPy a = some p ∧ toPy b = some (.tuple qs) ∧ SeqAt.shaped p = true ∧ SeqAt.shaped (.tuple qs) = true ∧
    d = .bl (if neg then !(qs.any fun z => PyData.eqv z p) else qs.any fun z => PyData.eqv z p) := by
  unfold dInT at e
  obtain ⟨a, e1, e⟩ := Option.bind_eq_some_iff.mp e
  obtain ⟨b, e2, e⟩ := Option.bind_eq_some_iff.mp e
  obtain ⟨p, e3, e⟩ := Option.bind_eq_some_iff.mp e
  obtain ⟨q, e4, e⟩ := Option.bind_eq_some_iff.mp e
  split at e
  · split at e
    · rename_i qs h
      cases e
      rw [Bool.and_eq_true] at h
      exact ⟨a, b, p, qs, e1, e2, e3, e4, h.1, h.2, rfl⟩
    · cases e
  · cases e
section
variable {X : Cx}
theorem op_dInT (hu : X.A.units + 65 < cLine) : OpR X (compareOp .In) (r2D X.K (dInT false)) := by
  intro pins s σ H x y v u Q I rv ru ⟨ex, m, mu, s1, s2, d, cf, t1, t2, e, k⟩
  obtain ⟨a, b, p, qs, e1, e2, e3, e4, h1, h2, rfl⟩ := dInT_inv e
  obtain ⟨ps, z1⟩ := Dp.reads I p x v (toPy_ok _ _ _ (pk_ok cf t1 e1) e3) rv
  obtain ⟨us, z2⟩ := Dp.reads I (.tuple qs) y u (toPy_ok _ _ _ (pk_ok cf t2 e2) e4) ru
  exact SeqAt.in_tuple_reads z2 z1 (SeqAt.canLay_of_shaped h2) (SeqAt.canLay_of_shaped h1) (room_in_shaped h1 hu) ⟨.bl _, H, I, rfl, k _ _ (grown_refl cf) (r_bl _)⟩
theorem op_dNotInT (hu : X.A.units + 65 < cLine) : OpR X (compareOp .NotIn) (r2D X.K (dInT true)) := by
  intro pins s σ H x y v u Q I rv ru ⟨ex, m, mu, s1, s2, d, cf, t1, t2, e, k⟩
  obtain ⟨a, b, p, qs, e1, e2, e3, e4, h1, h2, rfl⟩ := dInT_inv e
  obtain ⟨ps, z1⟩ := Dp.reads I p x v (toPy_ok _ _ _ (pk_ok cf t1 e1) e3) rv
  obtain ⟨us, z2⟩ := Dp.reads I (.tuple qs) y u (toPy_ok _ _ _ (pk_ok cf t2 e2) e4) ru
  exact SeqAt.notIn_tuple_reads z2 z1 (SeqAt.canLay_of_shaped h2) (SeqAt.canLay_of_shaped h1) (room_in_shaped h1 hu) ⟨.bl _, H, I, rfl, k _ _ (grown_refl cf) (r_bl _)⟩
end
end DL
set_option Elab.async false
set_option linter.all false
set_option maxRecDepth 100000
set_option maxHeartbeats 1600000
/-! LtT: < and >= of tuples of whole numbers -/
namespace DL
open PySem PySem.Spec L2 PyProof.Rows
def sameAt (ns ms : List Int) (j : Nat) : Bool := decide (ns.getD j 0 = ms.getD j 0)
def ltI (ns ms : List Int) : Bool := Ob.lexAt (sameAt ns ms) (fun j => decide (ns.getD j 0 < ms.getD j 0)) (decide (ns.length < ms.length)) 0 (min ns.length ms.length)
def geI (ns ms : List Int) : Bool := Ob.lexAt (sameAt ns ms) (fun j => decide (ms.getD j 0 ≤ ns.getD j 0)) (decide (ns.length ≥ ms.length)) 0 (min ns.length ms.length)
def dTT (f : List Int → List Int → Bool) : G2 := fun s1 s2 _ => match s1, s2 with
  | .d (.tup a), .d (.tup b) => (asInts a).bind fun ns => (asInts b).bind fun ms => some (.bl (f ns ms))
  | _, _ => none
theorem dTT_inv {f : List Int → List Int → Bool} {s1 s2 : S} {mu : Mu} {d : D} (e : dTT f s1 s2 mu = some d) : ∃ a b ns ms, s1 = .d (.tup a) ∧ s2 = .d (.tup b) ∧ asInts a = some ns ∧ asInts b = some ms ∧ d = .bl (f ns ms) := by
  unfold dTT at e
  split at e
  · rename_i a b
    obtain ⟨ns, e1, e⟩ := Option.bind_eq_some_iff.mp e
    obtain ⟨ms, e2, e⟩ := Option.bind_eq_some_iff.mp e
    cases e
    exact ⟨a, b, ns, ms, rfl, rfl, e1, e2, rfl⟩
  · cases e
theorem int_of {its : List Value} {ns : List Int} (r : Vals (ns.map V.int) its) : its.toArray.size = ns.length ∧ ∀ j (h : j < its.toArray.size), ∃ t, its.toArray[j] = .int (ns.getD j 0) t := by
  have i1 : IntsAre its ns := Vals.ints r
  have l := i1.length
  refine ⟨by rw [List.size_toArray]; exact l, fun j h => IntsAre.int_at i1 _ _ ?_⟩
  simp at h
  simp [h]
section
variable {X : Cx}
theorem op_TT {op : CmpOp} {f : List Int → List Int → Bool} (go : ∀ (s : Shared) (ns ms : List Int) (its its2 : List Value) (p q : Addr), s.heap.IsTuple p its.toArray → s.heap.IsTuple q its2.toArray → Vals (ns.map V.int) its → Vals (ms.map V.int) its2 →
    Ob.RcOp op X.A s (.ref p) (.ref q) (f ns ms)) (hop : ∀ v u, compareOp op v u = richCompare op v u) : OpR X (compareOp op) (r2D X.K (dTT f)) := by
  intro pins s σ H x y v u Q I rv ru ⟨ex, m, mu, s1, s2, d, cf, t1, t2, e, k⟩
  obtain ⟨a, b, ns, ms, rfl, rfl, e1, e2, rfl⟩ := dTT_inv e
  simp only [RS, R] at t1 t2
  obtain ⟨p, ws, rfl, hp, g1⟩ := t1
  obtain ⟨q, us, rfl, hq, g2⟩ := t2
  obtain rfl := asInts_ok g1 e1
  obtain rfl := asInts_ok g2 e2
  cases rv
  cases ru
  obtain ⟨its, r1, p1, _⟩ := I.tuple (SqT.of (vw_sub _ _ hp))
  obtain ⟨its2, r2, p2, _⟩ := I.tuple (SqT.of (vw_sub _ _ hq))
  have z := go s ns ms its its2 p q p1 p2 r1 r2 X.prog X.w X.xe (EP X pins σ Q) ⟨.bl _, H, I, rfl, k _ _ (grown_refl cf) (r_bl _)⟩
  rw [hop]
  exact z
theorem same_eq {A : Around} {s : Shared} {a b : Int} {t u : Tok} : SeqAt.EqAt A s (.int a t) (.int b u) (decide (a = b)) := by
  have z : (a == b) = decide (a = b) := by
    rw [Bool.eq_iff_iff, beq_iff_eq, decide_eq_true_eq]
  rw [← z]
  exact SeqAt.EqAt.int_int _ _ _ _
theorem op_dLtT (hu : X.A.units + 65 < cLine) : OpR X (compareOp .Lt) (r2D X.K (dTT ltI)) := by
  refine op_TT (fun s ns ms its its2 p q p1 p2 r1 r2 => ?_) fun v u => rfl
  obtain ⟨e1, at1⟩ := int_of r1
  obtain ⟨e2, at2⟩ := int_of r2
  have R := Ob.RcOp.tuples_lt (A := X.A) (s := s) (e := sameAt ns ms) (r := fun j => decide (ns.getD j 0 < ms.getD j 0)) p1 p2 (by omega) (fun j h1 h2 => by
    obtain ⟨t, et⟩ := at1 j h1
    obtain ⟨t2, et2⟩ := at2 j h2
    rw [et, et2]
    exact same_eq) fun j h1 h2 _ => by
    obtain ⟨t, et⟩ := at1 j h1
    obtain ⟨t2, et2⟩ := at2 j h2
    rw [et, et2]
    exact Ob.RcOp.lt_int _ _ _ _
  rw [e1, e2] at R
  exact R
theorem op_dGeT (hu : X.A.units + 65 < cLine) : OpR X (compareOp .GtE) (r2D X.K (dTT geI)) := by
  refine op_TT (fun s ns ms its its2 p q p1 p2 r1 r2 => ?_) fun v u => rfl
  obtain ⟨e1, at1⟩ := int_of r1
  obtain ⟨e2, at2⟩ := int_of r2
  have R := Ob.RcOp.tuples_ge (A := X.A) (s := s) (e := sameAt ns ms) (r := fun j => decide (ms.getD j 0 ≤ ns.getD j 0)) p1 p2 (by omega) (fun j h1 h2 => by
    obtain ⟨t, et⟩ := at1 j h1
    obtain ⟨t2, et2⟩ := at2 j h2
    rw [et, et2]
    exact same_eq) fun j h1 h2 _ => by
    obtain ⟨t, et⟩ := at1 j h1
    obtain ⟨t2, et2⟩ := at2 j h2
    rw [et, et2]
    exact Ob.RcOp.ge_int _ _ _ _
  rw [e1, e2] at R
  exact R
end
theorem lt_two {a b c d : Int} : ltI [a, b] [c, d] = decide (a < c ∨ (a = c ∧ b < d)) := by
  show (if decide (a = c) = true then (if decide (b = d) = true then decide (2 < 2) else decide (b < d)) else decide (a < c)) = _
  rw [Bool.eq_iff_iff]
  by_cases h1 : a = c
  · by_cases h2 : b = d
    · simp [h1, h2]
    · simp [h1, h2]
  · simp [h1]
theorem ge_two {a b c d : Int} : geI [a, b] [c, d] = !decide (a < c ∨ (a = c ∧ b < d)) := by
  show (if decide (a = c) = true then (if decide (b = d) = true then decide (2 ≥ 2) else decide (d ≤ b)) else decide (c ≤ a)) = _
  rw [Bool.eq_iff_iff]
  by_cases h1 : a = c
  · by_cases h2 : b = d
    · simp [h1, h2]
    · simp [h1, h2]
  · have : ¬ (a < c ∨ (a = c ∧ b < d)) ↔ c ≤ a := by omega
    rw [if_neg (by rw [decide_eq_false h1]; decide), decide_eq_true_eq, Bool.not_eq_true', decide_eq_false_iff_not]
    exact this.symm
end DL
set_option Elab.async false
set_option linter.all false
set_option maxRecDepth 100000
set_option maxHeartbeats 1600000
/-! SortP: sorted of a list of pairs of whole numbers -/
namespace DL
open PySem PySem.Spec L2
def pairI (p : Int × Int) : D := .tup [.int p.1, .int p.2]
def asPairs : List D → Option (List (Int × Int))
  | [] => some []
  | .tup [.int x, .int y] :: r => (asPairs r).map ((x, y) :: ·)
  | _ => none
theorem asPairs_inv : ∀ {ds : List D} {ps : List (Int × Int)}, asPairs ds = some ps → ds = ps.map pairI
  | [], ps, e => by
    cases e
    rfl
  | d :: ds, ps, e => by
    unfold asPairs at e
    split at e
    · rename_i h
      cases h
    · rename_i x y r h
      cases h
      obtain ⟨qs, e1, rfl⟩ := Option.map_eq_some_iff.mp e
      rw [asPairs_inv e1]
      rfl
    · cases e
theorem asPairs_map : ∀ ps : List (Int × Int), asPairs (ps.map pairI) = some ps
  | [] => rfl
  | p :: ps => by
    show (asPairs (ps.map pairI)).map ((p.1, p.2) :: ·) = _
    rw [asPairs_map ps]
    rfl
def leP (p q : Int × Int) : Bool := decide (p.1 < q.1 ∨ (p.1 = q.1 ∧ p.2 ≤ q.2))
def sortP (ps : List (Int × Int)) : List (Int × Int) := ps.mergeSort leP
def dSortP : GN := d1 fun s mu => (rdL s mu).bind fun ds => (asPairs ds).bind fun ps => if ps.length < 1000 then some (.lst ((sortP ps).map pairI)) else none
abbrev encB (b : V × (Int × Int)) : PyData := .tuple [.int b.2.1, .int b.2.2]
open PySem.W (EachIs) in
theorem zip_each {K : Frag} {H : Hp} : ∀ {ps : List (Int × Int)} {vs : List V} {its : List Value}, Rs K H (ps.map pairI) vs → Vals vs its →
    EachIs (fun v (b : V × (Int × Int)) => RelV b.1 v) its (vs.zip ps) ∧ (∀ b ∈ vs.zip ps, R K H (pairI b.2) b.1) ∧ (vs.zip ps).map (fun b => b.2) = ps
  | [], vs, its, r, rv => by
    obtain rfl := r.inv0
    cases rv
    exact ⟨.nil, (fun b hb => by cases hb), rfl⟩
  | p :: ps, vs, its, r, rv => by
    obtain ⟨v, vs2, rfl, h1, h2⟩ := r.inv
    cases rv with
    | cons a t =>
      obtain ⟨k1, k2, k3⟩ := zip_each h2 t
      refine ⟨.cons a k1, fun b hb => ?_, ?_⟩
      · rw [List.zip_cons_cons] at hb
        rcases List.mem_cons.mp hb with e | e
        · rw [e]
          exact h1
        · exact k2 b e
      · rw [List.zip_cons_cons, List.map_cons, k3]
theorem rs_all {K : Frag} {H : Hp} : ∀ {bs : List (V × (Int × Int))}, (∀ b ∈ bs, R K H (pairI b.2) b.1) → Rs K H ((bs.map fun b => b.2).map pairI) (bs.map fun b => b.1)
  | [], _ => Rs.nil
  | b :: bs, h => by
    rw [List.map_cons, List.map_cons, List.map_cons]
    exact Rs.cons (h b (List.mem_cons_self ..)) (rs_all fun c hc => h c (List.mem_cons_of_mem _ hc))
open PySem.W (EachIs) in
theorem vals_each : ∀ {out : List Value} {bs : List (V × (Int × Int))}, EachIs (fun v (b : V × (Int × Int)) => RelV b.1 v) out bs → Vals (bs.map fun b => b.1) out
  | _, _, .nil => .nil
  | _, _, .cons a t => .cons a (vals_each t)
open PySem.W (EachIs) in
theorem each_and {α β : Type} {P Q : α → β → Prop} (f : ∀ a b, P a b → Q a b → P a b ∧ Q a b := fun _ _ h k => ⟨h, k⟩) : True := trivial
section
variable {X : Cx}
open PySem.W (EachIs) in
theorem reads_each {pins : List (Addr × Obj)} {σ : L2.St} {H : Hp} {s : Shared} {ex m : List Addr} {mu : Mu} (I : Inv X pins σ H s) (cf : Cfg X.K ex m mu H) : ∀ {its : List Value} {bs : List (V × (Int × Int))}, EachIs (fun v (b : V × (Int × Int)) => RelV b.1 v) its bs →
    (∀ b ∈ bs, R X.K (vw ex m mu H) (pairI b.2) b.1) → EachIs (fun v (b : V × (Int × Int)) => ∃ as, Reads s.heap v (encB b) as) its bs
  | _, _, .nil, _ => .nil
  | _, _, .cons (b := b) a t, h => .cons (by
      have r := h _ (List.mem_cons_self ..)
      have z : RS X.K m (vw ex m mu H) (.d (pairI b.2)) b.1 := by simpa only [RS] using r
      exact Dp.reads I (encB b) b.1 _ (toPy_ok _ _ _ (pk_ok cf z rfl) rfl) a) (reads_each I cf t fun c hc => h c (List.mem_cons_of_mem _ hc))
theorem cr_sortP (hu : X.A.units + 65 < cLine) : CallR X (.builtin "sorted") (rND X.K dSortP) := by
  intro pins s σ H xs us Q I rv q
  obtain ⟨ex, m, mu, ss, d, cf, rs, e0, k⟩ := q
  obtain ⟨sx, rfl, e⟩ := d1_inv e0
  clear e0
  obtain ⟨x, rfl, r⟩ := rss1 rs
  obtain ⟨ds, e1, e⟩ := Option.bind_eq_some_iff.mp e
  obtain ⟨ps, e2, e⟩ := Option.bind_eq_some_iff.mp e
  split at e
  · rename_i few
    cases e
    obtain ⟨a, vs, rfl, h, g⟩ := rdL_ok cf r e1
    have ed := asPairs_inv e2
    subst ed
    rw [Vals.ref1 rv]
    obtain ⟨its, rv2, ls, _⟩ := I.list (SqL.of h)
    obtain ⟨each, rel, second⟩ := zip_each g rv2
    have lz : (vs.zip ps).length = ps.length := by
      have := congrArg List.length second
      rwa [List.length_map] at this
    refine PySem.W.sorted_data (enc := encB) ls.isList each (reads_each I cf each rel) (fun d1 h1 d2 h2 => ?_) (.inl fun d1 h1 => ?_) (by rw [lz, sizeLine_eq]; omega) (fun b _ => ?_) fun out ol oe => ?_
    · obtain ⟨b1, _, rfl⟩ := List.mem_map.mp h1
      obtain ⟨b2, _, rfl⟩ := List.mem_map.mp h2
      rfl
    · obtain ⟨b1, _, rfl⟩ := List.mem_map.mp h1
      exact ⟨_, _, rfl⟩
    · have : (encB b).depth = 1 := rfl
      omega
    obtain ⟨ep, he⟩ := PyProof.Rows.sortedAll_at s.heap its (List.toArray out)
    have eq2 : ((vs.zip ps).mergeSort (PySem.W.dataLe false encB)).map (fun b => b.2) = sortP ps := by
      have ele : PySem.W.dataLe false encB = fun (p q : V × (Int × Int)) => leP p.2 q.2 := PySem.W.dataLe_ii (fun (b : V × (Int × Int)) => b.2.1) fun b => b.2.2
      rw [ele, List.map_mergeSort (s := leP) (f := fun (b : V × (Int × Int)) => b.2) (fun _ _ _ _ => rfl), second]
      rfl
    have rn := rs_all (K := X.K) (H := vw ex m mu H) (bs := (vs.zip ps).mergeSort (PySem.W.dataLe false encB)) fun b hb => rel b (List.mem_mergeSort.mp hb)
    rw [eq2] at rn
    have hp : H (s.heap.objs.size + 1) = none := I.hok.fresh (Nat.le_succ _)
    have lv : (((vs.zip ps).mergeSort (PySem.W.dataLe false encB)).map fun b => b.1).length ≤ sizeLine := by
      rw [List.length_map, List.length_mergeSort, lz, sizeLine_eq]
      omega
    have I2 : Inv X pins σ (upd H (s.heap.objs.size + 1) (.lst (((vs.zip ps).mergeSort (PySem.W.dataLe false encB)).map fun b => b.1))) { s with heap := PyProof.Rows.sortedAll s.heap its (List.toArray out), toks := s.toks } :=
      I.laid (t' := s.toks) (fun b o => PyProof.Rows.sortedAll_old) (Nat.le_succ _) ⟨lv, out, ep, vals_each oe, he⟩
    exact ⟨.ref _, _, I2, rfl, k _ _ (grown cf hp) (new_lst cf hp rn)⟩
  · cases e
end
end DL
set_option Elab.async false
set_option linter.all false
set_option maxRecDepth 100000
set_option maxHeartbeats 1600000
/-! MaxT: the greater of two numbers; sorted and compared pairs as they are read -/
namespace DL
open PySem PySem.Spec L2
section
variable {X : Cx}
def dMax2 : GN := fun ss _ => match ss with
  | [.d (.int i), .d (.int j)] => some (.int (if j > i then j else i))
  | _ => none
theorem cr_max2 (hc : X.calm = true) : CallR X (.builtin "max") (rND X.K dMax2) := by
  refine callr_imp (call_max2 hc) fun xs H Q q => ?_
  obtain ⟨ex, m, mu, ss, d, cf, rs, e, k⟩ := q
  unfold dMax2 at e
  split at e
  · cases e
    obtain ⟨x, y, rfl, r1, r2⟩ := rss2 rs
    exact ⟨_, _, by rw [rs_int r1, rs_int r2], k _ _ (grown_refl cf) (r_int _)⟩
  · cases e
end
theorem on_sortP {ps : List (Int × Int)} {mu : Mu} (h : ps.length < 1000) : dSortP [.d (.lst (ps.map pairI))] mu = some (.lst ((sortP ps).map pairI)) := by
  show (asPairs (ps.map pairI)).bind _ = _
  rw [asPairs_map]
  exact if_pos h
theorem on_ltP {p q : Int × Int} {mu : Mu} : dTT ltI (.d (pairI p)) (.d (pairI q)) mu = some (.bl (decide (p.1 < q.1 ∨ (p.1 = q.1 ∧ p.2 < q.2)))) := by
  show some (D.bl (ltI [p.1, p.2] [q.1, q.2])) = _
  rw [lt_two]
theorem on_geP {p q : Int × Int} {mu : Mu} : dTT geI (.d (pairI p)) (.d (pairI q)) mu = some (.bl (!decide (p.1 < q.1 ∨ (p.1 = q.1 ∧ p.2 < q.2)))) := by
  show some (D.bl (geI [p.1, p.2] [q.1, q.2])) = _
  rw [ge_two]
end DL
set_option Elab.async false
set_option linter.all false
set_option maxRecDepth 100000
set_option maxHeartbeats 1600000
/-! DictL: dict(xs) of a list of pairs -/
namespace DL
open PySem PySem.Spec L2
def kvOf : List D → Option (List (Key × S))
  | [] => some []
  | .tup [k, v] :: r => (keyD k).bind fun key => (kvOf r).bind fun l => some ((key, .d v) :: l)
  | _ => none
section
variable {X : Cx} {pos p : Pos} {e : Expr} {fe : WE}
/-- the pairs, as they lie in the list -/
theorem pairs_lie {pins : List (Addr × Obj)} {σ : L2.St} {H : Hp} {s : Shared} {ex m : List Addr} {mu : Mu} (I : Inv X pins σ H s) : ∀ {ds : List D} {vs : List V} {its : List Value} {kvs : List (Key × S)}, Rs X.K (vw ex m mu H) ds vs → Vals vs its → kvOf ds = some kvs →
    ∃ (ws : List (Key × V)) (prs : List (Key × Value)), RKv X.K m (vw ex m mu H) kvs ws ∧ KV ws prs ∧ prs.length = its.length ∧
      ∀ (j : Nat) (q : Key × Value), prs[j]? = some q → ∃ (b : Addr) (u : Value), its[j]? = some (.ref b) ∧ PyProof.Rows.IsTup s.heap b #[u, q.2] ∧ keyIs q.1 u = true
  | [], vs, its, kvs, r, rv, e => by
    obtain rfl := r.inv0
    cases rv
    cases e
    exact ⟨[], [], .nil, .nil, rfl, fun j q h => by simp at h⟩
  | d :: ds, vs, its, kvs, r, rv, e => by
    unfold kvOf at e
    split at e
    · rename_i h
      cases h
    · rename_i k v ds2 h
      cases h
      obtain ⟨key, e1, e⟩ := Option.bind_eq_some_iff.mp e
      obtain ⟨l, e2, e⟩ := Option.bind_eq_some_iff.mp e
      cases e
      obtain ⟨x, vs2, rfl, h1, h2⟩ := r.inv
      simp only [R] at h1
      obtain ⟨b, us, rfl, hb, g⟩ := h1
      obtain ⟨xk, us2, rfl, gk, g⟩ := g.inv
      obtain ⟨xv, us3, rfl, gv, g⟩ := g.inv
      obtain rfl := g.inv0
      cases rv with
      | cons a t =>
        cases a
        obtain ⟨ws, prs, k1, k2, k3, k4⟩ := pairs_lie I h2 t e2
        obtain ⟨parts, rp, tp, _⟩ := I.tuple (SqT.of (vw_sub _ _ hb))
        cases rp with
        | cons ra ta =>
          cases ta with
          | cons rb tb =>
            cases tb
            rename_i uk uv
            have ek := keyD_ok gk e1
            subst ek
            refine ⟨(key, xv) :: ws, (key, uv) :: prs, .cons ⟨rfl, by simpa only [RS] using gv⟩ k1, .cons ⟨rfl, rb⟩ k2, by rw [List.length_cons, List.length_cons, k3], fun j q h => ?_⟩
            cases j with
            | zero =>
              cases h
              exact ⟨b, uk, rfl, tp, kV_is (P := X.prog) (w := X.w) ra⟩
            | succ j =>
              obtain ⟨b2, u2, f1, f2, f3⟩ := k4 j q (by simpa using h)
              exact ⟨b2, u2, by simpa using f1, f2, f3⟩
    · cases e
/-- dict(xs) that will change -/
def wDictL (fe : WE) : WE := fun sl mu Q => fe sl mu fun s mu1 => match s with
  | .d (.lst ds) => ds.length < 64 ∧ On (kvOf ds) fun kvs => Q (.h mu1.length) (mu1 ++ [some (.dic (putAll [] kvs))])
  | _ => False
theorem re_dictL (hcalm : X.calm = true) (hg : Gl X "dict") (hm : X.mg "dict" = none) (he : RE X e fe) (na : starEach [e] X.env = (false, eval e X.env) :: starEach [] X.env := by rfl) :
    RE X (.Call (.Name "dict" p) [e] [] pos) (wDictL fe) := by
  refine ⟨fun pins s σ H Q I h => ?_⟩
  obtain ⟨ex, m, sl, mu, Qd, cf, sr, wq, k⟩ := h
  refine PyProof.Rows.Call_ (ld_blt I hg hm bt_dict ?_)
  refine PyProof.Rows.callWith_type1 (PyProof.Rows.args_cons ?_ na) na rfl
  refine thn (he.run pins s σ H (fun v H1 => ∃ m1 mu1 ds kvs, Cfg X.K ex m1 mu1 H1 ∧ Ext ex m mu H m1 mu1 H1 ∧ RS X.K m1 (vw ex m1 mu1 H1) (.d (.lst ds)) v ∧ ds.length < 64 ∧ kvOf ds = some kvs ∧ Qd (.h mu1.length) (mu1 ++ [some (.dic (putAll [] kvs))])) I
    ⟨ex, m, sl, mu, _, cf, sr, wq, fun s1 mu1 m1 H1 v cf1 x1 r1 q1 => ?_⟩) fun u s1 ⟨v, H1, I1, ru, q1⟩ => ?_
  · split at q1
    · rename_i ds
      obtain ⟨l1, q1⟩ := q1
      obtain ⟨kvs, ek, q1⟩ := On.elim q1
      exact ⟨m1, mu1, ds, kvs, cf1, x1, r1, l1, ek, q1⟩
    · exact q1.elim
  obtain ⟨m1, mu1, ds, kvs, cf1, x1, rs, l1, ek, q1⟩ := q1
  simp only [RS, R] at rs
  obtain ⟨a, ws1, rfl, h1, g1⟩ := rs
  cases ru
  obtain ⟨its, rv, ⟨ol, n, ho, hc, hd, hdat⟩, _⟩ := I1.list (SqL.of (vw_sub _ _ h1))
  obtain ⟨kws, prs, rk, kv, lp, hp⟩ := pairs_lie I1 g1 rv ek
  have li : its.length = ds.length := rv.length.symm.trans g1.length.symm
  refine PyProof.Rows.args_nil ?_
  refine call_dict_pairs (prs := prs) (I1.ok.hd hcalm) ho hc hd hdat (by rw [List.size_toArray]; exact lp.symm) (by rw [sizeLine_eq]; omega) (fun j q e => ?_) fun h4 tk hd4 kp => ?_
  · obtain ⟨b, u, f1, f2, f3⟩ := hp j q e
    exact ⟨b, u, by rw [List.getElem?_toArray]; exact f1, f2, f3⟩
  · have hn : H1 s1.heap.objs.size = none := I1.hok.fresh (Nat.le_refl _)
    have sys : (s1.heap.objs.size == sysModules) = false := beq_eq_false_iff_ne.mpr (Nat.ne_of_gt I1.big)
    have lk : kws.length = prs.length := KV.length kv
    have few : (mergeK [] kws).length ≤ sizeLine := by
      have := length_mergeK kws []
      rw [List.length_nil] at this
      rw [sizeLine_eq]
      omega
    obtain ⟨c3, x3⟩ := cf1.add (mo := .dic (putAll [] kvs)) (o := .dK (mergeK [] kws)) hn ⟨_, rfl, rkv_merge rk .nil⟩
    have J : Inv X pins σ (upd H1 s1.heap.objs.size (.dK (mergeK [] kws))) { s1 with heap := h4, toks := tk } := I1.laid (t' := tk) kp (Nat.le_refl _) (show ObjOk X.prog X.w _ _ _ (.dK (mergeK [] kws)) from ⟨few, sys, merged [] prs, KV.merge kv .nil, hd4⟩)
    exact ⟨.ref s1.heap.objs.size, _, J, rfl, k (.h mu1.length) _ _ _ _ c3 (x1.trans x3) ⟨s1.heap.objs.size, by rw [← cf1.len]; simp, rfl⟩ q1⟩
end
end DL
set_option Elab.async false
set_option linter.all false
set_option maxRecDepth 100000
set_option maxHeartbeats 1600000
/-! Chain3: a < b < c < d; a list so many times -/
namespace DL
open PySem PySem.Spec L2
open PyProof.Rows (ite_ff ite_tt)
section
variable {X : Cx} {pos : Pos} {a b c d : Expr} {fa fb fc fd : WE} {op op2 op3 : CmpOp} {g g2 g3 : G2}
def wChain3 (g g2 g3 : G2) (fa fb fc fd : WE) : WE := fun sl mu Q => fa sl mu fun s1 mu1 => fb sl mu1 fun s2 mu2 => On (g s1 s2 mu2) fun d => AsBd d fun k => if k = true then
    (fc sl mu2 fun s3 mu3 => On (g2 s2 s3 mu3) fun d => AsBd d fun k => if k = true then (fd sl mu3 fun s4 mu4 => On (g3 s3 s4 mu4) fun d => Q (.d d) mu4) else Q (.d (.bl false)) mu3)
  else Q (.d (.bl false)) mu2
theorem asBd_inv {d : D} {P : Bool → Prop} (h : AsBd d P) : ∃ k, d = .bl k ∧ P k := by
  cases d <;> first
    | exact ⟨_, rfl, h⟩
    | exact h.elim
theorem ite_true_of {A B : Prop} (h : if true = true then A else B) : A := by
  rwa [if_pos rfl] at h
theorem re_chain3 (ho : OpR X (compareOp op) (r2D X.K g)) (ho2 : OpR X (compareOp op2) (r2D X.K g2)) (ho3 : OpR X (compareOp op3) (r2D X.K g3)) (ha : RE X a fa) (hb : RE X b fb) (hc : RE X c fc) (hd : RE X d fd)
    (hm : lastMarks [op, op2, op3] [b, c, d] = false := by with_unfolding_all rfl) : RE X (.Compare a [op, op2, op3] [b, c, d] pos) (wChain3 g g2 g3 fa fb fc fd) := by
  refine ⟨fun pins s σ H Q I h => ?_⟩
  obtain ⟨ex, m, sl, mu, Qd, cf, sr, w, k⟩ := h
  refine PyProof.Rows.Compare_chain (thn (ha.run pins s σ H (fun v H1 => ∃ m1 mu1 s1, Cfg X.K ex m1 mu1 H1 ∧ Ext ex m mu H m1 mu1 H1 ∧ RS X.K m1 (vw ex m1 mu1 H1) s1 v ∧ fb sl mu1 fun s2 mu2 => On (g s1 s2 mu2) fun d => AsBd d fun k => if k = true then
      (fc sl mu2 fun s3 mu3 => On (g2 s2 s3 mu3) fun d => AsBd d fun k => if k = true then (fd sl mu3 fun s4 mu4 => On (g3 s3 s4 mu4) fun d => Qd (.d d) mu4) else Qd (.d (.bl false)) mu3) else Qd (.d (.bl false)) mu2) I
      ⟨ex, m, sl, mu, _, cf, sr, w, fun s1 mu1 m1 H1 v c1 e1 r1 q1 => ⟨m1, mu1, s1, c1, e1, r1, q1⟩⟩) fun v t1 ⟨x, H1, I1, rv, m1, mu1, s1, c1, e1, r1, q1⟩ => ?_) hm
  refine PyProof.Rows.chain_link (thn (hb.run pins t1 σ H1 (fun u H2 => ∃ m2 mu2 s2, Cfg X.K ex m2 mu2 H2 ∧ Ext ex m1 mu1 H1 m2 mu2 H2 ∧ RS X.K m2 (vw ex m2 mu2 H2) s2 u ∧ On (g s1 s2 mu2) fun d => AsBd d fun k => if k = true then
      (fc sl mu2 fun s3 mu3 => On (g2 s2 s3 mu3) fun d => AsBd d fun k => if k = true then (fd sl mu3 fun s4 mu4 => On (g3 s3 s4 mu4) fun d => Qd (.d d) mu4) else Qd (.d (.bl false)) mu3) else Qd (.d (.bl false)) mu2) I1
      ⟨ex, m1, sl, mu1, _, c1, sr.ext e1, q1, fun s2 mu2 m2 H2 u c2 e2 r2 q2 => ⟨m2, mu2, s2, c2, e2, r2, q2⟩⟩) fun u t2 ⟨y, H2, I2, ru, m2, mu2, s2, c2, e2, r2, q2⟩ => ?_)
  obtain ⟨d1, ed, q2⟩ := On.elim q2
  obtain ⟨k1, rfl, w2⟩ := asBd_inv q2
  clear q2
  refine thn (ho pins t2 σ H2 x y v u (fun z H3 => z = .bl k1 ∧ Grown X.K ex m2 mu2 H2 H3) I2 rv ru ⟨ex, m2, mu2, s1, s2, _, c2, r1.ext e2, r2, ed, fun H3 z gr r => ⟨by simpa only [R] using r, gr⟩⟩) fun wu t3 ⟨z, H3, I3, rz, ez, gr⟩ => ?_
  subst ez
  cases rz
  refine wpAny_truthy_bool ?_
  cases k1 with
  | false => exact ite_ff ⟨.bl false, H3, I3, rfl, k _ _ _ _ _ gr.1 ((e1.trans e2).trans gr.2) (rs_bl false) w2⟩
  | true =>
    have w2 := ite_true_of w2
    refine ite_tt (PyProof.Rows.chain_link (thn (hc.run pins t3 σ H3 (fun u3 H4 => ∃ m4 mu4 s3, Cfg X.K ex m4 mu4 H4 ∧ Ext ex m2 mu2 H3 m4 mu4 H4 ∧ RS X.K m4 (vw ex m4 mu4 H4) s3 u3 ∧ On (g2 s2 s3 mu4) fun d => AsBd d fun k => if k = true then
        (fd sl mu4 fun s4 mu5 => On (g3 s3 s4 mu5) fun d => Qd (.d d) mu5) else Qd (.d (.bl false)) mu4) I3
        ⟨ex, m2, sl, mu2, _, gr.1, sr.ext ((e1.trans e2).trans gr.2), w2, fun s3 mu4 m4 H4 u3 c4 e4 r4 q4 => ⟨m4, mu4, s3, c4, e4, r4, q4⟩⟩) fun u3 t4 ⟨y3, H4, I4, ru3, m4, mu4, s3, c4, e4, r4, q4⟩ => ?_))
    obtain ⟨d2, ed2, q4⟩ := On.elim q4
    obtain ⟨k2, rfl, w4⟩ := asBd_inv q4
    clear q4
    refine thn (ho2 pins t4 σ H4 y y3 u u3 (fun z H5 => z = .bl k2 ∧ Grown X.K ex m4 mu4 H4 H5) I4 ru ru3 ⟨ex, m4, mu4, s2, s3, _, c4, (r2.ext gr.2).ext e4, r4, ed2, fun H5 z gr r => ⟨by simpa only [R] using r, gr⟩⟩) fun wv t5 ⟨z, H5, I5, rz, ez, gr2⟩ => ?_
    subst ez
    cases rz
    have eAll := (((e1.trans e2).trans gr.2).trans e4).trans gr2.2
    refine wpAny_truthy_bool ?_
    cases k2 with
    | false => exact ite_ff ⟨.bl false, H5, I5, rfl, k _ _ _ _ _ gr2.1 eAll (rs_bl false) w4⟩
    | true =>
      have w4 := ite_true_of w4
      refine ite_tt (PyProof.Rows.chain_last (thn (hd.run pins t5 σ H5 (fun u4 H6 => ∃ m6 mu6 s4, Cfg X.K ex m6 mu6 H6 ∧ Ext ex m4 mu4 H5 m6 mu6 H6 ∧ RS X.K m6 (vw ex m6 mu6 H6) s4 u4 ∧ On (g3 s3 s4 mu6) fun d => Qd (.d d) mu6) I5
          ⟨ex, m4, sl, mu4, _, gr2.1, sr.ext eAll, w4, fun s4 mu6 m6 H6 u4 c6 e6 r6 q6 => ⟨m6, mu6, s4, c6, e6, r6, q6⟩⟩) fun u4 t6 ⟨y4, H6, I6, ru4, m6, mu6, s4, c6, e6, r6, q6⟩ => ?_))
      obtain ⟨d3, ed3, q6⟩ := On.elim q6
      exact ho3 pins t6 σ H6 y3 y4 u3 u4 Q I6 ru3 ru4 ⟨ex, m6, mu6, s3, s4, d3, c6, (r4.ext gr2.2).ext e6, r6, ed3, fun H7 z g7 r7 => k (.d d3) _ _ _ _ g7.1 ((eAll.trans e6).trans g7.2) (by simpa only [RS] using r7) q6⟩
end
end DL
set_option Elab.async false
set_option linter.all false
set_option maxRecDepth 100000
set_option maxHeartbeats 1600000
/-! RepL: a list so many times -/
namespace DL
open PySem PySem.Spec L2
theorem rs_rep {K : Frag} {H : Hp} {ds : List D} {vs : List V} (r : Rs K H ds vs) : ∀ n : Nat, Rs K H (List.replicate n ds).flatten (List.replicate n vs).flatten
  | 0 => Rs.nil
  | n + 1 => by
    rw [List.replicate_succ, List.replicate_succ, List.flatten_cons, List.flatten_cons]
    exact r.append (rs_rep r n)
def dRepL : G2 := fun s1 s2 mu => match s2 with
  | .d (.int k) => (rdL s1 mu).bind fun ds => if 0 ≤ k ∧ k < 100 ∧ ds.length < 100 then some (.lst (List.replicate k.toNat ds).flatten) else none
  | _ => none
theorem op_dRepL {X : Cx} : OpR X (binaryOp .Mult) (r2D X.K dRepL) := by
  refine opr_imp op_rep fun x y H Q q => ?_
  obtain ⟨ex, m, mu, s1, s2, d, cf, r1, r2, e, k⟩ := q
  unfold dRepL at e
  split at e
  · rename_i i
    obtain ⟨ds, e1, e⟩ := Option.bind_eq_some_iff.mp e
    split at e
    · rename_i hc
      cases e
      obtain ⟨a, vs, rfl, h, g⟩ := rdL_ok cf r1 e1
      have l := g.length
      refine ⟨a, i, vs, rfl, rs_int r2, h, by omega, by omega, ?_, fun p hp => k _ _ (grown cf hp) (new_lst cf hp (rs_rep g _))⟩
      have h1 : i.toNat ≤ 100 := by omega
      have h2 : vs.length ≤ 100 := by omega
      have h3 := Nat.mul_le_mul h2 h1
      rw [sizeLine_eq]
      omega
    · cases e
  · cases e
end DL
set_option Elab.async false
set_option linter.all false
set_option maxRecDepth 100000
set_option maxHeartbeats 1600000
/-! InD: in of a dict that changes -/
namespace DL
open PySem PySem.Spec L2
def dInK (neg : Bool) : G2 := fun s1 s2 mu => match s1, s2 with
  | .d kd, .h j => match mu[j]? with
    | some (some (.dic kvs)) => (keyD kd).bind fun k => some (.bl (if neg then !(kvs.any fun p => decide (p.1 = k)) else kvs.any fun p => decide (p.1 = k)))
    | _ => none
  | _, _ => none
theorem val_any {k : Key} : ∀ ws : List (Key × V), (valV ws k).isSome = ws.any fun p => decide (p.1 = k)
  | [] => rfl
  | p :: ws => by
    have ih := val_any (k := k) ws
    unfold valV at ih ⊢
    rw [List.any_cons, ← ih]
    by_cases h : p.1 = k
    · simp [List.find?_cons, h]
    · simp [List.find?_cons, h]
theorem dInK_inv {K : Frag} {neg : Bool} {s1 s2 : S} {ex m : List Addr} {mu : Mu} {H : Hp} {x y : V} {d : D} (cf : Cfg K ex m mu H) (r1 : RS K m (vw ex m mu H) s1 x) (r2 : RS K m (vw ex m mu H) s2 y) (e : dInK neg s1 s2 mu = some d) :
    ∃ a o, y = .ref a ∧ DGet H a x o ∧ d = .bl (if neg then !o.isSome else o.isSome) := by
  unfold dInK at e
  split at e
  · split at e
    · rename_i kd j kvs em
      obtain ⟨key, ek, el⟩ := Option.bind_eq_some_iff.mp e
      clear e
      cases el
      obtain ⟨a, h1, rfl⟩ := r2
      obtain ⟨b, ob, g1, g2, g3⟩ := cf.st _ _ em
      rw [h1] at g1
      cases g1
      obtain ⟨ws, rfl, g4⟩ := g3
      have ey := keyD_ok (by simpa only [RS] using r1) ek
      subst ey
      refine ⟨a, _, rfl, DGet.k (k := key) g2, ?_⟩
      rw [val_any, rkv_any g4]
    · cases e
  · cases e
section
variable {X : Cx}
theorem op_dInK (hu : X.A.units + 65 < cLine) : OpR X (compareOp .In) (r2D X.K (dInK false)) := by
  intro pins s σ H x y v u Q I rv ru ⟨ex, m, mu, s1, s2, d, cf, t1, t2, e, k⟩
  obtain ⟨a, o, rfl, g, rfl⟩ := dInK_inv cf t1 t2 e
  cases ru
  exact d_in (by omega) I g rv fun s3 I3 => ⟨.bl o.isSome, H, I3, rfl, k _ _ (grown_refl cf) (r_bl _)⟩
theorem op_dNotInK (hu : X.A.units + 65 < cLine) : OpR X (compareOp .NotIn) (r2D X.K (dInK true)) := by
  intro pins s σ H x y v u Q I rv ru ⟨ex, m, mu, s1, s2, d, cf, t1, t2, e, k⟩
  obtain ⟨a, o, rfl, g, rfl⟩ := dInK_inv cf t1 t2 e
  cases ru
  exact d_notIn (by omega) I g rv fun s3 I3 => ⟨.bl (!o.isSome), H, I3, rfl, k _ _ (grown_refl cf) (r_bl _)⟩
end
end DL
set_option Elab.async false
set_option linter.all false
set_option maxRecDepth 100000
set_option maxHeartbeats 4000000
/-! RepT: a tuple so many times, also one without parts -/
namespace DL
open PySem PySem.Spec L2 PyProof.Rows
theorem tuple_mul0 (l : Addr) (n : Nat) (dd : Option Addr) (sl : Array (Option Value)) (x : Int) (u : Tok) (c0 : (decide (x < -(2 ^ 63)) || decide (x ≥ 2 ^ 63)) = false) :
    Meets (Builtin.«tuple.__mul__» ⟨[.ref l, .int x u], []⟩) (fun _ R s => s.heap.get? l = some { cls := .type "tuple", dict := dd, data := .seq #[] n, slots := sl } ∧ R (.ok (.ret (Value.ref l))) s) :=
  .of_wp fun prog w A R s h => by
    obtain ⟨hp, g, d, tk, os⟩ := s
    obtain ⟨hl, h⟩ := h
    have f1 := AutoSeq1.idx_int
    have c1 : ((#[] : Array Value).isEmpty || x == 1) = true := rfl
    wp_walk using wpAny_loadPart' hl
    repeat (first
      | (refine wpAny_ite_false (decide_eq_false (by rw [c0]; exact Bool.false_ne_true)) ?_; wp_walk using wpAny_loadPart' hl)
      | (refine wpAny_ite_true (decide_eq_true c1) ?_; wp_walk using wpAny_loadPart' hl))
    exact ⟨_, rfl, h⟩
section
variable {X : Cx}
def rRepT0 (K : PySem.W.Frag) : R2 := fun x y H Q => ∃ l k, x = .ref l ∧ y = .int k ∧ SqT K H l [] ∧ 0 ≤ k ∧ k ≤ 1000 ∧ Q (.ref l) H
theorem op_repT0 : OpR X (binaryOp .Mult) (rRepT0 X.K) := by
  intro pins s σ H x y v u Q I rx ry h
  obtain ⟨l, k, rfl, rfl, hT, h1, h2, q⟩ := h
  cases rx
  obtain ⟨t, rfl⟩ := ry
  obtain ⟨its, r, ⟨⟨cls, dd, data, sl⟩, ho, hc, n, hd⟩, hs⟩ := I.tuple hT
  simp only at hc hd
  subst hc hd
  cases r
  have c0 : (decide (k < -(2 ^ 63)) || decide (k ≥ 2 ^ 63)) = false := by
    rw [decide_eq_false (by omega), decide_eq_false (by omega)] <;> rfl
  refine wpAny_binaryOp_repeat_ref (T := "tuple") (U := "int") (by decide) ⟨_, ho, rfl⟩ (fun s' => typeIs_int s' k t) noFill_tuple_mul F.fills_int_mul F.slot_int_rmul repeat_tuple F.slot_int_index.lookup
    (call_meets F.slot_int_rmul (typeIs_int s k t) F.entry_int_rmul (F.args_int_rmul_2 _ _) (int_rmul_tuple k t l _ n dd sl)
      ⟨ho, rfl, ⟨_, ho, rfl⟩, call_meets F.slot_tuple_mul ⟨_, ho, rfl⟩ F.entry_tuple_mul (F.args_tuple_mul_2 _ _) (tuple_mul0 l n dd sl k t c0) ⟨ho, ?_⟩⟩)
  exact ⟨.ref l, H, I, rfl, q⟩
theorem rs_repT {K : Frag} {H : Hp} {ds : List D} {vs : List V} (r : Rs K H ds vs) : ∀ n : Nat, Rs K H (List.replicate n ds).flatten (List.replicate n vs).flatten
  | 0 => Rs.nil
  | n + 1 => by
    rw [List.replicate_succ, List.replicate_succ, List.flatten_cons, List.flatten_cons]
    exact r.append (rs_repT r n)
def dRepT : G2 := fun s1 s2 _ => match s1, s2 with
  | .d (.tup ds), .d (.int k) => if 2 ≤ k ∧ k < 100 ∧ ds.length < 100 then some (.tup (List.replicate k.toNat ds).flatten) else none
  | _, _ => none
theorem op_dRepT : OpR X (binaryOp .Mult) (r2D X.K dRepT) := by
  intro pins s σ H x y v u Q I rx ry h
  obtain ⟨ex, m, mu, s1, s2, d, cf, r1, r2, e, k⟩ := h
  unfold dRepT at e
  split at e
  · rename_i ds i
    split at e
    · rename_i hc
      cases e
      have ei := rs_int r2
      simp only [RS, R] at r1
      obtain ⟨a, vs, rfl, h1, g⟩ := r1
      have l := g.length
      have hq : SqT X.K H a vs := SqT.of (vw_sub _ _ h1)
      cases ds with
      | nil =>
        obtain rfl := g.inv0
        have e0 : (List.replicate i.toNat ([] : List D)).flatten = [] := by simp
        rw [e0] at k
        exact op_repT0 pins s σ H _ y v u Q I rx ry ⟨a, i, rfl, ei, hq, by omega, by omega, k H _ (grown_refl cf) (by simp only [R]; exact ⟨a, [], rfl, h1, Rs.nil⟩)⟩
      | cons d0 ds =>
        obtain ⟨v0, vs2, rfl, _, _⟩ := g.inv
        exact op_repT pins s σ H _ y v u Q I rx ry ⟨a, i, _, rfl, ei, hq, by simp, by omega, by omega, by omega, fun p hp => k _ _ (grown cf hp) (new_tup cf hp (rs_repT g _))⟩
    · cases e
  · cases e
theorem on_repTT {ds : List D} {k : Int} {mu : Mu} (h : 2 ≤ k ∧ k < 100 ∧ ds.length < 100) : dRepT (.d (.tup ds)) (.d (.int k)) mu = some (.tup (List.replicate k.toNat ds).flatten) := if_pos h
theorem on_repT2 {ds : List D} {mu : Mu} (h : ds.length < 100) : dRepT (.d (.tup ds)) (.d (.int 2)) mu = some (.tup (ds ++ ds)) := by
  rw [on_repTT ⟨by decide, by decide, h⟩]
  congr 2
  show (List.replicate 2 ds).flatten = _
  simp
end
end DL
set_option Elab.async false
set_option linter.all false
set_option maxRecDepth 100000
set_option maxHeartbeats 3200000
/-! LenSet: set(xs) of a list; len(set(xs)) of texts -/
namespace DL
open PySem PySem.Spec L2 PyProof.Rows
section
variable {P : Program} {w : World} {κ : Type} [DecidableEq κ] {kd : PySem.KeyKind P w κ} {A : Around} {E : Value → Shared → Prop} {s : Shared}
theorem call_setG_list {l : Addr} {its : Array Value} (xs : List κ) {Q : Value → Shared → Prop} (hh : A.handled = none) (hl : s.heap.IsList l its) (size : its.size = xs.length) (good : ∀ (i : Nat) (v : Value), its[i]? = some v → GoodAt kd xs i v) (few : xs.length + 1 < scanBound)
    (fin : ∀ (h2 : Heap) (tk : Nat), SetG kd h2 s.heap.objs.size (withAll xs []) → (∀ b u, s.heap.get? b = some u → h2.get? b = some u) → Q (.ref s.heap.objs.size) { s with heap := h2, toks := tk }) :
    wpAny (model P w) A (call (.type "set") [.ref l]) Q E s := by
  obtain ⟨mc, mt, mr⟩ := F.called_set.mro
  have fMade := F.called_set.made
  have fSub := F.called_set.sub
  refine wpAny_call (codeAny_of_tree ?_)
  show wpAny _ _ (callAny (.type "set") _) _ _ _
  refine wpAny_pure ⟨Code.quiet_builtin _ (by decide +kernel), codeAny_builtin F.entry_type_call ?_⟩
  rw [Around.under_plain (weight_type_call_type "set" [.ref l] []) rfl]
  have f1 := F.called_set.notType
  have f2 := F.called_set.canCreate
  have f3 := F.typeCall_set_1 (.ref l)
  repeat (any_goals (first | assumption | wp_step))

  refine codeAny_mono (code_set_led1 (.ref l) (E := E) (Q₁ := fun ob s1 => ob = .ref s.heap.objs.size ∧ s1 = { s with heap := s.heap.push (nakedSet w) }) ⟨rfl, rfl⟩) fun r s1 hr => ?_
  cases r with
  | error e => exact hr
  | ok fl =>
    cases fl with
    | ret ob =>
      obtain ⟨rfl, rfl⟩ := hr
      have gS : (s.heap.push (nakedSet w)).get? s.heap.objs.size = some (nakedSet w) := Heap.get?_push_size _ rfl
      have gT : Shared.TypeIs { s with heap := s.heap.push (nakedSet w) } (.ref s.heap.objs.size) "set" := ⟨_, gS, rfl⟩
      have g1 := F.called_set.init.lookup
      have g2 := F.called_set.init.bind (.ref s.heap.objs.size)
      repeat (any_goals (first | assumption | wp_step))

      refine codeAny_mono (codeAny_call_builtin (R := wants (fun r s2 => r = .none ∧ ∃ h2 tk, s2 = { s with heap := h2, toks := tk } ∧ SetG kd h2 s.heap.objs.size (withAll xs []) ∧
          (∀ b u, s.heap.get? b = some u → h2.get? b = some u)) E) F.called_set.init.plain F.entry_set_init (check_set_init_1 gT ?_)) fun r2 s2 hr2 => ?_
      · obtain ⟨ol, hol, e1, nl, e2⟩ := hl
        obtain ⟨oc, od, ot, os⟩ := ol
        simp only at e1 e2
        subst e1; subst e2
        have hol2 : (s.heap.push (nakedSet w)).get? l = some { cls := .type "list", dict := od, data := .seq its nl, slots := os } := Heap.get?_push_of_some _ hol
        have f4 := F.sub_list_set
        have f5 := F.sub_list_frozenset
        have f6 : (Value.type "list" == Value.type "dict") = false := by decide
        have hl1 : (s.heap.push (nakedSet w)).IsList l its := ⟨_, hol2, rfl, nl, rfl⟩
        unfold Builtin.«set.__init__» noKeywords Builtin.Frozenset.updateFrom
        generalize hPI : pyIter = PI
        wp_walk
        subst hPI
        refine wpAny_pyIter_list hl1 ?_
        refine wpAny_bind (wpAny_runValue ?_)
        have under : l < s.heap.objs.size := Heap.lt_size hol
        have quiet3 : A.in1.in1.in1.handled = none := by simp [hh]
        have apart : l ≠ (s.heap.push (nakedSet w)).objs.size := by
          rw [Heap.size_push]
          exact Nat.ne_of_lt (Nat.lt_succ_of_lt under)
        have off : s.heap.objs.size ∉ [(s.heap.push (nakedSet w)).objs.size, l] := by
          rw [Heap.size_push]
          simp only [List.mem_cons, List.mem_singleton, List.not_mem_nil, or_false, not_or]
          exact ⟨Nat.ne_of_lt (Nat.lt_succ_self _), Nat.ne_of_gt under⟩
        refine updateG ((Walks.list quiet3 _ l apart its).toS) s.heap.objs.size off xs size few good ?fin (its.size - 0) 0 _ [] (by omega) (Nat.zero_le _)
          ⟨⟨_, Heap.get?_push_size _ rfl, rfl, rfl⟩, (hl1.push _)⟩ (Moved.refl fun _ => rfl) (Nat.le_refl _) rfl (setG_naked (Heap.get?_push_of_some _ gS))
        case fin =>
          intro s2 mv hG
          obtain ⟨h2, gg, dd, tk, oo⟩ := s2
          have eg : gg = s.gens := mv.gens
          have ed : dd = s.drawn := mv.drawn
          have eo : oo = s.os := mv.os
          subst eg; subst ed; subst eo
          show wpAny _ _ _ _ _ _
          refine wpAny_pure ?_
          show wpAny _ _ (ret Value.none) _ _ _
          refine wpAny_pure ⟨rfl, h2, tk, rfl, hG, fun b u e => ?_⟩
          have b0 : b < s.heap.objs.size := Heap.lt_size e
          have b2 : b ≠ (s.heap.push (nakedSet w)).objs.size := by
            rw [Heap.size_push]
            exact Nat.ne_of_lt (Nat.lt_succ_of_lt b0)
          exact mv.heap b u (by simp only [List.mem_cons, List.mem_singleton, List.not_mem_nil, or_false, not_or]; exact ⟨Nat.ne_of_lt b0, b2⟩) (Heap.get?_push_of_some _ (Heap.get?_push_of_some _ e))
      · cases r2 with
        | error e => exact hr2
        | ok fl2 =>
          cases fl2 with
          | ret r =>
            obtain ⟨rfl, h2, tk, rfl, hG, kp⟩ := hr2
            repeat (any_goals (first | assumption | wp_step))
            exact fin _ _ hG kp
          | _ => exact hr2.elim
    | _ => exact hr.elim
end
end DL
namespace DL
open PySem PySem.Spec L2
section
variable {X : Cx} {e : Expr} {fs : WA} {p p2 q pos : Pos}
def dLenSet : GN := d1 fun s mu => (rdQ s mu).bind fun ds => (asStrs ds).bind fun ss => if ss.length < 64 then some (.int ((onceS ss).length : Nat)) else none
theorem len_setG {H : Hp} {σ : L2.St} {pins : List (Addr × Obj)} {s : Shared} {a : Addr} {ks : List Str} {Q : VK} (I : Inv X pins σ H s) (G : SetG (PySem.strKind X.prog X.w) s.heap a ks) (few : ks.length < 64) (h : Q (.int (ks.length : Nat)) H) :
    wpAny (model X.prog X.w) X.A (call (.builtin "len") [.ref a]) (EP X pins σ Q) X.xe s := by
  obtain ⟨ob, el, ec, tb, ms, ho, hx, hd, rw0, pk, nk, fw, fit, ris, led⟩ := G
  have l1 : el.size = ks.length := by
    have := (vals_rows rw0).length
    rw [List.length_map, List.length_map] at this
    rw [← pk.length_eq, this, Array.length_toList]
  refine call_len_set ho hx hd fit (by omega) ⟨.int (ks.length : Nat), H, I.tok _, ⟨_, by rw [l1]⟩, h⟩
theorem re_lenSet (hc : X.calm = true) (hg : Gl X "len") (hm : X.mg "len" = none) (hg2 : Gl X "set") (hm2 : X.mg "set" = none) (ha : RA X [e] fs)
    (na : starEach [e] X.env = (false, eval e X.env) :: starEach [] X.env := by rfl) : RE X (.Call (.Name "len" p) [.Call (.Name "set" p2) [e] [] q] [] pos) (wCall dLenSet fs) := by
  refine ⟨fun pins s σ H Q I h => ?_⟩
  refine PyProof.Rows.Call_ (ld_blt I hg hm bt_len ?_)
  refine PyProof.Rows.callWith_builtin1 (PyProof.Rows.args_cons ?_ rfl) rfl rfl
  refine PyProof.Rows.Call_ (ld_blt I hg2 hm2 bt_set ?_)
  refine PyProof.Rows.callWith_type1 (thn (ha.run q pins s σ H _ I (call_red h)) fun us s1 ⟨vs, H1, I1, r1, q1⟩ => ?_) na rfl
  obtain ⟨ex, m, mu, ss, d, cf, rs, e0, k⟩ := q1
  obtain ⟨sx, rfl, e1⟩ := d1_inv e0
  clear e0
  obtain ⟨ds, e2, e1⟩ := Option.bind_eq_some_iff.mp e1
  obtain ⟨ts, e3, e1⟩ := Option.bind_eq_some_iff.mp e1
  split at e1
  · rename_i hl
    cases e1
    obtain ⟨y, rfl, r⟩ := rss1 rs
    have few : (onceS ts).length < 64 := by
      have z := withAll_len ts []
      unfold onceS
      simp only [List.length_nil] at z
      omega
    obtain ⟨a, ws, rfl, hq, g1⟩ := rdQ_ok cf r e2
    obtain rfl := asStrs_ok g1 e3
    rw [Vals.ref1 r1]
    rcases hq with h1 | h1
    · obtain ⟨its, rv, pl, hz⟩ := I1.list h1
      have size : its.toArray.size = ts.length := by rw [List.size_toArray, ← rv.length, List.length_map]
      refine call_setG_list (kd := PySem.strKind X.prog X.w) ts (I1.ok.hd hc) pl.isList size (fun i v e => goods rv i v (by rw [← Array.getElem?_toList, List.toList_toArray] at e; exact e)) (by unfold scanBound; omega) fun h2 tk hG kp => ?_
      refine PyProof.Rows.args_nil ?_
      exact len_setG (s := { s1 with heap := h2, toks := tk }) (I1.kept kp) hG few (k _ _ (grown_refl cf) (r_int _))
    · obtain ⟨its, rv, pl, hz⟩ := I1.tuple h1
      have size : its.toArray.size = ts.length := by rw [List.size_toArray, ← rv.length, List.length_map]
      refine call_setG_tuple (kd := PySem.strKind X.prog X.w) ts (I1.ok.hd hc) pl size (fun i v e => goods rv i v (by rw [← Array.getElem?_toList, List.toList_toArray] at e; exact e)) (by unfold scanBound; omega) fun h2 tk hG kp => ?_
      refine PyProof.Rows.args_nil ?_
      exact len_setG (s := { s1 with heap := h2, toks := tk }) (I1.kept kp) hG few (k _ _ (grown_refl cf) (r_int _))
  · cases e1
end
end DL
set_option Elab.async false
set_option linter.all false
set_option maxRecDepth 100000
set_option maxHeartbeats 1000000
/-! SortT: sorted of a tuple of pairs of whole numbers -/
namespace DL
open PySem PySem.Spec L2 PySem.W
open PyProof.Rows
section
variable {prog : Program} {w : World} {A : Around} {E : Value → Shared → Prop} {s : Shared}
theorem collect_tup {l : Addr} {vs : List Value} {Q : List Value → Shared → Prop} (hl : s.heap.IsTuple l vs.toArray)
    (h : Q vs { s with heap := (s.heap.push (seqObj "list" #[] 0)).update s.heap.objs.size (Obj.mapSeq (· ++ vs.toArray)) }) (hsz : vs.length ≤ sizeLine) :
    wpAny (model prog w) A (collect (.ref l)) Q E s := by
  obtain ⟨o, ho, hc, n, hd⟩ := id hl
  unfold collect
  refine wpAny_bind (wpAny_runValue (codeAny_builtin entry_proto_collect' ?_))
  show wpAny _ _ (do again (.builtin "list.__iadd__" ⟨[← newList [], .ref l], []⟩)) _ _ s
  refine wpAny_bind (wpAny_newList (wpAny_pure ⟨Code.quiet_builtin _ (by decide +kernel), codeAny_builtin entry_list_iadd' ?_⟩))
  show wpAny _ _ (Builtin.List.listExtendWith (.ref s.heap.objs.size) (.ref l) (.ref s.heap.objs.size)) _ _ { s with heap := s.heap.push (seqObj "list" #[] 0) }
  unfold Builtin.List.listExtendWith
  have ho' : (s.heap.push (seqObj "list" #[] 0)).get? l = some o := Heap.get?_push_of_some _ ho
  refine wpAny_bind (wpAny_typeOf (T := "tuple") ⟨o, ho', hc⟩ ?_)
  have ht : (Value.type "tuple" == Value.type "tuple") = true := by rfl
  rw [if_pos (by rw [ht]; simp)]
  refine wpAny_bind (listItems_at ho' hd ?_)
  refine wpAny_bind (listItems_at (xs := #[]) (n := 0) (Heap.get?_push_size _ rfl) rfl ?_)
  rw [if_neg (by simp)]
  refine wpAny_bind (listUpdate_at (xs := #[]) (n := 0) (Heap.get?_push_size _ rfl) rfl ?_ (Nat.zero_le _) (by show (#[] ++ vs.toArray).size ≤ sizeLine + 1; simp only [Array.size_append, List.size_toArray, List.length_nil]; omega))
  refine wpAny_pure ?_
  show wpAny (model prog w) A (do
      let o ← load s.heap.objs.size
      match o.data with
      | .seq xs _ => pure xs.toList
      | _ => unsupported "internal:collect") Q E { s with heap := (s.heap.push (seqObj "list" #[] 0)).update s.heap.objs.size (Obj.mapSeq (· ++ vs.toArray)) }
  refine wpAny_bind (wpAny_load (get?_update_seq (Heap.get?_push_size _ rfl) _) ?_)
  show wpAny _ _ (pure ((#[] : Array Value) ++ vs.toArray).toList) Q E _
  rw [show ((#[] : Array Value) ++ vs.toArray).toList = vs by simp]
  exact wpAny_pure h
theorem sorted_of_sortT {l : Addr} {vs : List Value} {kw : List (Str × Value)} {Q : Value → Shared → Prop} (hl : s.heap.IsTuple l vs.toArray) (hL : vs.length ≤ sizeLine) (ha1 : argsOk "sorted" ⟨[.ref l], kw⟩) (ha2 : ∀ x, argsOk "list.sort" ⟨[.ref x], kw⟩)
    (body : ∀ E' : Value → Shared → Prop, wpAny (model prog w) A.in1.in1 (Builtin.«list.sort» ⟨[.ref (s.heap.objs.size + 1)], kw⟩) (fun f s' => f = .done (.ret .none) ∧ Q (.ref (s.heap.objs.size + 1)) s') E' { s with heap := copyHeap s.heap vs }) :
    wpAny (model prog w) A (call (.builtin "sorted") [.ref l] kw) Q E s := by
  refine call_function_entry_kw kind_sorted plain_sorted entry_sorted ha1 ?_
  unfold Builtin.«sorted»
  refine wpAny_bind (m := checkCount "sorted" 1 1 _) (wpAny_pure ?_)
  refine wpAny_bind (collect_tup hl ?_ hL)
  refine wpAny_bind (wpAny_newList ?_ hL)
  have hsz : ((s.heap.push (seqObj "list" #[] 0)).update s.heap.objs.size (Obj.mapSeq (· ++ vs.toArray))).objs.size = s.heap.objs.size + 1 := by
    rw [Heap.size_update, size_push']
  show wpAny _ _ _ _ _ { s with heap := copyHeap s.heap vs }
  rw [hsz]
  refine wpAny_bind (wpAny_holding (wpAny_call_entry_kw slot_list_sort ⟨_, copyHeap_at s.heap vs, rfl⟩ entry_list_sort ?body (ha2 _)))
  case body =>
    show wpAny (model prog w) A.in1.in1 (Builtin.«list.sort» ⟨[.ref (s.heap.objs.size + 1)], kw⟩) _ _ _
    refine wpAny_mono (body _) (fun f s' hf => ?_) fun _ _ e => e
    obtain ⟨rfl, hq⟩ := hf
    exact ⟨_, rfl, wpAny_pure ⟨_, rfl, hq⟩⟩
variable {β : Type} {vs : List Value} {bs : List β} {enc : β → PyData} {R : Value → β → Prop}
theorem sorted_dataT {l : Addr} {Q : Value → Shared → Prop} (hl : s.heap.IsTuple l vs.toArray) (e : EachIs R vs bs) (er : EachIs (fun v b => ∃ as, Reads s.heap v (enc b) as) vs bs) (hal : AllAlike (bs.map enc)) (hk : Sortable (bs.map enc)) (hL : bs.length ≤ sizeLine)
    (hu : ∀ b, b ∈ bs → A.units + 2 + (enc b).depth < cLine) (h : ∀ out, out.length = bs.length → EachIs R out (bs.mergeSort (dataLe false enc)) → Q (.ref (s.heap.objs.size + 1)) { s with heap := sortedAll s.heap vs (List.toArray out) }) :
    wpAny (model prog w) A (call (.builtin "sorted") [.ref l]) Q E s := by
  have er' : EachIs (fun v b => ∃ as, Reads (sortingHeap (copyHeap s.heap vs) (s.heap.objs.size + 1) vs) v (enc b) as) vs bs := er.mono fun _ _ ⟨as, r⟩ => ⟨as, PyProof.Rows.Reads.keeps (fun _ _ => sorting_copy_old) r⟩
  have hL2 : vs.length ≤ sizeLine := by rw [e.length]; exact hL
  exact sorted_of_sortT hl hL2 (args_sorted1 _) (fun _ => args_list_sort _) fun _ => list_sort_vals (s := { s with heap := copyHeap s.heap vs }) (copyHeap_at s.heap vs) (SortsAt.data (s := { s with heap := sortingHeap (copyHeap s.heap vs) (s.heap.objs.size + 1) vs }) (each_map (R := fun v d => ∃ as, Reads (sortingHeap (copyHeap s.heap vs) (s.heap.objs.size + 1) vs) v d as) enc er') hal hk (bound_map hu)) hL2
    ⟨rfl, h _ (by rw [sortVals_length false rfl]; exact e.length) (sortVals_data false e er' hal)⟩
end
section
variable {X : Cx}
def dSortPT : GN := d1 fun s mu => match s with
  | .d (.tup ds) => (asPairs ds).bind fun ps => if ps.length < 1000 then some (.lst ((sortP ps).map pairI)) else none
  | _ => none
theorem cr_sortPT (hu : X.A.units + 65 < cLine) : CallR X (.builtin "sorted") (rND X.K dSortPT) := by
  intro pins s σ H xs us Q I rv q
  obtain ⟨ex, m, mu, ss, d, cf, rs, e0, k⟩ := q
  obtain ⟨sx, rfl, e⟩ := d1_inv e0
  clear e0
  obtain ⟨x, rfl, r⟩ := rss1 rs
  split at e
  · rename_i ds
    obtain ⟨ps, e2, e⟩ := Option.bind_eq_some_iff.mp e
    split at e
    · rename_i few
      cases e
      simp only [RS, R] at r
      obtain ⟨a, vs, rfl, h, g⟩ := r
      have ed := asPairs_inv e2
      subst ed
      rw [Vals.ref1 rv]
      obtain ⟨its, rv2, tp, _⟩ := I.tuple (SqT.of (vw_sub _ _ h))
      obtain ⟨each, rel, second⟩ := zip_each g rv2
      have lz : (vs.zip ps).length = ps.length := by
        have := congrArg List.length second
        rwa [List.length_map] at this
      refine sorted_dataT (enc := encB) tp each (reads_each I cf each rel) (fun d1 h1 d2 h2 => ?_) (.inl fun d1 h1 => ?_) (by rw [lz, sizeLine_eq]; omega) (fun b _ => ?_) fun out ol oe => ?_
      · obtain ⟨b1, _, rfl⟩ := List.mem_map.mp h1
        obtain ⟨b2, _, rfl⟩ := List.mem_map.mp h2
        rfl
      · obtain ⟨b1, _, rfl⟩ := List.mem_map.mp h1
        exact ⟨_, _, rfl⟩
      · have : (encB b).depth = 1 := rfl
        omega
      obtain ⟨ep, he⟩ := PyProof.Rows.sortedAll_at s.heap its (List.toArray out)
      have eq2 : ((vs.zip ps).mergeSort (PySem.W.dataLe false encB)).map (fun b => b.2) = sortP ps := by
        have ele : PySem.W.dataLe false encB = fun (p q : V × (Int × Int)) => leP p.2 q.2 := PySem.W.dataLe_ii (fun (b : V × (Int × Int)) => b.2.1) fun b => b.2.2
        rw [ele, List.map_mergeSort (s := leP) (f := fun (b : V × (Int × Int)) => b.2) (fun _ _ _ _ => rfl), second]
        rfl
      have rn := rs_all (K := X.K) (H := vw ex m mu H) (bs := (vs.zip ps).mergeSort (PySem.W.dataLe false encB)) fun b hb => rel b (List.mem_mergeSort.mp hb)
      rw [eq2] at rn
      have hp : H (s.heap.objs.size + 1) = none := I.hok.fresh (Nat.le_succ _)
      have lv : (((vs.zip ps).mergeSort (PySem.W.dataLe false encB)).map fun b => b.1).length ≤ sizeLine := by
        rw [List.length_map, List.length_mergeSort, lz, sizeLine_eq]
        omega
      have I2 : Inv X pins σ (upd H (s.heap.objs.size + 1) (.lst (((vs.zip ps).mergeSort (PySem.W.dataLe false encB)).map fun b => b.1))) { s with heap := PyProof.Rows.sortedAll s.heap its (List.toArray out), toks := s.toks } :=
        I.laid (t' := s.toks) (fun b o => PyProof.Rows.sortedAll_old) (Nat.le_succ _) ⟨lv, out, ep, vals_each oe, he⟩
      exact ⟨.ref _, _, I2, rfl, k _ _ (grown cf hp) (new_lst cf hp rn)⟩
    · cases e
  · cases e
theorem on_sortPT {ps : List (Int × Int)} {mu : Mu} (h : ps.length < 1000) : dSortPT [.d (.tup (ps.map pairI))] mu = some (.lst ((sortP ps).map pairI)) := by
  show (asPairs (ps.map pairI)).bind _ = _
  rw [asPairs_map]
  exact if_pos h
end
end DL
set_option Elab.async false
set_option linter.all false
set_option maxRecDepth 100000
set_option maxHeartbeats 2000000
/-! SortH: sorted of tuples of texts, empty ones among them -/
namespace DL
open PySem PySem.Spec L2 PySem.W PySem.SeqAt
open PyProof.Rows
section
variable {prog : Program} {w : World} {A : Around} {E : Value → Shared → Prop} {s : Shared}
theorem call_tuple_lt {Q : Value → Shared → Prop} {l b : Addr} {items items2 : Array Value} {e r : Nat → Bool} (hl : s.heap.IsTuple l items) (hb : s.heap.IsTuple b items2)
    (he : ∀ j (h1 : j < items.size) (h2 : j < items2.size), EqAt A.in1 s items[j] items2[j] (e j)) (hr : ∀ j (h1 : j < items.size) (h2 : j < items2.size), e j = false → RcLt A.in1 s items[j] items2[j] (r j))
    (h : Q (.bool (firstLt e r (decide (items.size < items2.size)) (List.range (min items.size items2.size)))) s) : wpAny (model prog w) A (call (.builtin "tuple.__lt__") [.ref l, .ref b]) Q E s := by
  obtain ⟨⟨cls, dd, data, sl⟩, ho, hc, n, hd⟩ := id hl
  obtain ⟨⟨cls2, dd2, data2, sl2⟩, ho2, hc2, n2, hd2⟩ := id hb
  simp only at hc hd hc2 hd2
  subst hc hd hc2 hd2
  exact call_meets F.slot_tuple_lt ⟨_, ho, rfl⟩ F.entry_tuple_lt (F.args_tuple_lt_2 _ _) (tuple_ltAt l b items items2 n n2 dd dd2 sl sl2 e r) ⟨ho, ho2, he, hr, h⟩
theorem oneLt_tup {xs ys : List PyData} {a b : Value} {as bs : List Addr} {Q : Bool → Shared → Prop} (ra : Reads s.heap a (.tuple xs) as) (rb : Reads s.heap b (.tuple ys) bs) (h : alike (.tuple xs) (.tuple ys) = true)
    (hu : A.units + min (PyData.tuple xs).depth (PyData.tuple ys).depth < cLine) (hq : Q (dataLt (.tuple xs) (.tuple ys)) s) : wpAny (model prog w) A (oneLt' true a b) Q E s := by
  have hal : alikeAll xs ys = true := by simpa [alike] using h
  cases ra with
  | @tuple l o vs n _ as₁ h1 h2 h3 h4 =>
    cases rb with
    | @tuple l' o' vs' n' _ bs₁ k1 k2 k3 k4 =>
      have n1 : vs.size = xs.length := by simpa using ReadsAll.length _ _ _ h4
      have n2 : vs'.size = ys.length := by simpa using ReadsAll.length _ _ _ k4
      rw [dataLt_tuple, ← firstLt_toks xs ys hal, ← n1, ← n2] at hq
      rw [oneLt'_eq]
      simp only [if_true]
      refine wpAny_bind (wpAny_cRoomFor (room_here hu) ?_)
      refine wpAny_bind (wpAny_callSpecialIfBound?_slot (T := "tuple") ⟨_, h1, h2⟩ F.slot_tuple_lt (call_tuple_lt (e := pairEq xs ys) (r := fun j => dataLt (xs.getD j .none) (ys.getD j .none)) ⟨_, h1, h2, _, h3⟩ ⟨_, k1, k2, _, k3⟩ (fun j j1 j2 => ?_) (fun j j1 j2 hj => ?_) ?_))
      · have := eqAt_alikeAll xs ys A.in1 s vs.toList vs'.toList _ _ h4 k4 hal (room_in hu) j (by simpa using j1) (by simpa using j2)
        simpa using this
      · have := rcLt_alikeAll xs ys A.in1 s vs.toList vs'.toList _ _ h4 k4 hal (room_in hu) j (by simpa using j1) (by simpa using j2) hj
        simpa using this
      · exact wpAny_truthy_bool hq
def isNe : PyData → Bool
  | .tuple (_ :: _) => true
  | _ => false
theorem firsts_mixed {M : Model} : ∀ {vs : List Value} {ds : List PyData} {Q : List (Option Value) → Shared → Prop}, EachIs (fun v d => ∃ as, Reads s.heap v d as) vs ds → (∀ d ∈ ds, ∃ xs, d = .tuple xs) →
    (∀ fs : List (Option Value), fs.map Option.isSome = ds.map isNe → Q fs s) → wpAny M A (vs.mapM firstOfTuple') Q E s
  | _, _, Q, .nil, _, h => by
    rw [List.mapM_nil]
    exact wpAny_pure (h [] rfl)
  | _, _, Q, .cons (b := d) ⟨as, r⟩ t, ht, h => by
    obtain ⟨xs, rfl⟩ := ht d (List.mem_cons_self ..)
    cases r with
    | @tuple a o items n _ _ ho hc hd hr =>
      rw [List.mapM_cons]
      refine wpAny_bind ?_
      rw [kas_first_eq]
      refine wpAny_bind (Looks.here (show Looks M s.heap (typeOf (.ref a)) o.cls from (Looks.ld ho).andThen .now) ?_)
      rw [hc, if_neg (by first | decide | simp)]
      refine wpAny_bind (listItems_at ho hd (wpAny_pure ?_))
      refine wpAny_bind (firsts_mixed t (fun d hd => ht d (List.mem_cons_of_mem _ hd)) fun fs e => wpAny_pure (h _ ?_))
      rw [List.map_cons, List.map_cons, e]
      congr 1
      have n1 : items.size = xs.length := by simpa using ReadsAll.length _ _ _ hr
      cases xs with
      | nil =>
        rw [List.length_nil] at n1
        rw [Array.getElem?_eq_none (by omega)]
        rfl
      | cons x xs =>
        rw [List.length_cons] at n1
        rw [Array.getElem?_eq_getElem (by omega)]
        rfl
theorem kind_mixed {M : Model} {vs : List Value} {ds : List PyData} {Q : SortKind → Shared → Prop} (h2 : 2 ≤ vs.length) (e : EachIs (fun v d => ∃ as, Reads s.heap v d as) vs ds) (ht : ∀ d ∈ ds, ∃ xs, d = .tuple xs) (hn : (ds.all isNe) = false)
    (h : Q (if (ds.getD 0 .none |> isNe) = true then general' else oneType') s) : wpAny M A (keyKind' vs.toArray) Q E s := by
  rw [keyKind'_eq, List.mapM_toArray, map_eq_pure_bind]
  refine wpAny_bind (wpAny_bind (firsts_mixed e ht fun fs ef => wpAny_pure ?_))
  have h1 : (fs.toArray.all fun x => x.isSome) = false := by
    rw [List.all_toArray, ← hn]
    have : fs.all (fun x => x.isSome) = (fs.map Option.isSome).all id := by rw [List.all_map]; rfl
    rw [this, ef, List.all_map]
    rfl
  rw [if_neg (by rw [h1]; decide)]
  have le : vs.length = ds.length := e.length
  have lf : fs.length = ds.length := by
    have := congrArg List.length ef
    rwa [List.length_map, List.length_map] at this
  cases ds with
  | nil =>
    rw [List.length_nil] at le
    omega
  | cons d ds =>
    cases fs with
    | nil => cases lf
    | cons f fs =>
      rw [List.map_cons, List.map_cons] at ef
      have ef0 : f.isSome = isNe d := (List.cons.inj ef).1
      have e0 : ((f :: fs).toArray[0]?.bind id).isSome = isNe d := by
        rw [← ef0]
        simp
      rw [e0]
      have h : Q (if isNe d = true then general' else oneType') s := h
      cases hd : isNe d with
      | true =>
        rw [hd, if_pos rfl] at h
        rw [if_pos rfl]
        exact wpAny_pure h
      | false =>
        rw [hd, if_neg (by decide)] at h
        rw [if_neg (by decide)]
        have hT : ∀ v ∈ vs, Looks M s.heap (typeOf v) (Value.type "tuple") := fun v hv => by
          obtain ⟨d', hd', as, r⟩ := e.left v hv
          obtain ⟨xs, rfl⟩ := ht d' hd'
          exact looks_reads r
        rw [oneTypeOnly'_eq, List.mapM_toArray, map_eq_pure_bind]
        refine wpAny_bind (wpAny_bind (wpAny_bind (kas_mapM (r := Value.type "tuple") _ (fun v hv Q' hq => (hT v hv).here hq) (wpAny_pure ?_))))
        obtain ⟨v₁, rest, rfl⟩ : ∃ v₁ rest, vs = v₁ :: rest := by
          match vs, h2 with
          | [], h2 => simp at h2
          | v :: r, _ => exact ⟨v, r, rfl⟩
        have hall : ((List.map (fun _ => Value.type "tuple") (v₁ :: rest)).toArray.all fun x => x == Value.type "tuple") = true := by
          simp only [List.all_toArray, List.all_map, List.all_eq_true]
          intro _ _
          exact beq_self_eq_true _
        have h0 : (List.map (fun _ => Value.type "tuple") (v₁ :: rest)).toArray[0]? = some (Value.type "tuple") := by simp
        rw [h0]
        simp only [hall, if_true]
        exact wpAny_pure (wpAny_pure h)
theorem SortsAt.mixed {vs : List Value} {ds : List PyData} (e : EachIs (fun v d => ∃ as, Reads s.heap v d as) vs ds) (hal : AllAlike ds) (ht : ∀ d ∈ ds, ∃ xs, d = .tuple xs) (hn : (ds.all isNe) = false) (hu : ∀ d, d ∈ ds → A.units + d.depth < cLine) : SortsAt prog w A s (dataKind s.heap ds) vs := by
  have room : ∀ {d d' : PyData}, d ∈ ds → A.units + min d.depth d'.depth < cLine := fun {d d'} hd => Nat.lt_of_le_of_lt (Nat.add_le_add_left (Nat.min_le_left _ _) _) (hu d hd)
  refine ⟨fun v hv => ?_, if (ds.getD 0 .none |> isNe) = true then general' else oneType', ?_, fun h2 E Q hq => kind_mixed h2 e ht hn hq⟩
  · obtain ⟨d, hd, as, r⟩ := e.left v hv
    exact ⟨_, dataKind_some hal hd r⟩
  · intro E x y a b Q ha hb hq
    obtain ⟨d, as, hd, ra, rfl⟩ := dataKind_inv ha
    obtain ⟨d', as', hd', rb, rfl⟩ := dataKind_inv hb
    obtain ⟨xs, rfl⟩ := ht d hd
    obtain ⟨ys, rfl⟩ := ht d' hd'
    split
    · exact oneLt_alike (f := false) (fun z => by cases z) ra rb (hal _ hd _ hd') (fun z => by cases z) (room hd) hq
    · exact oneLt_tup ra rb (hal _ hd _ hd') (room hd) hq
theorem SortsAt.tups {vs : List Value} {ds : List PyData} (e : EachIs (fun v d => ∃ as, Reads s.heap v d as) vs ds) (hal : AllAlike ds) (ht : ∀ d ∈ ds, ∃ xs, d = .tuple xs) (hu : ∀ d, d ∈ ds → A.units + d.depth < cLine) : SortsAt prog w A s (dataKind s.heap ds) vs := by
  cases hn : ds.all isNe with
  | false => exact SortsAt.mixed e hal ht hn hu
  | true =>
    refine SortsAt.data e hal (.inl fun d hd => ?_) hu
    obtain ⟨xs, rfl⟩ := ht d hd
    have := List.all_eq_true.mp hn _ hd
    cases xs with
    | nil => cases this
    | cons x xs => exact ⟨x, xs, rfl⟩
variable {β : Type} {vs : List Value} {bs : List β} {enc : β → PyData} {R : Value → β → Prop}
theorem sorted_dataH {l : Addr} {Q : Value → Shared → Prop} (hl : s.heap.IsList l vs.toArray) (e : EachIs R vs bs) (er : EachIs (fun v b => ∃ as, Reads s.heap v (enc b) as) vs bs) (hal : AllAlike (bs.map enc)) (hk : ∀ d ∈ bs.map enc, ∃ xs, d = .tuple xs) (hL : bs.length ≤ sizeLine)
    (hu : ∀ b, b ∈ bs → A.units + 2 + (enc b).depth < cLine) (h : ∀ out, out.length = bs.length → EachIs R out (bs.mergeSort (dataLe false enc)) → Q (.ref (s.heap.objs.size + 1)) { s with heap := sortedAll s.heap vs (List.toArray out) }) :
    wpAny (model prog w) A (call (.builtin "sorted") [.ref l]) Q E s := by
  have er' : EachIs (fun v b => ∃ as, Reads (sortingHeap (copyHeap s.heap vs) (s.heap.objs.size + 1) vs) v (enc b) as) vs bs := er.mono fun _ _ ⟨as, r⟩ => ⟨as, PyProof.Rows.Reads.keeps (fun _ _ => sorting_copy_old) r⟩
  exact sorted_vals hl (SortsAt.tups (s := { s with heap := sortingHeap (copyHeap s.heap vs) (s.heap.objs.size + 1) vs }) (each_map (R := fun v d => ∃ as, Reads (sortingHeap (copyHeap s.heap vs) (s.heap.objs.size + 1) vs) v d as) enc er') hal hk (bound_map hu)) (by rw [e.length]; exact hL)
    (h _ (by rw [sortVals_length false rfl]; exact e.length) (sortVals_data false e er' hal))
end
end DL

namespace DL
open PySem PySem.Spec L2
abbrev headT (zs : List Str) : D := .tup (zs.map D.str)
def asHeads : List D → Option (List (List Str))
  | [] => some []
  | .tup xs :: r => (asStrs xs).bind fun zs => (asHeads r).map (zs :: ·)
  | _ => none
theorem asHeads_inv : ∀ {ds : List D} {hs : List (List Str)}, asHeads ds = some hs → ds = hs.map headT
  | [], hs, e => by
    cases e
    rfl
  | d :: ds, hs, e => by
    unfold asHeads at e
    split at e
    · rename_i h
      cases h
    · rename_i xs r h
      cases h
      obtain ⟨zs, e1, e2⟩ := Option.bind_eq_some_iff.mp e
      obtain ⟨gs, e3, rfl⟩ := Option.map_eq_some_iff.mp e2
      rw [asHeads_inv e3, List.map_cons]
      have : xs = zs.map D.str := by
        clear e e2 e3
        induction xs generalizing zs with
        | nil =>
          cases e1
          rfl
        | cons x xs ih =>
          cases x with
          | str z =>
            obtain ⟨ws, f1, rfl⟩ := Option.map_eq_some_iff.mp (show (asStrs xs).map (z :: ·) = some zs from e1)
            rw [ih ws f1]
            rfl
          | _ => cases e1
      rw [this]
    · cases e
theorem asHeads_map : ∀ hs : List (List Str), asHeads (hs.map headT) = some hs
  | [] => rfl
  | h :: hs => by
    show (asStrs (h.map D.str)).bind _ = _
    rw [asStrs_map]
    show (asHeads (hs.map headT)).map (h :: ·) = _
    rw [asHeads_map hs]
    rfl
abbrev encT (zs : List Str) : PyData := .tuple (zs.map PyData.str)
def leH (a b : List Str) : Bool := PySem.W.dataLe false encT a b
def sortH (hs : List (List Str)) : List (List Str) := hs.mergeSort leH
abbrev encH (b : V × List Str) : PyData := encT b.2
theorem alike_strs : ∀ a b : List Str, PySem.W.alikeAll (a.map PyData.str) (b.map PyData.str) = true
  | [], _ => by simp [PySem.W.alikeAll]
  | _ :: _, [] => by simp [PySem.W.alikeAll]
  | x :: a, y :: b => by
    simp only [List.map_cons, PySem.W.alikeAll, alike_strs a b, PySem.W.alike, Bool.and_self]
theorem toPyT (zs : List Str) : toPy (headT zs) = some (encT zs) := by
  simp only [toPy, pys_strs, Option.map_some]
theorem depthT (zs : List Str) : (encT zs).depth = 1 := by
  show PyData.depthAll _ + 1 = 1
  rw [depth_strs]
open PySem.W (EachIs) in
theorem zip_eachH {K : Frag} {H : Hp} : ∀ {ps : List (List Str)} {vs : List V} {its : List Value}, Rs K H (ps.map headT) vs → Vals vs its →
    EachIs (fun v (b : V × List Str) => RelV b.1 v) its (vs.zip ps) ∧ (∀ b ∈ vs.zip ps, R K H (headT b.2) b.1) ∧ (vs.zip ps).map (fun b => b.2) = ps
  | [], vs, its, r, rv => by
    obtain rfl := r.inv0
    cases rv
    exact ⟨.nil, (fun b hb => by cases hb), rfl⟩
  | p :: ps, vs, its, r, rv => by
    obtain ⟨v, vs2, rfl, h1, h2⟩ := r.inv
    cases rv with
    | cons a t =>
      obtain ⟨k1, k2, k3⟩ := zip_eachH h2 t
      refine ⟨.cons a k1, fun b hb => ?_, ?_⟩
      · rw [List.zip_cons_cons] at hb
        rcases List.mem_cons.mp hb with e | e
        · rw [e]
          exact h1
        · exact k2 b e
      · rw [List.zip_cons_cons, List.map_cons, k3]
theorem rs_allH {K : Frag} {H : Hp} : ∀ {bs : List (V × List Str)}, (∀ b ∈ bs, R K H (headT b.2) b.1) → Rs K H ((bs.map fun b => b.2).map headT) (bs.map fun b => b.1)
  | [], _ => Rs.nil
  | b :: bs, h => by
    rw [List.map_cons, List.map_cons, List.map_cons]
    exact Rs.cons (h b (List.mem_cons_self ..)) (rs_allH fun c hc => h c (List.mem_cons_of_mem _ hc))
open PySem.W (EachIs) in
theorem vals_eachH : ∀ {out : List Value} {bs : List (V × List Str)}, EachIs (fun v (b : V × List Str) => RelV b.1 v) out bs → Vals (bs.map fun b => b.1) out
  | _, _, .nil => .nil
  | _, _, .cons a t => .cons a (vals_eachH t)
section
variable {X : Cx}
open PySem.W (EachIs) in
theorem reads_eachH {pins : List (Addr × Obj)} {σ : L2.St} {H : Hp} {s : Shared} {ex m : List Addr} {mu : Mu} (I : Inv X pins σ H s) (cf : Cfg X.K ex m mu H) : ∀ {its : List Value} {bs : List (V × List Str)}, EachIs (fun v (b : V × List Str) => RelV b.1 v) its bs →
    (∀ b ∈ bs, R X.K (vw ex m mu H) (headT b.2) b.1) → EachIs (fun v (b : V × List Str) => ∃ as, Reads s.heap v (encH b) as) its bs
  | _, _, .nil, _ => .nil
  | _, _, .cons (b := b) a t, h => .cons (by
      have r := h _ (List.mem_cons_self ..)
      have z : RS X.K m (vw ex m mu H) (.d (headT b.2)) b.1 := by simpa only [RS] using r
      exact Dp.reads I (encH b) b.1 _ (toPy_ok _ _ _ (pk_ok cf z rfl) (toPyT b.2)) a) (reads_eachH I cf t fun c hc => h c (List.mem_cons_of_mem _ hc))
theorem sortH_core (hu : X.A.units + 65 < cLine) {pins : List (Addr × Obj)} {σ : L2.St} {H : Hp} {s : Shared} {ex m : List Addr} {mu : Mu} {a : Addr} {vs : List V} {hs : List (List Str)} {Q : VK} (I : Inv X pins σ H s) (cf : Cfg X.K ex m mu H)
    (h : H a = some (.lst vs)) (g : Rs X.K (vw ex m mu H) (hs.map headT) vs) (few : hs.length < 1000)
    (fin : ∀ (us : List V) (p : Addr), H p = none → Rs X.K (vw ex m mu H) ((sortH hs).map headT) us → Q (.ref p) (upd H p (.lst us))) :
    wpAny (model X.prog X.w) X.A (call (.builtin "sorted") [.ref a]) (EP X pins σ Q) X.xe s := by
  obtain ⟨its, rv2, ls, _⟩ := I.list (SqL.of h)
  obtain ⟨each, rel, second⟩ := zip_eachH g rv2
  have lz : (vs.zip hs).length = hs.length := by
    have := congrArg List.length second
    rwa [List.length_map] at this
  refine sorted_dataH (enc := encH) ls.isList each (reads_eachH I cf each rel) (fun d1 h1 d2 h2 => ?_) (fun d1 h1 => ?_) (by rw [lz, sizeLine_eq]; omega) (fun b _ => ?_) fun out ol oe => ?_
  · obtain ⟨b1, _, rfl⟩ := List.mem_map.mp h1
    obtain ⟨b2, _, rfl⟩ := List.mem_map.mp h2
    show PySem.W.alike (.tuple _) (.tuple _) = true
    simp only [PySem.W.alike, alike_strs]
  · obtain ⟨b1, _, rfl⟩ := List.mem_map.mp h1
    exact ⟨_, rfl⟩
  · have := depthT b.2
    show X.A.units + 2 + (encT b.2).depth < cLine
    omega
  obtain ⟨ep, he⟩ := PyProof.Rows.sortedAll_at s.heap its (List.toArray out)
  have eq2 : ((vs.zip hs).mergeSort (PySem.W.dataLe false encH)).map (fun b => b.2) = sortH hs := by
    have ele : PySem.W.dataLe false encH = fun (p q : V × List Str) => leH p.2 q.2 := rfl
    rw [ele, List.map_mergeSort (s := leH) (f := fun (b : V × List Str) => b.2) (fun _ _ _ _ => rfl), second]
    rfl
  have rn := rs_allH (K := X.K) (H := vw ex m mu H) (bs := (vs.zip hs).mergeSort (PySem.W.dataLe false encH)) fun b hb => rel b (List.mem_mergeSort.mp hb)
  rw [eq2] at rn
  have hp : H (s.heap.objs.size + 1) = none := I.hok.fresh (Nat.le_succ _)
  have lv : (((vs.zip hs).mergeSort (PySem.W.dataLe false encH)).map fun b => b.1).length ≤ sizeLine := by
    rw [List.length_map, List.length_mergeSort, lz, sizeLine_eq]
    omega
  have I2 : Inv X pins σ (upd H (s.heap.objs.size + 1) (.lst (((vs.zip hs).mergeSort (PySem.W.dataLe false encH)).map fun b => b.1))) { s with heap := PyProof.Rows.sortedAll s.heap its (List.toArray out), toks := s.toks } :=
    I.laid (t' := s.toks) (fun b o => PyProof.Rows.sortedAll_old) (Nat.le_succ _) ⟨lv, out, ep, vals_eachH oe, he⟩
  exact ⟨.ref _, _, I2, rfl, fin _ _ hp rn⟩
def dSortH : GN := d1 fun s mu => (rdL s mu).bind fun ds => (asHeads ds).bind fun hs => if hs.length < 1000 then some (.lst ((sortH hs).map headT)) else none
theorem cr_sortH (hu : X.A.units + 65 < cLine) : CallR X (.builtin "sorted") (rND X.K dSortH) := by
  intro pins s σ H xs us Q I rv q
  obtain ⟨ex, m, mu, ss, d, cf, rs, e0, k⟩ := q
  obtain ⟨sx, rfl, e⟩ := d1_inv e0
  clear e0
  obtain ⟨x, rfl, r⟩ := rss1 rs
  obtain ⟨ds, e1, e⟩ := Option.bind_eq_some_iff.mp e
  obtain ⟨hs, e2, e⟩ := Option.bind_eq_some_iff.mp e
  split at e
  · rename_i few
    cases e
    obtain ⟨a, vs, rfl, h, g⟩ := rdL_ok cf r e1
    have ed := asHeads_inv e2
    subst ed
    rw [Vals.ref1 rv]
    exact sortH_core hu I cf h g few fun us p hp rn => k _ _ (grown cf hp) (new_lst cf hp rn)
  · cases e
variable {e : Expr} {fs : WA} {p q pos : Pos}
/-- sorted(hs) that will change -/
def wSortHM (fs : WA) : WE := fun sl mu Q => fs sl mu fun ss mu1 => match ss with
  | [s] => On ((rdL s mu1).bind asHeads) fun hs => hs.length < 1000 ∧ Q (.h mu1.length) (mu1 ++ [some (.lst ((sortH hs).map headT))])
  | _ => False
theorem e_sortHM {sl : Sl} {mu : Mu} {Q : S → Mu → Prop} (q : fs sl mu fun ss mu1 => As1 ss fun s => On ((rdL s mu1).bind asHeads) fun hs => hs.length < 1000 ∧ Q (.h mu1.length) (mu1 ++ [some (.lst ((sortH hs).map headT))])) : wSortHM fs sl mu Q := q
theorem re_sortHM (hu : X.A.units + 65 < cLine) (hg : Gl X "sorted") (hm : X.mg "sorted" = none) (ha : RA X [e] fs)
    (na : starEach [e] X.env = (false, eval e X.env) :: starEach [] X.env := by rfl) : RE X (.Call (.Name "sorted" p) [e] [] pos) (wSortHM fs) := by
  refine ⟨fun pins s σ H Q I h => ?_⟩
  obtain ⟨ex, m, sl, mu, Qd, cf, sr, wq, k⟩ := h
  refine PyProof.Rows.Call_ (ld_blt I hg hm bt_sorted ?_)
  refine PyProof.Rows.callWith_builtin1 (thn (ha.run pos pins s σ H (fun vs H1 => ∃ m1 mu1 y hs, vs = [y] ∧ Cfg X.K ex m1 mu1 H1 ∧ Ext ex m mu H m1 mu1 H1 ∧ (∃ a ws, y = .ref a ∧ H1 a = some (.lst ws) ∧ Rs X.K (vw ex m1 mu1 H1) (hs.map headT) ws) ∧ hs.length < 1000 ∧ Qd (.h mu1.length) (mu1 ++ [some (.lst ((sortH hs).map headT))])) I
    ⟨ex, m, sl, mu, _, cf, sr, wq, fun ss mu1 m1 H1 vs cf1 x1 r1 q1 => ?_⟩) fun us s1 ⟨vs, H1, I1, rv, q1⟩ => ?_) na rfl
  · split at q1
    · obtain ⟨hs, eh, l1, q1⟩ := On.elim q1
      obtain ⟨ds, e1, e2⟩ := Option.bind_eq_some_iff.mp eh
      obtain ⟨y, rfl, r⟩ := rss1 r1
      obtain ⟨a, ws, rfl, h1, g⟩ := rdL_ok cf1 r e1
      have ed := asHeads_inv e2
      subst ed
      exact ⟨m1, mu1, _, hs, rfl, cf1, x1, ⟨a, ws, rfl, h1, g⟩, l1, q1⟩
    · exact q1.elim
  · obtain ⟨m1, mu1, y, hs, rfl, cf1, x1, ⟨a, ws, rfl, h1, g⟩, l1, q1⟩ := q1
    rw [Vals.ref1 rv]
    refine sortH_core hu I1 cf1 h1 g l1 fun us2 p2 hp rn => ?_
    obtain ⟨c, e2, rr⟩ := hnd_new cf1 hp rn
    exact k _ _ _ _ _ c (x1.trans e2) rr q1
end
theorem on_sortH {hs : List (List Str)} {mu : Mu} (h : hs.length < 1000) : dSortH [.d (.lst (hs.map headT))] mu = some (.lst ((sortH hs).map headT)) := by
  show (asHeads (hs.map headT)).bind _ = _
  rw [asHeads_map]
  exact if_pos h
/-! the order of tuples of texts -/
def headLt : List Str → List Str → Bool
  | [], [] => false
  | [], _ :: _ => true
  | _ :: _, [] => false
  | x :: xs, y :: ys => if x = y then headLt xs ys else strLt x y
theorem leH_eq (a b : List Str) : leH a b = !headLt b a := by
  have key : ∀ xs ys : List Str, PySem.W.rowLt (xs.map .str) (ys.map .str) = headLt xs ys := by
    intro xs
    induction xs with
    | nil =>
      intro ys
      cases ys with
      | nil => exact PyProof.Rows.lex_irrefl _
      | cons y ys =>
        unfold PySem.W.rowLt
        rw [List.map_cons, PySem.W.toks_all_cons]
        simp only [PySem.W.keyToksAll, List.map_nil]
        rw [PyProof.Rows.lex_diff (O := PyProof.Rows.itemOrd) (by simp)]
        rfl
    | cons x xs ih =>
      intro ys
      cases ys with
      | nil =>
        unfold PySem.W.rowLt
        rw [List.map_cons, PySem.W.toks_all_cons]
        simp only [PySem.W.keyToksAll, List.map_nil]
        rw [PyProof.Rows.lex_diff (O := PyProof.Rows.itemOrd) (by simp)]
        rfl
      | cons y ys =>
        show PySem.W.rowLt (PyData.str x :: xs.map .str) (PyData.str y :: ys.map .str) = if x = y then headLt xs ys else strLt x y
        have e : PySem.W.rowLt (PyData.str x :: xs.map .str) (PyData.str y :: ys.map .str) = if x = y then PySem.W.rowLt (xs.map .str) (ys.map .str) else decide (x.cps.toList < y.cps.toList) := by
          unfold PySem.W.rowLt
          rw [PySem.W.dataLt_cons (by simp [PySem.W.alike]), PySem.W.dataLt_str]
          simp only [PyData.eqv, beq_iff_eq]
        rw [e, ih ys]
        rfl
  unfold leH
  show (!PySem.W.dataLt (encT b) (encT a)) = _
  rw [PySem.W.dataLt_tuple]
  exact congrArg _ (key b a)
end DL
set_option Elab.async false
set_option linter.all false
set_option maxRecDepth 100000
set_option maxHeartbeats 1000000
/-! SetCM: x = [.. for ..], a list that changes later -/
namespace DL
open PySem PySem.Spec L2
section
variable {X : Cx} {pos : Pos} {elt tg iter : Expr} {ifs : List Expr} {scope : Scope} {own : List (Str × Nat)} {fi : WI} {g : WG} {tt : WT} {te : WE} {mk : List S → Option MO}
theorem rs_setCM {i : Nat} {y : Str} {py spos : Pos} (hmk : MkOk mk) (hc : X.calm = true) (hN : X.N.Nodup) (hy : X.N[i]? = some y) (hyl : X.env.scope.names.lookup y = some .local)
    (hsw : swapsWith (.ListComp elt [⟨tg, iter, ifs, 0⟩] scope pos) (some (.Name y py)) spos.line X.env = pure true) (hi : RI X tg iter fi) (ok : BlkOk X.N X.env.scope scope own)
    (hg : ∀ (s : Shared) (H : Hp) (C : Addr) (cl : List (Str × Addr)) (fp : List Addr), RG (X.blk s H scope (compEnvC scope cl C X.env) fp) tg (own.map (·.2)) g)
    (ht : ∀ (s : Shared) (H : Hp) (C : Addr) (cl : List (Str × Addr)) (fp : List Addr), RTs (X.blk s H scope (compEnvC scope cl C X.env) fp) ifs tt)
    (he : ∀ (s : Shared) (H : Hp) (C : Addr) (cl : List (Str × Addr)) (fp : List Addr), RE (X.blk s H scope (compEnvC scope cl C X.env) fp) elt te)
    (hs : ∀ x, foldedSetIterable iter X.env x = pure x := by intro _; rfl) : RSt X (.Assign [.Name y py] (.ListComp elt [⟨tg, iter, ifs, 0⟩] scope pos) spos) (wSet i (wCompM mk fi g tt te (own.map (·.2)))) :=
  ps_imp (ps_setLc (g := tG X.K (own.map fun (p : Str × Nat) => p.2) g) (tt := tT X.K tt) (te := tE X.K te) hc hN hy hyl hsw hi ok hg ht he hs) fun _ _ _ q => set_red (fun _ z => compM_red hmk z) q
end
end DL
set_option Elab.async false
set_option linter.all false
set_option maxRecDepth 100000
set_option maxHeartbeats 1000000
/-! GO: small rules for readings that are walked by themselves -/
namespace DL
open PySem PySem.Spec L2
section
variable {E : DEnds} {sl : Sl} {mu : Mu} {f fa fb fc : WE} {g h : WS} {t : WT} {Q : S → Mu → Prop} {fs : WA}
theorem on_dispR {f : List D → D} {ss : List S} {ds : List D} (e : allD ss = some ds) (h : Nat.blt ss.length 1000000 = true) : dDisp f ss mu = some (f ds) := on_disp e (by simpa using h)
inductive Ds : List S → List D → Prop
  | nil : Ds [] []
  | cons {x : D} {ss : List S} {ds : List D} : Ds ss ds → Ds (.d x :: ss) (x :: ds)
theorem Ds.all {ss : List S} {ds : List D} (h : Ds ss ds) : allD ss = some ds := by
  induction h with
  | nil => rfl
  | cons _ ih =>
    show (allD _).map _ = _
    rw [ih]
    rfl
theorem on_dispC {f : List D → D} {ss : List S} {ds : List D} (e : Ds ss ds) (h : Nat.blt ss.length 1000000 = true) : dDisp f ss mu = some (f ds) := on_disp e.all (by simpa using h)
theorem e_dec {p : Prop} [Decidable p] {A B : Prop} (q : p → A) (r : ¬ p → B) : if decide p = true then A else B := e_ite (fun h => q (of_decide_eq_true h)) fun h => r (of_decide_eq_false h)
theorem e_ndec {p : Prop} [Decidable p] {A B : Prop} (q : ¬ p → A) (r : p → B) : if (!decide p) = true then A else B := e_ite (fun h => q (by simpa using h)) fun h => r (by simpa using h)
theorem e_nt {A B : Prop} (q : B) : if (!true) = true then A else B := e_false q
theorem e_nf {A B : Prop} (q : A) : if (!false) = true then A else B := e_true q
theorem on_eqI {a b : Int} : dEq false (.d (.int a)) (.d (.int b)) mu = some (.bl (decide (a = b))) := by
  show some (D.bl (a == b)) = _
  rw [show (a == b) = decide (a = b) by rw [Bool.eq_iff_iff, beq_iff_eq, decide_eq_true_eq]]
theorem on_neI {a b : Int} : dEq true (.d (.int a)) (.d (.int b)) mu = some (.bl (!decide (a = b))) := by
  show some (D.bl (!(a == b))) = _
  rw [show (a == b) = decide (a = b) by rw [Bool.eq_iff_iff, beq_iff_eq, decide_eq_true_eq]]
theorem on_ltI {a b : Int} : dLt (.d (.int a)) (.d (.int b)) mu = some (.bl (decide (a < b))) := rfl
theorem on_ltN {a b : Nat} : dLt (.d (.int (a : Nat))) (.d (.int (b : Nat))) mu = some (.bl (decide (a < b))) := by
  rw [on_ltI, show decide (((a : Nat) : Int) < ((b : Nat) : Int)) = decide (a < b) by rw [Bool.eq_iff_iff, decide_eq_true_eq, decide_eq_true_eq]; omega]
theorem on_leI {a b : Int} : dLe (.d (.int a)) (.d (.int b)) mu = some (.bl (decide (a ≤ b))) := rfl
theorem on_leN {a b : Nat} : dLe (.d (.int (a : Nat))) (.d (.int (b : Nat))) mu = some (.bl (decide (a ≤ b))) := by
  rw [on_leI, show decide (((a : Nat) : Int) ≤ ((b : Nat) : Int)) = decide (a ≤ b) by rw [Bool.eq_iff_iff, decide_eq_true_eq, decide_eq_true_eq]; omega]
theorem on_gtI {a b : Int} : dGt (.d (.int a)) (.d (.int b)) mu = some (.bl (decide (b < a))) := rfl
theorem on_gtN {a b : Nat} : dGt (.d (.int (a : Nat))) (.d (.int (b : Nat))) mu = some (.bl (decide (b < a))) := by
  rw [on_gtI, show decide (((b : Nat) : Int) < ((a : Nat) : Int)) = decide (b < a) by rw [Bool.eq_iff_iff, decide_eq_true_eq, decide_eq_true_eq]; omega]
theorem on_geI {a b : Int} : dGe (.d (.int a)) (.d (.int b)) mu = some (.bl (decide (b ≤ a))) := rfl
theorem on_geN {a b : Nat} : dGe (.d (.int (a : Nat))) (.d (.int (b : Nat))) mu = some (.bl (decide (b ≤ a))) := by
  rw [on_geI, show decide (((b : Nat) : Int) ≤ ((a : Nat) : Int)) = decide (b ≤ a) by rw [Bool.eq_iff_iff, decide_eq_true_eq, decide_eq_true_eq]; omega]
theorem on_eqN {a b : Nat} : dEq false (.d (.int (a : Nat))) (.d (.int (b : Nat))) mu = some (.bl (decide (a = b))) := by
  rw [on_eqI, show decide (((a : Nat) : Int) = ((b : Nat) : Int)) = decide (a = b) by rw [Bool.eq_iff_iff, decide_eq_true_eq, decide_eq_true_eq]; omega]
theorem on_neN {a b : Nat} : dEq true (.d (.int (a : Nat))) (.d (.int (b : Nat))) mu = some (.bl (!decide (a = b))) := by
  rw [on_neI, show decide (((a : Nat) : Int) = ((b : Nat) : Int)) = decide (a = b) by rw [Bool.eq_iff_iff, decide_eq_true_eq, decide_eq_true_eq]; omega]
theorem on_sameS {x : Str} : dEq true (.d (.str x)) (.d (.str x)) mu = some (.bl false) := by
  show some (D.bl (!decide (x = x))) = _
  rw [decide_eq_true rfl]
  rfl
theorem on_eqS {a b : Str} : dEq false (.d (.str a)) (.d (.str b)) mu = some (.bl (decide (a = b))) := rfl
theorem on_neS {a b : Str} : dEq true (.d (.str a)) (.d (.str b)) mu = some (.bl (!decide (a = b))) := rfl
theorem on_lenTm {α : Type} {f : α → D} {xs : List α} : dLen [.d (.tup (xs.map f))] mu = some (.int (xs.length : Nat)) := by
  show some (D.int ((xs.map f).length : Nat)) = _
  rw [List.length_map]
theorem on_lenLm {α : Type} {f : α → D} {xs : List α} : dLen [.d (.lst (xs.map f))] mu = some (.int (xs.length : Nat)) := by
  show some (D.int ((xs.map f).length : Nat)) = _
  rw [List.length_map]
theorem on_lenT {ds : List D} : dLen [.d (.tup ds)] mu = some (.int (ds.length : Nat)) := rfl
theorem on_lenL {ds : List D} : dLen [.d (.lst ds)] mu = some (.int (ds.length : Nat)) := rfl
theorem on_tupleT {ds : List D} : dTuple [.d (.tup ds)] mu = some (.tup ds) := rfl
theorem on_tupleL {ds : List D} : dTuple [.d (.lst ds)] mu = some (.tup ds) := rfl
theorem on_listT {ds : List D} : dList [.d (.tup ds)] mu = some (.lst ds) := rfl
theorem on_listL {ds : List D} : dList [.d (.lst ds)] mu = some (.lst ds) := rfl
theorem in62' {i : Int} (h : -1000 ≤ i ∧ i < 1000000) : inR62 i = true := by
  unfold inR62
  exact decide_eq_true (by omega)
theorem e_range2 (q : fs sl mu fun ss mu1 => match ss with
  | [.d (.int i), .d (.int j)] => inR62 i = true ∧ inR62 j = true ∧ A (rangeD i j) mu1
  | _ => False) : wRange2 fs sl mu A := q
/-- two numbers, both within reach -/
theorem e_rr {i j : Int} {A : List D → Mu → Prop} (h1 : inR62 i = true) (h2 : inR62 j = true) (q : A (rangeD i j) mu) : (match ([.d (.int i), .d (.int j)] : List S) with
  | [.d (.int i), .d (.int j)] => inR62 i = true ∧ inR62 j = true ∧ A (rangeD i j) mu
  | _ => False) := ⟨h1, h2, q⟩
theorem e_chain3 {fd : WE} {o o2 o3 : G2} (q : fa sl mu fun s1 mu1 => fb sl mu1 fun s2 mu2 => On (o s1 s2 mu2) fun d => AsBd d fun k => if k = true then
    (fc sl mu2 fun s3 mu3 => On (o2 s2 s3 mu3) fun d => AsBd d fun k => if k = true then (fd sl mu3 fun s4 mu4 => On (o3 s3 s4 mu4) fun d => Q (.d d) mu4) else Q (.d (.bl false)) mu3)
  else Q (.d (.bl false)) mu2) : wChain3 o o2 o3 fa fb fc fd sl mu Q := q
def AsLs (s : S) (P : List D → Prop) : Prop := match s with
  | .d (.lst ds) => P ds
  | _ => False
theorem e_asLs {ds : List D} {P : List D → Prop} (q : P ds) : AsLs (.d (.lst ds)) P := q
theorem e_dictL (q : f sl mu fun s mu1 => AsLs s fun ds => ds.length < 64 ∧ On (kvOf ds) fun kvs => Q (.h mu1.length) (mu1 ++ [some (.dic (putAll [] kvs))])) : wDictL f sl mu Q := q
theorem on_retD {x : D} (h : Q (.d x) mu) : retD mu Q (.d x) mu := retD_d h
theorem range2_len (i j : Int) : (rangeD i j).length = (j - i).toNat := by
  unfold rangeD
  simp
theorem range2_at {i j : Int} {n : Nat} {d : D} (h : (rangeD i j)[n]? = some d) : d = .int (i + n) ∧ i + (n : Int) < j := by
  unfold rangeD at h
  simp only [List.getElem?_map] at h
  cases hr : (List.range (j - i).toNat)[n]? with
  | none =>
    rw [hr] at h
    cases h
  | some x =>
    rw [hr] at h
    obtain ⟨h1, h2⟩ := List.getElem?_eq_some_iff.mp hr
    rw [List.length_range] at h1
    rw [List.getElem_range] at h2
    subst h2
    cases h
    exact ⟨rfl, by omega⟩
theorem on_ixT {ds : List D} {i : Nat} {d : D} (h : ds[i]? = some d) : dIx (.d (.tup ds)) (.d (.int (i : Nat))) mu = some d := by
  show atI ds (i : Nat) = _
  have hl := (List.getElem?_eq_some_iff.mp h).1
  unfold atI ixN
  rw [if_pos (by omega), if_pos (by omega)]
  show ds[(i : Int).toNat]? = _
  rw [Int.toNat_natCast]
  exact h
theorem on_ixL {ds : List D} {i : Nat} {d : D} (h : ds[i]? = some d) : dIx (.d (.lst ds)) (.d (.int (i : Nat))) mu = some d := by
  show atI ds (i : Nat) = _
  have hl := (List.getElem?_eq_some_iff.mp h).1
  unfold atI ixN
  rw [if_pos (by omega), if_pos (by omega)]
  show ds[(i : Int).toNat]? = _
  rw [Int.toNat_natCast]
  exact h
theorem comp_yes {α : Type} {mk : α → D} {g : WG} {te : WE} {sl0 : Sl} (h : α → D) (f : α → Sl) (xs : List α) (hg : ∀ x ∈ xs, g (mk x) sl0 = some (f x)) (he : ∀ x ∈ xs, ∀ P : S → Mu → Prop, P (.d (h x)) mu → te (f x) mu P)
    (hl : xs.length < 1000000) (q : Q (.d (.lst (xs.map h))) mu) : wCompD g wYes te sl0 Q (xs.map mk) [] mu :=
  comp_map (fun _ => true) h f xs [] hg (fun _ _ _ p => p) (fun x hx _ => he x hx) (by rw [sizeLine_eq, List.length_nil]; omega) (by rw [filter_t, List.nil_append]; exact q)
theorem comp_bls {α : Type} {mk : α → D} {g : WG} {te : WE} {sl0 : Sl} (h : α → Bool) (f : α → Sl) (xs : List α) (hg : ∀ x ∈ xs, g (mk x) sl0 = some (f x)) (he : ∀ x ∈ xs, ∀ P : S → Mu → Prop, P (.d (.bl (h x))) mu → te (f x) mu P)
    (hl : xs.length < 1000000) (q : Q (.d (.lst ((xs.map h).map D.bl))) mu) : wCompD g wYes te sl0 Q (xs.map mk) [] mu :=
  comp_yes (fun x => .bl (h x)) f xs hg he hl (by rw [List.map_map] at q; exact q)
theorem comp_if {α : Type} {mk : α → D} {g : WG} {tt : WT} {te : WE} {sl0 : Sl} (t : α → Bool) (h : α → D) (f : α → Sl) (xs : List α) (hg : ∀ x ∈ xs, g (mk x) sl0 = some (f x)) (ht : ∀ x ∈ xs, ∀ P : Bool → Mu → Prop, P (t x) mu → tt (f x) mu P)
    (he : ∀ x ∈ xs, t x = true → ∀ P : S → Mu → Prop, P (.d (h x)) mu → te (f x) mu P) (hl : xs.length < 1000000) (q : Q (.d (.lst ((xs.filter t).map h))) mu) : wCompD g tt te sl0 Q (xs.map mk) [] mu :=
  comp_map t h f xs [] hg ht he (by rw [sizeLine_eq, List.length_nil]; omega) (by rw [List.nil_append]; exact q)
theorem comp_yesD {g : WG} {te : WE} {sl0 : Sl} (h : D → D) (f : D → Sl) (xs : List D) (hg : ∀ x ∈ xs, g x sl0 = some (f x)) (he : ∀ x ∈ xs, ∀ P : S → Mu → Prop, P (.d (h x)) mu → te (f x) mu P)
    (hl : xs.length < 1000000) (q : Q (.d (.lst (xs.map h))) mu) : wCompD g wYes te sl0 Q xs [] mu := by
  have z := comp_yes (mk := id) h f xs hg he hl q
  rwa [List.map_id] at z
theorem comp_blsD {g : WG} {te : WE} {sl0 : Sl} (h : D → Bool) (f : D → Sl) (xs : List D) (hg : ∀ x ∈ xs, g x sl0 = some (f x)) (he : ∀ x ∈ xs, ∀ P : S → Mu → Prop, P (.d (.bl (h x))) mu → te (f x) mu P)
    (hl : xs.length < 1000000) (q : Q (.d (.lst ((xs.map h).map D.bl))) mu) : wCompD g wYes te sl0 Q xs [] mu := by
  have z := comp_bls (mk := id) h f xs hg he hl q
  rwa [List.map_id] at z
theorem comp_ifD {g : WG} {tt : WT} {te : WE} {sl0 : Sl} (t : D → Bool) (h : D → D) (f : D → Sl) (xs : List D) (hg : ∀ x ∈ xs, g x sl0 = some (f x)) (ht : ∀ x ∈ xs, ∀ P : Bool → Mu → Prop, P (t x) mu → tt (f x) mu P)
    (he : ∀ x ∈ xs, t x = true → ∀ P : S → Mu → Prop, P (.d (h x)) mu → te (f x) mu P) (hl : xs.length < 1000000) (q : Q (.d (.lst ((xs.filter t).map h))) mu) : wCompD g tt te sl0 Q xs [] mu := by
  have z := comp_if (mk := id) t h f xs hg ht he hl q
  rwa [List.map_id] at z
theorem on_nilNe {ds : List D} : dEq true (.d (.lst ds)) (.d (.lst [])) mu = some (.bl (!ds.isEmpty)) := by
  cases ds with
  | nil => rfl
  | cons d ds => exact on_ne_len (by simp)
theorem on_nilEq {ds : List D} : dEq false (.d (.lst ds)) (.d (.lst [])) mu = some (.bl ds.isEmpty) := by
  cases ds with
  | nil => rfl
  | cons d ds => exact on_ne_len (by simp)
theorem on_sliceT {ds : List D} {lo hi : Option Int} : dSlice (.d (.tup ds)) lo hi mu = some (.tup (cutD ds lo hi)) := rfl
theorem on_sliceL {ds : List D} {lo hi : Option Int} : dSlice (.d (.lst ds)) lo hi mu = some (.lst (cutD ds lo hi)) := rfl
theorem on_addTT {a b : List D} (h : a.length + b.length < 1000000) : dAdd (.d (.tup a)) (.d (.tup b)) mu = some (.tup (a ++ b)) := by
  show (if a.length + b.length ≤ sizeLine then _ else _) = _
  rw [if_pos (by rw [sizeLine_eq]; omega)]
theorem on_addLL {a b : List D} (h : a.length + b.length < 1000000) : dAdd (.d (.lst a)) (.d (.lst b)) mu = some (.lst (a ++ b)) := by
  show (if a.length + b.length ≤ sizeLine then _ else _) = _
  rw [if_pos (by rw [sizeLine_eq]; omega)]
theorem on_repLL {ds : List D} {k : Int} (h : 0 ≤ k ∧ k < 100 ∧ ds.length < 100) : dRepL (.d (.lst ds)) (.d (.int k)) mu = some (.lst (List.replicate k.toNat ds).flatten) := if_pos h
theorem on_rep4 {x : D} : dRepL (.d (.lst [x])) (.d (.int 4)) mu = some (.lst [x, x, x, x]) := on_repLL ⟨by decide, by decide, by show (1 : Nat) < 100; decide⟩
theorem cutD_len' {α : Type} {xs : List α} {lo hi : Option Int} : (cutD xs lo hi).length ≤ xs.length := by
  unfold cutD
  rw [List.length_take, List.length_drop]
  omega
theorem cutD_map {α β : Type} (f : α → β) (xs : List α) (lo hi : Option Int) : cutD (xs.map f) lo hi = (cutD xs lo hi).map f := by
  unfold cutD
  rw [List.map_take, List.map_drop, List.length_map]
theorem on_sliceTm {α : Type} {f : α → D} {xs : List α} {lo hi : Option Int} : dSlice (.d (.tup (xs.map f))) lo hi mu = some (.tup ((cutD xs lo hi).map f)) := by
  rw [on_sliceT, cutD_map]
theorem on_sliceLm {α : Type} {f : α → D} {xs : List α} {lo hi : Option Int} : dSlice (.d (.lst (xs.map f))) lo hi mu = some (.lst ((cutD xs lo hi).map f)) := by
  rw [on_sliceL, cutD_map]
theorem on_revTm {α : Type} {f : α → D} {xs : List α} : dRevT (.d (.tup (xs.map f))) mu = some (.tup (xs.reverse.map f)) := by
  show some (D.tup (xs.map f).reverse) = _
  rw [List.map_reverse]
theorem on_repT2m {α : Type} {f : α → D} {xs : List α} (h : xs.length < 100) : dRepT (.d (.tup (xs.map f))) (.d (.int 2)) mu = some (.tup ((xs ++ xs).map f)) := by
  rw [on_repT2 (by rw [List.length_map]; exact h), List.map_append]
theorem e_ixL {L : List D} {i : Int} {A : D → Prop} (h0 : 0 ≤ i) (h1 : i < (L.length : Nat)) (q : ∀ x ∈ L, A x) : On (dIx (.d (.lst L)) (.d (.int i)) mu) A := by
  obtain ⟨j, rfl⟩ : ∃ n : Nat, i = (n : Int) := ⟨i.toNat, by omega⟩
  obtain ⟨x, ex⟩ : ∃ x, L[j]? = some x := ⟨_, List.getElem?_eq_getElem (by omega)⟩
  exact e_on (on_ixL ex) (q x (List.mem_of_getElem? ex))
theorem e_ixT {L : List D} {i : Int} {A : D → Prop} (h0 : 0 ≤ i) (h1 : i < (L.length : Nat)) (q : ∀ x ∈ L, A x) : On (dIx (.d (.tup L)) (.d (.int i)) mu) A := by
  obtain ⟨j, rfl⟩ : ∃ n : Nat, i = (n : Int) := ⟨i.toNat, by omega⟩
  obtain ⟨x, ex⟩ : ∃ x, L[j]? = some x := ⟨_, List.getElem?_eq_getElem (by omega)⟩
  exact e_on (on_ixT ex) (q x (List.mem_of_getElem? ex))
theorem cutD_last {α : Type} (xs : List α) (y : α) : cutD (xs ++ [y]) none (some (-1)) = xs := by
  unfold cutD HT.sIx
  simp only [List.drop_zero, Nat.sub_zero, List.length_append, List.length_singleton]
  rw [if_pos (by decide)]
  have : ((-1 : Int) + ((xs.length : Int) + 1)).toNat = xs.length := by omega
  simp [this]
theorem on_repr_same {n : Nat} {d : D} {p : PyData} (f : Fit n d p) (hn : n ≤ 100000) : dRepr [.d d] mu = some (.str p.shown) := on_repr f hn
theorem on_ixH {k : Nat} {ds : List D} {i : Nat} {d : D} (hk : mu[k]? = some (some (.lst ds))) (h : ds[i]? = some d) : dIx (.h k) (.d (.int (i : Nat))) mu = some d := by
  have z : rdQ (.h k) mu = some ds := by
    show rdL (.h k) mu = _
    unfold rdL
    simp only [hk]
  show ((rdQ (.h k) mu).bind fun ds => atI ds (i : Nat)) = _
  rw [z]
  show atI ds (i : Nat) = _
  have hl := (List.getElem?_eq_some_iff.mp h).1
  unfold atI ixN
  rw [if_pos (by omega), if_pos (by omega)]
  show ds[(i : Int).toNat]? = _
  rw [Int.toNat_natCast]
  exact h
theorem cutD_to {α : Type} (xs : List α) {n : Int} (h : 0 ≤ n) : cutD xs none (some n) = xs.take n.toNat := by
  unfold cutD HT.sIx
  simp only [List.drop_zero, Nat.sub_zero]
  rw [if_neg (by omega)]
  rw [List.take_eq_take_iff]
  omega
theorem on_addII {a b : Int} : dAdd (.d (.int a)) (.d (.int b)) mu = some (.int (a + b)) := rfl
theorem on_subII {a b : Int} : dSub (.d (.int a)) (.d (.int b)) mu = some (.int (a - b)) := rfl
theorem on_inTS {z : Str} {ys : List Str} : dIn false (.d (.str z)) (.d (.tup (ys.map D.str))) mu = some (.bl (decide (z ∈ ys))) := on_in_tup
theorem on_ninTS {z : Str} {ys : List Str} : dIn true (.d (.str z)) (.d (.tup (ys.map D.str))) mu = some (.bl (!decide (z ∈ ys))) := on_in_tup
theorem on_inLS {z : Str} {ys : List Str} : dIn false (.d (.str z)) (.d (.lst (ys.map D.str))) mu = some (.bl (decide (z ∈ ys))) := on_in_lst
theorem on_ninLS {z : Str} {ys : List Str} : dIn true (.d (.str z)) (.d (.lst (ys.map D.str))) mu = some (.bl (!decide (z ∈ ys))) := on_in_lst
theorem on_ltS {a b : Str} : dLt (.d (.str a)) (.d (.str b)) mu = some (.bl (strLt a b)) := rfl
theorem on_sortLS {zs : List Str} (h : zs.length < 64) : dSorted [.d (.lst (zs.map D.str))] mu = some (.lst ((sortS zs).map D.str)) := by
  show (asStrs (zs.map D.str)).bind _ = _
  rw [asStrs_map]
  exact if_pos h
theorem on_sortTS {zs : List Str} (h : zs.length < 64) : dSorted [.d (.tup (zs.map D.str))] mu = some (.lst ((sortS zs).map D.str)) := by
  show (asStrs (zs.map D.str)).bind _ = _
  rw [asStrs_map]
  exact if_pos h
theorem on_eqT0 {zs : List Str} (h : ∀ z ∈ zs, PyData.strOk z = true) : dEq false (.d (.tup (zs.map D.str))) (.d (.tup [])) mu = some (.bl zs.isEmpty) := by
  have z := on_eq_tup (neg := false) (a := zs) (b := []) (mu := mu) h (fun z hz => by cases hz)
  rw [List.map_nil] at z
  rw [z]
  cases zs <;> rfl
theorem on_neT0 {zs : List Str} (h : ∀ z ∈ zs, PyData.strOk z = true) : dEq true (.d (.tup (zs.map D.str))) (.d (.tup [])) mu = some (.bl (!zs.isEmpty)) := by
  have z := on_eq_tup (neg := true) (a := zs) (b := []) (mu := mu) h (fun z hz => by cases hz)
  rw [List.map_nil] at z
  rw [z]
  cases zs <;> rfl
theorem on_addTS {a b : List Str} (h : a.length + b.length < 1000000) : dAdd (.d (.tup (a.map D.str))) (.d (.tup (b.map D.str))) mu = some (.tup ((a ++ b).map D.str)) := by
  rw [List.map_append]
  exact on_addTT (by rw [List.length_map, List.length_map]; exact h)
theorem on_addLS {a b : List Str} (h : a.length + b.length < 1000000) : dAdd (.d (.lst (a.map D.str))) (.d (.lst (b.map D.str))) mu = some (.lst ((a ++ b).map D.str)) := by
  rw [List.map_append]
  exact on_addLL (by rw [List.length_map, List.length_map]; exact h)
theorem on_lenS {z : Str} (h : z.length ≤ sizeLine) : dLen [.d (.str z)] mu = some (.int (z.length : Nat)) := if_pos h
theorem on_lenSet {zs : List Str} (h : zs.length < 64) : dLenSet [.d (.lst (zs.map D.str))] mu = some (.int ((onceS zs).length : Nat)) := by
  show (asStrs (zs.map D.str)).bind _ = _
  rw [asStrs_map]
  exact if_pos h
theorem on_lenSetT {zs : List Str} (h : zs.length < 64) : dLenSet [.d (.tup (zs.map D.str))] mu = some (.int ((onceS zs).length : Nat)) := by
  show (asStrs (zs.map D.str)).bind _ = _
  rw [asStrs_map]
  exact if_pos h
theorem on_min2N {a b : Nat} : dMin2 [.d (.int (a : Nat)), .d (.int (b : Nat))] mu = some (.int ((min a b : Nat) : Int)) := by
  show some (D.int (if (b : Int) < (a : Int) then (b : Int) else (a : Int))) = _
  congr 2
  split <;> omega
theorem on_max2N {a b : Nat} : dMax2 [.d (.int (a : Nat)), .d (.int (b : Nat))] mu = some (.int ((max a b : Nat) : Int)) := by
  show some (D.int (if (b : Int) > (a : Int) then (b : Int) else (a : Int))) = _
  congr 2
  split <;> omega
theorem on_ixT0 {x : D} {ds : List D} : dIx (.d (.tup (x :: ds))) (.d (.int 0)) mu = some x := on_ixT (i := 0) rfl
theorem on_ixT1 {x y : D} {ds : List D} : dIx (.d (.tup (x :: y :: ds))) (.d (.int 1)) mu = some y := on_ixT (i := 1) rfl
theorem on_ixL0 {x : D} {ds : List D} : dIx (.d (.lst (x :: ds))) (.d (.int 0)) mu = some x := on_ixL (i := 0) rfl
end
end DL
set_option Elab.async false
set_option linter.all false
namespace Law
/-! TR: pieces along ties, as names that numbers have -/
def mrg (f : Nat → Nat) (p : Nat × Nat) : Nat → Nat := fun z => if f z = f p.1 then f p.2 else f z
def stp (ns : List Nat) (f : Nat → Nat) (p : Nat × Nat) : Nat → Nat := if p.1 ∈ ns ∧ p.2 ∈ ns ∧ f p.1 ≠ f p.2 then mrg f p else f
def runT (ns : List Nat) (f : Nat → Nat) (ts : List (Nat × Nat)) : Nat → Nat := ts.foldl (stp ns) f
def fixN (ns : List Nat) (f : Nat → Nat) : Nat := (ns.filter fun z => decide (f z = z)).length
structure Idem (ns : List Nat) (f : Nat → Nat) : Prop where
  mem : ∀ z ∈ ns, f z ∈ ns
  id2 : ∀ z ∈ ns, f (f z) = f z
theorem idem_id (ns : List Nat) : Idem ns id := ⟨fun _ h => h, fun _ _ => rfl⟩
theorem mrg_at {f : Nat → Nat} {p : Nat × Nat} {z : Nat} (h : f z = f p.1) : mrg f p z = f p.2 := if_pos h
theorem mrg_off {f : Nat → Nat} {p : Nat × Nat} {z : Nat} (h : f z ≠ f p.1) : mrg f p z = f z := if_neg h
theorem idem_mrg {ns : List Nat} {f : Nat → Nat} {p : Nat × Nat} (h : Idem ns f) (h2 : p.2 ∈ ns) (ne : f p.1 ≠ f p.2) : Idem ns (mrg f p) := by
  refine ⟨fun z hz => ?_, fun z hz => ?_⟩
  · by_cases e : f z = f p.1
    · rw [mrg_at e]
      exact h.mem _ h2
    · rw [mrg_off e]
      exact h.mem _ hz
  · by_cases e : f z = f p.1
    · rw [mrg_at e, mrg_off (by rw [h.id2 _ h2]; exact fun w => ne w.symm), h.id2 _ h2]
    · rw [mrg_off e, mrg_off (by rw [h.id2 _ hz]; exact e), h.id2 _ hz]
theorem idem_stp {ns : List Nat} {f : Nat → Nat} {p : Nat × Nat} (h : Idem ns f) : Idem ns (stp ns f p) := by
  unfold stp
  split
  · rename_i c
    exact idem_mrg h c.2.1 c.2.2
  · exact h
theorem idem_run {ns : List Nat} : ∀ (ts : List (Nat × Nat)) {f : Nat → Nat}, Idem ns f → Idem ns (runT ns f ts)
  | [], _, h => h
  | _ :: ts, _, h => idem_run ts (idem_stp h)
theorem len_less : ∀ {l : List Nat} {a : Nat}, l.Nodup → a ∈ l → (l.filter fun z => !decide (z = a)).length + 1 = l.length
  | [], _, _, h => by cases h
  | b :: l, a, nd, h => by
    obtain ⟨n1, n2⟩ := List.nodup_cons.mp nd
    by_cases e : b = a
    · subst e
      have : (l.filter fun z => !decide (z = b)) = l := List.filter_eq_self.mpr fun z hz => by
        have : z ≠ b := fun w => n1 (w ▸ hz)
        simpa using this
      rw [List.filter_cons, if_neg (by simp), this, List.length_cons]
    · have hx : a ∈ l := by
        rcases List.mem_cons.mp h with z | z
        · exact absurd z.symm e
        · exact z
      rw [List.filter_cons, if_pos (by simpa using e), List.length_cons, List.length_cons, len_less n2 hx]
theorem fix_mrg {ns : List Nat} {f : Nat → Nat} {p : Nat × Nat} (nd : ns.Nodup) (h : Idem ns f) (h1 : p.1 ∈ ns) (h2 : p.2 ∈ ns) (ne : f p.1 ≠ f p.2) : fixN ns (mrg f p) + 1 = fixN ns f := by
  have e : (ns.filter fun z => decide (mrg f p z = z)) = (ns.filter fun z => decide (f z = z)).filter fun z => !decide (z = f p.1) := by
    rw [List.filter_filter]
    refine List.filter_congr fun z hz => ?_
    rw [Bool.eq_iff_iff]
    simp only [decide_eq_true_eq, Bool.and_eq_true, Bool.not_eq_true', decide_eq_false_iff_not]
    constructor
    · intro w
      by_cases e : f z = f p.1
      · rw [mrg_at e] at w
        rw [← w, h.id2 _ h2] at e
        exact absurd e.symm ne
      · rw [mrg_off e] at w
        exact ⟨fun v => e (by rw [w]; exact v), w⟩
    · rintro ⟨w1, w2⟩
      rw [mrg_off (by rw [w2]; exact w1), w2]
  show (ns.filter _).length + 1 = (ns.filter _).length
  rw [e]
  exact len_less (nd.sublist List.filter_sublist) (List.mem_filter.mpr ⟨h.mem _ h1, decide_eq_true (h.id2 _ h1)⟩)
/-! the first ring -/
def ringAt : (Nat → Nat) → Nat → List (Nat × Nat) → Option Nat
  | _, _, [] => none
  | f, k, p :: r => if f p.1 = f p.2 then some k else ringAt (mrg f p) (k + 1) r
def ringP : (Nat → Nat) → Nat → List (Nat × Nat) → Option Nat
  | _, _, [] => none
  | f, k, p :: r => if f p.1 = f p.2 then some k else ringP (mrg f (p.2, p.1)) (k + 1) r
theorem mrg_eq {f : Nat → Nat} {p : Nat × Nat} {a b : Nat} : mrg f p a = mrg f p b ↔ (f a = f b ∨ ((f a = f p.1 ∨ f a = f p.2) ∧ (f b = f p.1 ∨ f b = f p.2))) := by
  unfold mrg
  split <;> split <;> omega
theorem ring_same {n : Nat} : ∀ (ps : List (Nat × Nat)) (f g : Nat → Nat) (k : Nat), (∀ a b, a < n → b < n → (f a = f b ↔ g a = g b)) → (∀ p ∈ ps, p.1 < n ∧ p.2 < n) → ringP g k ps = ringAt f k ps
  | [], _, _, _, _, _ => rfl
  | p :: ps, f, g, k, h, hp => by
    obtain ⟨h1, h2⟩ := hp p (List.mem_cons_self ..)
    unfold ringP ringAt
    by_cases e : f p.1 = f p.2
    · rw [if_pos e, if_pos ((h _ _ h1 h2).mp e)]
    · rw [if_neg e, if_neg (fun w => e ((h _ _ h1 h2).mpr w))]
      refine ring_same ps _ _ _ (fun a b ha hb => ?_) fun q hq => hp q (List.mem_cons_of_mem _ hq)
      rw [mrg_eq, mrg_eq, h a b ha hb, h a _ ha h1, h a _ ha h2, h b _ hb h1, h b _ hb h2]
      constructor
      · rintro (h | ⟨h3, h4⟩)
        · exact .inl h
        · exact .inr ⟨h3.symm, h4.symm⟩
      · rintro (h | ⟨h3, h4⟩)
        · exact .inl h
        · exact .inr ⟨h3.symm, h4.symm⟩
/-! what hangs together -/
theorem stp_keeps {ns : List Nat} {f : Nat → Nat} {p : Nat × Nat} {a b : Nat} (h : f a = f b) : stp ns f p a = stp ns f p b := by
  unfold stp
  split
  · exact mrg_eq.mpr (.inl h)
  · exact h
theorem run_keeps {ns : List Nat} : ∀ (ts : List (Nat × Nat)) {f : Nat → Nat} {a b : Nat}, f a = f b → runT ns f ts a = runT ns f ts b
  | [], _, _, _, h => h
  | _ :: ts, _, _, _, h => run_keeps ts (stp_keeps h)
theorem stp_ties {ns : List Nat} {f : Nat → Nat} {p : Nat × Nat} (h1 : p.1 ∈ ns) (h2 : p.2 ∈ ns) : stp ns f p p.1 = stp ns f p p.2 := by
  unfold stp
  by_cases e : f p.1 = f p.2
  · rw [if_neg (fun w => w.2.2 e)]
    exact e
  · rw [if_pos ⟨h1, h2, e⟩]
    exact mrg_eq.mpr (.inr ⟨.inl rfl, .inr rfl⟩)
theorem run_ties {ns : List Nat} : ∀ (ts : List (Nat × Nat)) {f : Nat → Nat}, (∀ p ∈ ts, p.1 ∈ ns ∧ p.2 ∈ ns) → ∀ p ∈ ts, runT ns f ts p.1 = runT ns f ts p.2
  | [], _, _, p, hp => by cases hp
  | q :: ts, f, h, p, hp => by
    rcases List.mem_cons.mp hp with e | e
    · subst e
      obtain ⟨h1, h2⟩ := h p (List.mem_cons_self ..)
      exact run_keeps ts (stp_ties h1 h2)
    · exact run_ties ts (fun r hr => h r (List.mem_cons_of_mem _ hr)) p e
theorem fix_stp {ns : List Nat} {f : Nat → Nat} {p : Nat × Nat} (nd : ns.Nodup) (h : Idem ns f) : fixN ns f ≤ fixN ns (stp ns f p) + 1 := by
  unfold stp
  split
  · rename_i c
    rw [fix_mrg nd h c.1 c.2.1 c.2.2]
    exact Nat.le_refl _
  · omega
theorem fix_run {ns : List Nat} (nd : ns.Nodup) : ∀ (ts : List (Nat × Nat)) {f : Nat → Nat}, Idem ns f → fixN ns f ≤ fixN ns (runT ns f ts) + ts.length
  | [], _, _ => Nat.le_refl _
  | p :: ts, f, h => by
    have h1 := fix_stp (p := p) nd h
    have h2 := fix_run nd ts (idem_stp (p := p) h)
    show fixN ns f ≤ fixN ns (runT ns (stp ns f p) ts) + (ts.length + 1)
    omega
theorem ring_more {ns : List Nat} (nd : ns.Nodup) : ∀ (ts : List (Nat × Nat)) {f : Nat → Nat} (k j : Nat), Idem ns f → (∀ p ∈ ts, p.1 ∈ ns ∧ p.2 ∈ ns) → ringAt f k ts = some j → fixN ns f + 1 ≤ fixN ns (runT ns f ts) + ts.length
  | [], _, _, _, _, _, e => by cases e
  | p :: ts, f, k, j, h, hp, e => by
    obtain ⟨h1, h2⟩ := hp p (List.mem_cons_self ..)
    unfold ringAt at e
    by_cases c : f p.1 = f p.2
    · have es : stp ns f p = f := if_neg fun w => w.2.2 c
      have h3 := fix_run nd ts h
      show fixN ns f + 1 ≤ fixN ns (runT ns (stp ns f p) ts) + (ts.length + 1)
      rw [es]
      omega
    · rw [if_neg c] at e
      have es : stp ns f p = mrg f p := if_pos ⟨h1, h2, c⟩
      have h3 := ring_more nd ts (k + 1) j (idem_mrg h h2 c) (fun q hq => hp q (List.mem_cons_of_mem _ hq)) e
      have h4 := fix_mrg nd h h1 h2 c
      show fixN ns f + 1 ≤ fixN ns (runT ns (stp ns f p) ts) + (ts.length + 1)
      rw [es]
      omega
theorem all_same : ∀ {l : List Nat}, l.Nodup → (∀ a ∈ l, ∀ b ∈ l, a = b) → l.length ≤ 1
  | [], _, _ => Nat.zero_le _
  | [_], _, _ => Nat.le_refl _
  | a :: b :: l, nd, h => by
    obtain ⟨n1, _⟩ := List.nodup_cons.mp nd
    have := h a (List.mem_cons_self ..) b (List.mem_cons_of_mem _ (List.mem_cons_self ..))
    exact absurd (this ▸ List.mem_cons_self ..) n1
theorem fix_const {ns : List Nat} {f : Nat → Nat} (nd : ns.Nodup) (h : ∀ a ∈ ns, ∀ b ∈ ns, f a = f b) : fixN ns f ≤ 1 := by
  refine all_same (nd.sublist List.filter_sublist) fun a ha b hb => ?_
  obtain ⟨a1, a2⟩ := List.mem_filter.mp ha
  obtain ⟨b1, b2⟩ := List.mem_filter.mp hb
  have := h a a1 b b1
  rw [of_decide_eq_true a2, of_decide_eq_true b2] at this
  exact this
theorem fix_id (ns : List Nat) : fixN ns id = ns.length := by
  unfold fixN
  rw [show (ns.filter fun z => decide (id z = z)) = ns from List.filter_eq_self.mpr fun z _ => decide_eq_true rfl]
/-- ties one fewer than numbers, along which all hang together, make no ring -/
theorem no_ring {ns : List Nat} {ts : List (Nat × Nat)} (nd : ns.Nodup) (hl : ts.length + 1 = ns.length) (hp : ∀ p ∈ ts, p.1 ∈ ns ∧ p.2 ∈ ns) (hc : ∀ a ∈ ns, ∀ b ∈ ns, runT ns id ts a = runT ns id ts b) : ringAt id 0 ts = none := by
  cases e : ringAt id 0 ts with
  | none => rfl
  | some j =>
    have h1 := ring_more nd ts 0 j (idem_id ns) hp e
    have h2 := fix_const nd hc
    rw [fix_id] at h1
    omega
/-! each number is tied to one that was there before -/
def Att : List Nat → List (Nat × Nat) → Prop
  | _, [] => True
  | seen, p :: r => p.2 ∈ seen ∧ p.1 ∉ seen ∧ Att (p.1 :: seen) r
theorem att_const {h : Nat → Nat} {c : Nat} : ∀ {ps : List (Nat × Nat)} {seen : List Nat}, Att seen ps → (∀ a ∈ seen, h a = c) → (∀ p ∈ ps, h p.1 = h p.2) → ∀ p ∈ ps, h p.1 = c
  | [], _, _, _, _, p, hp => by cases hp
  | q :: ps, seen, A, hs, he, p, hp => by
    have e1 : h q.1 = c := (he q (List.mem_cons_self ..)).trans (hs _ A.1)
    rcases List.mem_cons.mp hp with e | e
    · rw [e]
      exact e1
    · refine att_const A.2.2 (fun a ha => ?_) (fun r hr => he r (List.mem_cons_of_mem _ hr)) p e
      rcases List.mem_cons.mp ha with w | w
      · rw [w]
        exact e1
      · exact hs a w
def ntie (p : Nat × Nat) : Nat × Nat := (min p.1 p.2, max p.1 p.2)
theorem ntie_cases (p : Nat × Nat) : ntie p = p ∨ ntie p = (p.2, p.1) := by
  unfold ntie
  by_cases h : p.1 ≤ p.2
  · left
    rw [Nat.min_eq_left h, Nat.max_eq_right h]
  · right
    rw [Nat.min_eq_right (by omega), Nat.max_eq_left (by omega)]
theorem ntie_eq {p q : Nat × Nat} (h : ntie p = ntie q) : q.1 = p.1 ∨ q.1 = p.2 := by
  rcases ntie_cases p with e1 | e1 <;> rcases ntie_cases q with e2 | e2 <;> rw [e1, e2] at h
  · exact .inl (congrArg Prod.fst h).symm
  · exact .inr (congrArg Prod.snd h).symm
  · exact .inr (congrArg Prod.fst h).symm
  · exact .inl (congrArg Prod.snd h).symm
theorem att_fresh : ∀ {ps : List (Nat × Nat)} {seen : List Nat}, Att seen ps → ∀ p ∈ ps, p.1 ∉ seen
  | [], _, _, p, hp => by cases hp
  | q :: ps, seen, A, p, hp => by
    rcases List.mem_cons.mp hp with e | e
    · rw [e]
      exact A.2.1
    · exact fun w => att_fresh A.2.2 p e (List.mem_cons_of_mem _ w)
theorem att_ne {ps : List (Nat × Nat)} {seen : List Nat} (A : Att seen ps) : ∀ p ∈ ps, p.1 ≠ p.2 := by
  induction ps generalizing seen with
  | nil => exact fun p hp => by cases hp
  | cons q ps ih =>
    intro p hp
    rcases List.mem_cons.mp hp with e | e
    · rw [e]
      exact fun w => A.2.1 (w ▸ A.1)
    · exact ih A.2.2 p e
theorem att_nodup : ∀ {ps : List (Nat × Nat)} {seen : List Nat}, Att seen ps → (ps.map ntie).Nodup
  | [], _, _ => List.nodup_nil
  | q :: ps, seen, A => by
    rw [List.map_cons, List.nodup_cons]
    refine ⟨fun w => ?_, att_nodup A.2.2⟩
    obtain ⟨p, hp, e⟩ := List.mem_map.mp w
    have f := att_fresh A.2.2 p hp
    rcases ntie_eq e.symm with e1 | e1
    · exact f (e1 ▸ List.mem_cons_self ..)
    · exact f (List.mem_cons_of_mem _ (e1 ▸ A.1))
theorem ntie_resp {h : Nat → Nat} {p : Nat × Nat} (e : h (ntie p).1 = h (ntie p).2) : h p.1 = h p.2 := by
  rcases ntie_cases p with w | w
  · rw [w] at e
    exact e
  · rw [w] at e
    exact e.symm
/-- numbers tied one by one: put in any sequence, each tie with the lesser number first, the ties make no ring -/
theorem att_tree {n s : Nat} {ps ts : List (Nat × Nat)} (A : Att [s] ps) (hl : ps.length + 1 = n) (cover : ∀ a, a < n → a = s ∨ ∃ p ∈ ps, p.1 = a) (hp : ∀ p ∈ ps, p.1 < n ∧ p.2 < n) (pm : ts.Perm (ps.map ntie)) : ringAt id 0 ts = none := by
  have ht : ∀ p ∈ ts, p.1 ∈ List.range n ∧ p.2 ∈ List.range n := fun p h => by
    obtain ⟨q, hq, rfl⟩ := List.mem_map.mp (pm.mem_iff.mp h)
    obtain ⟨h1, h2⟩ := hp q hq
    rw [List.mem_range, List.mem_range]
    rcases ntie_cases q with w | w
    · rw [w]
      exact ⟨h1, h2⟩
    · rw [w]
      exact ⟨h2, h1⟩
  have hc : ∀ a, a < n → runT (List.range n) id ts a = runT (List.range n) id ts s := fun a ha => by
    rcases cover a ha with rfl | ⟨p, h1, rfl⟩
    · rfl
    · refine att_const A (fun a ha => by rw [List.mem_singleton.mp ha]) (fun p h => ?_) p h1
      exact ntie_resp (run_ties ts ht _ (pm.mem_iff.mpr (List.mem_map_of_mem h)))
  refine no_ring List.nodup_range (by rw [List.length_range, pm.length_eq, List.length_map]; exact hl) ht fun a ha b hb => ?_
  rw [hc a (List.mem_range.mp ha), hc b (List.mem_range.mp hb)]
end Law
set_option Elab.async false
set_option linter.all false
set_option maxRecDepth 100000
set_option maxHeartbeats 1000000
/-! Comp2: [e for x in xs if .. for y in ys if ..] -/
namespace DL
open PySem PySem.Spec L2
def wComp2I (g1 : WG) (tt1 : WT) (te : WE) (sl1 : Sl) (F : List D → Mu → Prop) : List D → List D → Mu → Prop
  | [], acc, mu => F acc mu
  | d :: ds, acc, mu => On (g1 d sl1) fun sl3 => tt1 sl3 mu fun b mu1 => if b = true then te sl3 mu1 fun s mu2 => match s with
      | .d y => acc.length < sizeLine ∧ wComp2I g1 tt1 te sl1 F ds (acc ++ [y]) mu2
      | .h _ => False
    else wComp2I g1 tt1 te sl1 F ds acc mu1
def wComp2O (g : WG) (tt : WT) (fi1 : WI) (g1 : WG) (tt1 : WT) (te : WE) (vs1 : List Nat) (sl0 : Sl) (Q : S → Mu → Prop) : List D → List D → Mu → Prop
  | [], acc, mu => Q (.d (.lst acc)) mu
  | d :: ds, acc, mu => On (g d sl0) fun sl1 => tt sl1 mu fun b mu1 => if b = true then fi1 sl1 mu1 fun ds1 mu2 => wComp2I g1 tt1 te (wipeD sl1 vs1) (fun acc' mu' => wComp2O g tt fi1 g1 tt1 te vs1 sl0 Q ds acc' mu') ds1 acc mu2
    else wComp2O g tt fi1 g1 tt1 te vs1 sl0 Q ds acc mu1
def wComp2 (fi : WI) (g : WG) (tt : WT) (fi1 : WI) (g1 : WG) (tt1 : WT) (te : WE) (vs vs1 : List Nat) : WE := fun sl mu Q => fi sl mu fun ds mu1 => wComp2O g tt fi1 g1 tt1 te vs1 (wipeD sl vs) Q ds [] mu1
theorem comp2_red {K : Frag} {fi fi1 : WI} {g g1 : WG} {tt tt1 : WT} {te : WE} {vs vs1 : List Nat} {σ : L2.St} {H : Hp} {Q : VK} (q : tE K (wComp2 fi g tt fi1 g1 tt1 te vs vs1) σ H Q) :
    tLc2 (tI K fi) (tG K vs g) (tT K tt) (tI K fi1) (tG K vs1 g1) (tT K tt1) (tE K te) vs vs1 σ H Q := by
  obtain ⟨ex, m, sl, mu, Qd, cf, sr, w, k⟩ := q
  refine ⟨ex, m, sl, mu, _, cf, sr, w, fun ds mu1 m1 H1 J cf1 e1 wk q1 => ?_⟩
  intro L hL
  have nL : L ∉ ex := fun z => by
    obtain ⟨o, e⟩ := cf1.exH L z
    rw [hL] at e
    cases e
  let P : Nat → Hp → Prop := fun i H2 => ∃ m2 mu2 acc vacc, Cfg K (L :: ex) m2 mu2 H2 ∧ Le ex m1 mu1 H1 (L :: ex) m2 mu2 H2 ∧ (∀ a ∈ ex, H2 a = H1 a) ∧ H2 L = some (.lst vacc) ∧ Rs K (vw (L :: ex) m2 mu2 H2) acc vacc ∧ wComp2O g tt fi1 g1 tt1 te vs1 (wipeD sl vs) Qd (ds.drop i) acc mu2
  refine ⟨fun i j H2 => j = ds.length - i ∧ i ≤ ds.length ∧ P i H2, ⟨ds.length, by simp, Nat.zero_le _, m1, mu1, [], [], cf1.hide hL, ⟨⟨[], by simp⟩, ?_⟩, fun a ha => ?_, upd_same, Rs.nil, by simpa using q1⟩, ?_⟩
  · rw [vw_hide hL]
    exact Same.refl _
  · have na : a ≠ L := fun z => nL (z ▸ ha)
    rw [upd_ne na]
  rintro i j H2 ⟨rfl, hi2, m2, mu2, acc, vacc, cf2, e2, ek2, eL, ra, w2⟩
  by_cases hlt : i < ds.length
  · refine .inr ⟨wk.go i _ m2 mu2 H2 hlt cf2 e2, P (i + 1), fun H5 z => ⟨ds.length - (i + 1), by omega, rfl, hlt, z⟩, fun x H3 y => ?_⟩
    obtain ⟨d, ed, gr, r⟩ := wk.yld i _ m2 mu2 H2 x H3 hlt cf2 e2 y
    have edr : ds.drop i = d :: ds.drop (i + 1) := drop_at hlt ed
    rw [edr] at w2
    obtain ⟨sl3, eg, w3⟩ := On.elim w2
    have sr3 : SlR K m2 (vw (L :: ex) m2 mu2 H3) sl σ := (sr.ext e1).le (e2.trans gr.2.le)
    refine ⟨L :: ex, m2, wipeD sl vs, mu2, d, sl3, gr.1, sr3.wipe vs, r, eg, fun σ4 sr4 ag => ⟨?_, ?_⟩⟩
    · refine (wipe_eq (σ := L2.wipe σ vs) ag.1 ag.2).trans ?_
      exact wipe_eq (by rw [wipe_length]) fun i hi => wipe_out hi
    refine ⟨L :: ex, m2, sl3, mu2, _, gr.1, sr4, w3, fun b mu5 m5 H5 cf5 e5 q5 => ?_⟩
    have ek5 : ∀ a ∈ ex, H5 a = H1 a := fun a ha => by
      rw [e5.exk a (List.mem_cons_of_mem _ ha), gr.2.exk a (List.mem_cons_of_mem _ ha), ek2 a ha]
    have eL5 : H5 L = some (.lst vacc) := by rw [e5.exk L (List.mem_cons_self ..), gr.2.exk L (List.mem_cons_self ..), eL]
    have le5 := (e2.trans gr.2.le).trans e5.le
    have ra5 := Rs.mono (gr.2.same.trans e5.same) _ _ ra
    cases b with
    | false =>
      rw [if_neg Bool.false_ne_true] at q5
      refine iteF ?_
      show P (i + 1) H5
      exact ⟨m5, mu5, acc, vacc, cf5, le5, ek5, eL5, ra5, q5⟩
    | true =>
      rw [if_pos rfl] at q5
      refine iteT ?_
      refine ⟨L :: ex, m5, sl3, mu5, _, cf5, sr4.ext e5, q5, fun ds1 mu6 m6 H6 J1 cf6 e6 wk1 q6 => ?_⟩
      let P1 : Nat → Hp → Prop := fun t H7 => ∃ m7 mu7 acc vacc, Cfg K (L :: ex) m7 mu7 H7 ∧ Le (L :: ex) m6 mu6 H6 (L :: ex) m7 mu7 H7 ∧ (∀ a ∈ ex, H7 a = H1 a) ∧ H7 L = some (.lst vacc) ∧ Rs K (vw (L :: ex) m7 mu7 H7) acc vacc ∧
        wComp2I g1 tt1 te (wipeD sl3 vs1) (fun acc' mu' => wComp2O g tt fi1 g1 tt1 te vs1 (wipeD sl vs) Qd (ds.drop (i + 1)) acc' mu') (ds1.drop t) acc mu7
      refine ⟨fun i j H7 => j = ds1.length - i ∧ i ≤ ds1.length ∧ P1 i H7, ⟨ds1.length, by simp, Nat.zero_le _, m6, mu6, acc, vacc, cf6, ⟨⟨[], by simp⟩, Same.refl _⟩, fun a ha => ?_, ?_, Rs.mono e6.same _ _ ra5, by simpa using q6⟩, ?_⟩
      · rw [e6.exk a (List.mem_cons_of_mem _ ha), ek5 a ha]
      · rw [e6.exk L (List.mem_cons_self ..), eL5]
      rintro i1 j1 H7 ⟨rfl, hi7, m7, mu7, acc7, vacc7, cf7, e7, ek7, eL7, ra7, w7⟩
      by_cases hlt1 : i1 < ds1.length
      · refine .inr ⟨wk1.go i1 _ m7 mu7 H7 hlt1 cf7 e7, P1 (i1 + 1), fun H5 z => ⟨ds1.length - (i1 + 1), by omega, rfl, hlt1, z⟩, fun x1 H8 y1 => ?_⟩
        obtain ⟨d1, ed1, gr1, r1⟩ := wk1.yld i1 _ m7 mu7 H7 x1 H8 hlt1 cf7 e7 y1
        have edr1 : ds1.drop i1 = d1 :: ds1.drop (i1 + 1) := drop_at hlt1 ed1
        rw [edr1] at w7
        obtain ⟨sl5, eg1, w8⟩ := On.elim w7
        have sr5 : SlR K m7 (vw (L :: ex) m7 mu7 H8) sl3 σ4 := ((sr4.ext e5).ext e6).le (e7.trans gr1.2.le)
        refine ⟨L :: ex, m7, wipeD sl3 vs1, mu7, d1, sl5, gr1.1, sr5.wipe vs1, r1, eg1, fun σ6 sr6 ag1 => ⟨?_, ?_⟩⟩
        · refine (wipe_eq (σ := L2.wipe σ4 vs1) ag1.1 ag1.2).trans ?_
          exact wipe_eq (by rw [wipe_length]) fun i hi => wipe_out hi
        refine ⟨L :: ex, m7, sl5, mu7, _, gr1.1, sr6, w8, fun b mu9 m9 H9 cf9 e9 q9 => ?_⟩
        have ek9 : ∀ a ∈ ex, H9 a = H1 a := fun a ha => by
          rw [e9.exk a (List.mem_cons_of_mem _ ha), gr1.2.exk a (List.mem_cons_of_mem _ ha), ek7 a ha]
        have eL9 : H9 L = some (.lst vacc7) := by rw [e9.exk L (List.mem_cons_self ..), gr1.2.exk L (List.mem_cons_self ..), eL7]
        have le9 := (e7.trans gr1.2.le).trans e9.le
        have ra9 := Rs.mono (gr1.2.same.trans e9.same) _ _ ra7
        cases b with
        | false =>
          rw [if_neg Bool.false_ne_true] at q9
          refine iteF ?_
          show P1 (i1 + 1) H9
          exact ⟨m9, mu9, acc7, vacc7, cf9, le9, ek9, eL9, ra9, q9⟩
        | true =>
          rw [if_pos rfl] at q9
          refine iteT ?_
          refine ⟨L :: ex, m9, sl5, mu9, _, cf9, sr6.ext e9, q9, fun s mu10 m10 H10 v10 cf10 e10 r10 q10 => ?_⟩
          cases s with
          | h _ => exact q10.elim
          | d y10 =>
            obtain ⟨hz, q10⟩ := q10
            have ra10 := Rs.mono e10.same _ _ ra9
            refine ⟨vacc7, by rw [e10.exk L (List.mem_cons_self ..), eL9], by rw [← ra7.length]; exact hz, m10, mu10, acc7 ++ [y10], vacc7 ++ [v10], cf10.put (List.mem_cons_self ..), ⟨(le9.trans e10.le).pre, ?_⟩, fun a ha => ?_, upd_same, ?_, q10⟩
            · rw [vw_put (List.mem_cons_self ..)]
              exact (le9.trans e10.le).same
            · have na : a ≠ L := fun z => nL (z ▸ ha)
              rw [upd_ne na, e10.exk a (List.mem_cons_of_mem _ ha), ek9 a ha]
            · rw [vw_put (List.mem_cons_self ..)]
              exact ra10.append (Rs.cons r10 Rs.nil)
      · have ei : i1 = ds1.length := by omega
        subst ei
        rw [List.drop_length] at w7
        refine .inl ⟨wk1.stop _ m7 mu7 H7 cf7 e7, ?_⟩
        show P (i + 1) H7
        exact ⟨m7, mu7, acc7, vacc7, cf7, (le5.trans e6.le).trans e7, ek7, eL7, ra7, w7⟩
  · have ei : i = ds.length := by omega
    subst ei
    rw [List.drop_length] at w2
    have e2' : Ext ex m1 mu1 H1 m2 mu2 H2 := ⟨e2.pre, e2.same.trans vw_show, ek2⟩
    refine .inl ⟨wk.stop _ m2 mu2 H2 cf2 e2, k (.d (.lst acc)) mu2 m2 H2 (.ref L) cf2.show (e1.trans e2') ?_ w2⟩
    simp only [RS, R]
    refine ⟨L, vacc, rfl, vw_some.mpr ⟨nL, fun z => ?_, eL⟩, Rs.mono vw_show _ _ ra⟩
    obtain ⟨k, mo, h1, h2⟩ := z
    exact cf2.exd L (List.mem_cons_self ..) (List.mem_of_getElem? h1)
section
variable {X : Cx} {pos : Pos} {elt tg iter tg1 iter1 : Expr} {ifs ifs1 : List Expr} {scope : Scope} {own : List (Str × Nat)} {vs1 : List Nat} {fi fi1 : WI} {g g1 : WG} {tt tt1 : WT} {te : WE}
theorem re_comp2 (hc : X.calm = true) (hN : X.N.Nodup) (hi : RI X tg iter fi) (ok : BlkOk X.N X.env.scope scope own) (hv : ∀ i ∈ vs1, i ∈ own.map (·.2))
    (hg : ∀ (s : Shared) (H : Hp) (C : Addr) (cl : List (Str × Addr)) (fp : List Addr), RG (X.blk s H scope (compEnvC scope cl C X.env) fp) tg (own.map (·.2)) g)
    (ht : ∀ (s : Shared) (H : Hp) (C : Addr) (cl : List (Str × Addr)) (fp : List Addr), RTs (X.blk s H scope (compEnvC scope cl C X.env) fp) ifs tt)
    (hi1 : ∀ (s : Shared) (H : Hp) (C : Addr) (cl : List (Str × Addr)) (fp : List Addr), RI (X.blk s H scope (compEnvC scope cl C X.env) fp) tg1 iter1 fi1)
    (hg1 : ∀ (s : Shared) (H : Hp) (C : Addr) (cl : List (Str × Addr)) (fp : List Addr), RG (X.blk s H scope (compEnvC scope cl C X.env) fp) tg1 vs1 g1)
    (ht1 : ∀ (s : Shared) (H : Hp) (C : Addr) (cl : List (Str × Addr)) (fp : List Addr), RTs (X.blk s H scope (compEnvC scope cl C X.env) fp) ifs1 tt1)
    (he : ∀ (s : Shared) (H : Hp) (C : Addr) (cl : List (Str × Addr)) (fp : List Addr), RE (X.blk s H scope (compEnvC scope cl C X.env) fp) elt te)
    (hs : ∀ x, foldedSetIterable iter X.env x = pure x := by intro _; rfl) (hs1 : ∀ env x, foldedSetIterable iter1 env x = pure x := by intro _ _; rfl) :
    RE X (.ListComp elt [⟨tg, iter, ifs, 0⟩, ⟨tg1, iter1, ifs1, 0⟩] scope pos) (wComp2 fi g tt fi1 g1 tt1 te (own.map (·.2)) vs1) :=
  pe_imp (pe_lc2 (g := tG X.K (own.map fun (p : Str × Nat) => p.2) g) (tt := tT X.K tt) (g1 := tG X.K vs1 g1) (tt1 := tT X.K tt1) (wi1 := tI X.K fi1) (te := tE X.K te) hc hN hi ok hv hg ht hi1 hg1 ht1 he hs hs1) fun _ _ _ q => comp2_red q
theorem rs_setC2 {i : Nat} {y : Str} {py spos : Pos} (hc : X.calm = true) (hN : X.N.Nodup) (hy : X.N[i]? = some y) (hyl : X.env.scope.names.lookup y = some .local)
    (hsw : swapsWith (.ListComp elt [⟨tg, iter, ifs, 0⟩, ⟨tg1, iter1, ifs1, 0⟩] scope pos) (some (.Name y py)) spos.line X.env = pure true) (hi : RI X tg iter fi) (ok : BlkOk X.N X.env.scope scope own) (hv : ∀ i ∈ vs1, i ∈ own.map (·.2))
    (hg : ∀ (s : Shared) (H : Hp) (C : Addr) (cl : List (Str × Addr)) (fp : List Addr), RG (X.blk s H scope (compEnvC scope cl C X.env) fp) tg (own.map (·.2)) g)
    (ht : ∀ (s : Shared) (H : Hp) (C : Addr) (cl : List (Str × Addr)) (fp : List Addr), RTs (X.blk s H scope (compEnvC scope cl C X.env) fp) ifs tt)
    (hi1 : ∀ (s : Shared) (H : Hp) (C : Addr) (cl : List (Str × Addr)) (fp : List Addr), RI (X.blk s H scope (compEnvC scope cl C X.env) fp) tg1 iter1 fi1)
    (hg1 : ∀ (s : Shared) (H : Hp) (C : Addr) (cl : List (Str × Addr)) (fp : List Addr), RG (X.blk s H scope (compEnvC scope cl C X.env) fp) tg1 vs1 g1)
    (ht1 : ∀ (s : Shared) (H : Hp) (C : Addr) (cl : List (Str × Addr)) (fp : List Addr), RTs (X.blk s H scope (compEnvC scope cl C X.env) fp) ifs1 tt1)
    (he : ∀ (s : Shared) (H : Hp) (C : Addr) (cl : List (Str × Addr)) (fp : List Addr), RE (X.blk s H scope (compEnvC scope cl C X.env) fp) elt te)
    (hs : ∀ x, foldedSetIterable iter X.env x = pure x := by intro _; rfl) (hs1 : ∀ env x, foldedSetIterable iter1 env x = pure x := by intro _ _; rfl) :
    RSt X (.Assign [.Name y py] (.ListComp elt [⟨tg, iter, ifs, 0⟩, ⟨tg1, iter1, ifs1, 0⟩] scope pos) spos) (wSet i (wComp2 fi g tt fi1 g1 tt1 te (own.map (·.2)) vs1)) :=
  ps_imp (ps_setLc2 (g := tG X.K (own.map fun (p : Str × Nat) => p.2) g) (tt := tT X.K tt) (g1 := tG X.K vs1 g1) (tt1 := tT X.K tt1) (wi1 := tI X.K fi1) (te := tE X.K te) hc hN hy hyl hsw hi ok hv hg ht hi1 hg1 ht1 he hs hs1) fun _ _ _ q => set_red (fun _ z => comp2_red z) q
end
end DL
set_option Elab.async false
set_option linter.all false
set_option maxRecDepth 100000
set_option maxHeartbeats 1000000
/-! AddM: a + b, a list that changes later; for over enumerate of a list that may change later -/
namespace DL
open PySem PySem.Spec L2
theorem drop_atE {α : Type} {xs : List α} {i : Nat} {x : α} (h : i < xs.length) (e : xs[i]? = some x) : xs.drop i = x :: xs.drop (i + 1) := by
  rw [List.drop_eq_getElem_cons h]
  rw [List.getElem?_eq_getElem h] at e
  rw [Option.some.inj e]
section
variable {X : Cx} {pos : Pos} {a b e : Expr} {fa fb : WE} {fs : WA} {p tpos : Pos} {elts : List Expr} {kk : Nat}
def wAddM (fa fb : WE) : WE := fun sl mu Q => fa sl mu fun s1 mu1 => fb sl mu1 fun s2 mu2 => On (rdL s1 mu2) fun x => On (rdL s2 mu2) fun y => x.length + y.length ≤ sizeLine ∧ Q (.h mu2.length) (mu2 ++ [some (.lst (x ++ y))])
theorem re_addM (ha : RE X a fa) (hb : RE X b fb) : RE X (.BinOp a .Add b pos) (wAddM fa fb) := by
  refine pe_imp (pe_op op_cat ha hb) fun σ H Q q => ?_
  obtain ⟨ex, m, sl, mu, Qd, cf, sr, w, k⟩ := q
  refine seq2 cf sr w fun s1 s2 mu' m' H' v1 v2 cf' e' r1 r2 q => ?_
  obtain ⟨x, ex1, q⟩ := On.elim q
  obtain ⟨y, ey1, hz, q⟩ := On.elim q
  obtain ⟨a1, vs, rfl, h1, g1⟩ := rdL_ok cf' r1 ex1
  obtain ⟨a2, us, rfl, h2, g2⟩ := rdL_ok cf' r2 ey1
  refine ⟨a1, a2, vs, us, rfl, rfl, h1, h2, by rw [← g1.length, ← g2.length]; exact hz, fun n hn => ?_⟩
  obtain ⟨c, e2, rr⟩ := hnd_new cf' hn (g1.append g2)
  exact k _ _ _ _ _ c (e'.trans e2) rr q
theorem e_addM {sl : Sl} {mu : Mu} {Q : S → Mu → Prop} (q : fa sl mu fun s1 mu1 => fb sl mu1 fun s2 mu2 => On (rdL s1 mu2) fun x => On (rdL s2 mu2) fun y => x.length + y.length ≤ sizeLine ∧ Q (.h mu2.length) (mu2 ++ [some (.lst (x ++ y))])) : wAddM fa fb sl mu Q := q
def wForEnL (fs : WA) (g : WG) (b : WS) : WS := fun E sl mu => fs sl mu fun ss mu1 => As1 ss fun s => On (rdL s mu1) fun ds => wForDL s ds g b E (enumD 0 ds) sl mu1
variable {g : WG} {vs : List Nat} {body : List Stmt} {bb : WS}
def REn (X : Cx) (tg iter : Expr) (fs : WA) : Prop := PI X tg iter (iEnum X.K (tA X.K fs))
theorem rn_enum (hg : Gl X "enumerate") (hm : X.mg "enumerate" = none) (ha : RA X [e] fs) (hs : starEach [e] X.env = [(false, eval e X.env)] := by rfl) :
    REn X (.Tuple elts kk tpos) (.Call (.Name "enumerate" p) [e] [] pos) fs := pi_enum hg hm ha hs
variable {tg iter : Expr}
theorem rs_forEnL (hp : PassesOwn (model X.prog X.w) X.A X.env X.xe) (hc : X.calm = true) (hi : REn X tg iter fs) (hg : RG X tg vs g) (hb : RSts X body bb)
    (hs : ∀ x, foldedSetIterable iter X.env x = pure x := by intro _; rfl) : RSt X (.For tg iter body [] pos) (wForEnL fs g bb) := by
  refine ps_imp (ps_for hp hc hi hg hb hs) fun E σ H q => ?_
  obtain ⟨ex, m, sl, mu, Ed, cf, sr, w, k, kr⟩ := q
  refine ⟨ex, m, sl, mu, _, cf, sr, w, fun ss mu1 m1 H1 v cf1 e1 rs q0 => ?_⟩
  unfold As1 at q0
  split at q0
  rotate_left
  · exact q0.elim
  rename_i s
  obtain ⟨x0, rfl, r1⟩ := rss1 rs
  obtain ⟨ds, ed0, q1⟩ := On.elim q0
  obtain ⟨a, us, rfl, hH1, g1⟩ := rdL_ok cf1 r1 ed0
  refine ⟨a, us, rfl, SqL.of hH1, ?_⟩
  have hlen : (enumD 0 ds).length = ds.length := enumD_len 0 ds
  refine ⟨fun i j σ2 H2 => j = ds.length - i ∧ i ≤ ds.length ∧ ∃ m2 sl2 mu2, Cfg X.K ex m2 mu2 H2 ∧ Ext ex m1 mu1 H1 m2 mu2 H2 ∧ SlR X.K m2 (vw ex m2 mu2 H2) sl2 σ2 ∧ wForDL s ds g bb Ed ((enumD 0 ds).drop i) sl2 mu2,
    ⟨ds.length, by simp, Nat.zero_le _, m1, sl, mu1, cf1, Ext.refl, sr.ext e1, by simpa using q1⟩, ?_⟩
  rintro i j σ2 H2 ⟨rfl, hi2, m2, sl2, mu2, cf2, e2, sr2, w2⟩
  obtain ⟨a2, vs2, ea2, hH2, g2⟩ := rdL_ok cf2 (r1.ext e2) (forDL_pin w2)
  cases ea2
  by_cases hlt : i < ds.length
  · have hlt2 : i < vs2.length := by
      rw [← g2.length]
      exact hlt
    refine .inr ⟨⟨vs2, vs2[i], SqL.of hH2, List.getElem?_eq_getElem hlt2⟩, fun σ5 H5 => ∃ m5 sl5 mu5, Cfg X.K ex m5 mu5 H5 ∧ Ext ex m1 mu1 H1 m5 mu5 H5 ∧ SlR X.K m5 (vw ex m5 mu5 H5) sl5 σ5 ∧ wForDL s ds g bb Ed ((enumD 0 ds).drop (i + 1)) sl5 mu5,
      fun σ5 H5 z => ⟨ds.length - (i + 1), by omega, rfl, hlt, z⟩, fun x H3 y => ?_⟩
    obtain ⟨T, v1, rfl, hT, rfl, gv⟩ := y
    obtain ⟨d, ed, r⟩ := g2.getV (gv vs2 (SqL.of hH2))
    have een := enumD_get 0 ds i d ed
    rw [Nat.zero_add] at een
    have edr : (enumD 0 ds).drop i = .tup [.int (i : Nat), d] :: (enumD 0 ds).drop (i + 1) := by
      exact drop_atE (by rw [hlen]; exact hlt) een
    rw [edr] at w2
    obtain ⟨sl3, eg, w3⟩ := On.elim w2.2
    have gr := grown (o := .tup [.int (i : Nat), v1]) cf2 hT
    have e3 := e2.trans gr.2
    refine ⟨ex, m2, sl2, mu2, _, sl3, gr.1, sr2.ext gr.2, rs_pair cf2 hT (r_int _) r, eg, fun σ4 sr4 _ => ?_⟩
    refine ⟨ex, m2, sl3, mu2, _, gr.1, sr4, w3, fun sl5 σ5 mu5 m5 H5 cf5 e5 sr5 => ⟨fun q5 => ⟨m5, sl5, mu5, cf5, e3.trans e5, sr5, q5⟩, fun q5 => (k _ _ _ _ _ cf5 (e1.trans (e3.trans e5)) sr5).1 q5, fun q5 => ⟨m5, sl5, mu5, cf5, e3.trans e5, sr5, q5⟩⟩, fun s mu5 m5 H5 v cf5 e5 r5 q5 => kr _ _ _ _ _ cf5 (e1.trans (e3.trans e5)) r5 q5⟩
  · have ei : i = ds.length := by omega
    subst ei
    rw [show (enumD 0 ds).drop ds.length = [] by rw [← hlen]; exact List.drop_length] at w2
    refine .inl ⟨⟨vs2, SqL.of hH2, by rw [g2.length]; exact Nat.le_refl _⟩, (k _ _ _ _ _ cf2 (e1.trans e2) sr2).1 w2.2⟩
theorem e_forEnL {E : DEnds} {sl : Sl} {mu : Mu} (q : fs sl mu fun ss mu1 => As1 ss fun s => On (rdL s mu1) fun ds => wForDL s ds g bb E (enumD 0 ds) sl mu1) : wForEnL fs g bb E sl mu := q
end
end DL
set_option Elab.async false
set_option linter.all false
set_option maxRecDepth 100000
set_option maxHeartbeats 4000000
namespace Law
open PySem PySem.Spec L2 DL
def topS (i : Nat) : Stmt := PySem.Challenge.pw_agreetwo_k58_blocks.main.body.getD i (.Pass ⟨0, 0, 0, 0⟩)
structure Txt (K : Frag) (mg : Str → Option Value) : Prop where
  b_abs : mg "abs" = none
  b_any : mg "any" = none
  b_enumerate : mg "enumerate" = none
  b_int : mg "int" = none
  b_len : mg "len" = none
  b_list : mg "list" = none
  b_range : mg "range" = none
  b_repr : mg "repr" = none
  b_sorted : mg "sorted" = none
  b_tuple : mg "tuple" = none
abbrev s_shared : Stmt := topS 1
theorem sc_shared : FnScope ["one", "other", "column"] ["one", "other"] (defScope s_shared) := ⟨rfl, rfl, rfl, by decide +kernel, rfl, by decide +kernel, by decide +kernel⟩
def w_shared : WS := (wRet (wCall dTuple (wCons (wComp (wIter (wVar 0)) (gN 2) (wB (wBin (dIn false) (wVar 2) (wVar 1))) (wVar 2) [2]) wNil)))
theorem g_shared {P : Program} {w : World} {K : Frag} {mg : Str → Option Value} {base : Heap} (T : Txt K mg) {f : Addr} {fd : FuncData} (F : Fun K "shared" "shared" s_shared f fd) :
    FnG P w K mg base 1 f fd ["one", "other"] (wDef 2 3 (w_shared)) :=
  fn_def (k := 0) F sc_shared fun cdv A outer s H hr hG => (rss_one (rs_ret (re_callTy cr_tuple (by rfl) T.b_tuple bt_tuple (ra_cons (re_comp (own := [("column", 2)]) rfl sc_shared.nd (ri_any (re_var (pv 0))) (blkOk_by (own := [("column", 2)]) (N := ["one", "other", "column"]) (sc := (defScope s_shared)) (by decide +kernel)) (fun _ _ _ _ _ => (rg_name (pg_name (i := 2) sc_shared.nd rfl (by first | exact Or.inl rfl | exact Or.inr rfl)))) (fun _ _ _ _ _ => (rts_one (rt_cmp op_dIn (re_var (pv 2)) (re_var (pv 1)) (by rfl)))) (fun _ _ _ _ _ => (re_var (pv 2)))) ra_nil))))

abbrev s_beyond : Stmt := topS 2
theorem sc_beyond : FnScope ["one", "other", "column"] ["one", "other"] (defScope s_beyond) := ⟨rfl, rfl, rfl, by decide +kernel, rfl, by decide +kernel, by decide +kernel⟩
def w_beyond : WS := (wRet (wCall dTuple (wCons (wComp (wIter (wVar 0)) (gN 2) (wB (wBin (dIn true) (wVar 2) (wVar 1))) (wVar 2) [2]) wNil)))
theorem g_beyond {P : Program} {w : World} {K : Frag} {mg : Str → Option Value} {base : Heap} (T : Txt K mg) {f : Addr} {fd : FuncData} (F : Fun K "beyond" "beyond" s_beyond f fd) :
    FnG P w K mg base 1 f fd ["one", "other"] (wDef 2 3 (w_beyond)) :=
  fn_def (k := 0) F sc_beyond fun cdv A outer s H hr hG => (rss_one (rs_ret (re_callTy cr_tuple (by rfl) T.b_tuple bt_tuple (ra_cons (re_comp (own := [("column", 2)]) rfl sc_beyond.nd (ri_any (re_var (pv 0))) (blkOk_by (own := [("column", 2)]) (N := ["one", "other", "column"]) (sc := (defScope s_beyond)) (by decide +kernel)) (fun _ _ _ _ _ => (rg_name (pg_name (i := 2) sc_beyond.nd rfl (by first | exact Or.inl rfl | exact Or.inr rfl)))) (fun _ _ _ _ _ => (rts_one (rt_cmp op_dNotIn (re_var (pv 2)) (re_var (pv 1)) (by rfl)))) (fun _ _ _ _ _ => (re_var (pv 2)))) ra_nil))))

abbrev s_fallen : Stmt := topS 4
theorem sc_fallen : FnScope ["block", "split", "given", "side", "inside", "outside"] ["block", "split"] (defScope s_fallen) := ⟨rfl, rfl, rfl, by decide +kernel, rfl, by decide +kernel, by decide +kernel⟩
def w_fallen (W_beyond : WF) (W_shared : WF) : WS := (wSeq (wAsg (wVar 1) (g2 (gN 2) (gN 3))) (wSeq (wPar 4 5 (wCons (wFn W_shared (wCons (wVar 0) (wCons (wVar 3) wNil))) (wCons (wFn W_beyond (wCons (wVar 0) (wCons (wVar 3) wNil))) wNil))) (wSeq (wIf (wOrT (wB (wBin (dEq true) (wFn W_shared (wCons (wVar 0) (wCons (wVar 2) wNil))) (wCall (dDisp D.tup) wNil))) (wOrT (wB (wBin (dEq false) (wVar 4) (wCall (dDisp D.tup) wNil))) (wB (wBin (dEq false) (wVar 5) (wCall (dDisp D.tup) wNil))))) (wRet (wCall (dDisp D.lst) (wCons (wVar 0) wNil))) wSkip) (wRet (wCall (dDisp D.lst) (wCons (wVar 4) (wCons (wVar 5) wNil)))))))
theorem g_fallen {P : Program} {w : World} {K : Frag} {mg : Str → Option Value} {base : Heap} (T : Txt K mg) {f : Addr} {fd : FuncData} {W_beyond : WF} {W_shared : WF} (F : Fun K "fallen" "fallen" s_fallen f fd) (F_beyond : FnD P w K mg base 1 "beyond" W_beyond) (F_shared : FnD P w K mg base 1 "shared" W_shared) :
    FnG P w K mg base 2 f fd ["block", "split"] (wDef 2 6 (w_fallen W_beyond W_shared)) :=
  fn_def (k := 1) F sc_fallen fun cdv A outer s H hr hG => (rss_cons (rs_asg (re_var (pv 1)) (rg_two rfl (rg_name (pg_name (i := 2) sc_fallen.nd rfl (Or.inl rfl))) (rg_name (pg_name (i := 3) sc_fallen.nd rfl (Or.inl rfl))))) (rss_cons (rs_par (i := 4) (j := 5) rfl sc_fallen.nd rfl rfl (by decide) rfl rfl (ra_cons (re_call F_shared (hr.mono (by decide)) hG (by rfl) (ra_cons (re_var (pv 0)) (ra_cons (re_var (pv 3)) ra_nil))) (ra_cons (re_call F_beyond (hr.mono (by decide)) hG (by rfl) (ra_cons (re_var (pv 0)) (ra_cons (re_var (pv 3)) ra_nil))) ra_nil)) (by rfl)) (rss_cons (rs_if (rt_w (rw_or (rt_cmp (op_dNe hr.units) (re_call F_shared (hr.mono (by decide)) hG (by rfl) (ra_cons (re_var (pv 0)) (ra_cons (re_var (pv 2)) ra_nil))) (re_tup ra_nil) (nomark _)) (rw_or (rt_cmp (op_dEq hr.units) (re_var (pv 4)) (re_tup ra_nil) (nomark _)) (rw_or1 (rt_cmp (op_dEq hr.units) (re_var (pv 5)) (re_tup ra_nil) (nomark _)))))) (rss_one (rs_ret (re_lst (ra_cons (re_var (pv 0)) ra_nil)))) rss_nil) (rss_one (rs_ret (re_lst (ra_cons (re_var (pv 4)) (ra_cons (re_var (pv 5)) ra_nil))))))))

abbrev s_blocks : Stmt := topS 5
theorem sc_blocks : FnScope ["heading", "told", "given", "columns", "found", "many", "split", "block", "piece"] ["heading", "told", "given"] (defScope s_blocks) := ⟨rfl, rfl, rfl, by decide +kernel, rfl, by decide +kernel, by decide +kernel⟩
def w_blocks (W_beyond : WF) (W_fallen : WF) : WS := (wSeq (wSet 3 (wFn W_beyond (wCons (wVar 0) (wCons (wVar 2) wNil)))) (wSeq (wSet 4 (wIfE (wB (wBin (dEq false) (wVar 3) (wCall (dDisp D.tup) wNil))) (wCall (dDisp D.lst) wNil) (wCall (dDisp D.lst) (wCons (wVar 3) wNil)))) (wWhile (wB (wC (.bl true))) (wSeq (wSet 5 (wCall dLen (wCons (wVar 4) wNil))) (wSeq (wFor (wIter (wVar 1)) (gN 6) (wSet 4 (wComp2 (wIter (wVar 4)) (gN 7) wYes (wIter (wFn W_fallen (wCons (wVar 7) (wCons (wVar 6) wNil)))) (gN 8) wYes (wVar 8) [7, 8] [8]))) (wIf (wB (wBin (dEq false) (wCall dLen (wCons (wVar 4) wNil)) (wVar 5))) (wRet (wSortHM (wCons (wVar 4) wNil))) wSkip))))))
theorem g_blocks {P : Program} {w : World} {K : Frag} {mg : Str → Option Value} {base : Heap} (T : Txt K mg) {f : Addr} {fd : FuncData} {W_beyond : WF} {W_fallen : WF} (F : Fun K "blocks" "blocks" s_blocks f fd) (F_beyond : FnD P w K mg base 1 "beyond" W_beyond) (F_fallen : FnD P w K mg base 2 "fallen" W_fallen) :
    FnG P w K mg base 3 f fd ["heading", "told", "given"] (wDefM 3 9 (w_blocks W_beyond W_fallen)) :=
  fn_defM (k := 2) F sc_blocks fun cdv A outer s H hr hG => (rss_cons (rs_set (i := 3) sc_blocks.nd rfl (Or.inl rfl) (re_call F_beyond (hr.mono (by decide)) hG (by rfl) (ra_cons (re_var (pv 0)) (ra_cons (re_var (pv 2)) ra_nil)))) (rss_cons (rs_set (i := 4) sc_blocks.nd rfl (Or.inl rfl) (re_if (rt_cmp (op_dEq hr.units) (re_var (pv 3)) (re_tup ra_nil) (nomark _)) (re_lst ra_nil) (re_lst (ra_cons (re_var (pv 3)) ra_nil)))) (rss_one (rs_while PassesOwn.never (rt_val re_bl) (rss_cons (rs_set (i := 5) sc_blocks.nd rfl (Or.inl rfl) (re_callB cr_len (by rfl) T.b_len bt_len (ra_cons (re_var (pv 4)) ra_nil))) (rss_cons (rs_for PassesOwn.never rfl (ri_any (re_var (pv 1))) (rg_name (pg_name (i := 6) sc_blocks.nd rfl (Or.inr rfl))) (rss_one (rs_setC2 (i := 4) (own := [("block", 7), ("piece", 8)]) (vs1 := [8]) rfl sc_blocks.nd rfl rfl (sw_true rfl rfl rfl (by decide +kernel)) (ri_any (re_var (pv 4))) (blkOk_by (own := [("block", 7), ("piece", 8)]) (N := ["heading", "told", "given", "columns", "found", "many", "split", "block", "piece"]) (sc := (defScope s_blocks)) (by decide +kernel)) (by decide) (fun _ _ _ _ _ => rg_more (rg_name (pg_name (i := 7) sc_blocks.nd rfl (by first | exact Or.inl rfl | exact Or.inr rfl))) (by decide)) (fun _ _ _ _ _ => rts_nil) (fun _ _ _ _ _ => (ri_any (re_call F_fallen (hr.mono (by decide)) hG (by rfl) (ra_cons (re_var (pv 7)) (ra_cons (re_var (pv 6)) ra_nil))))) (fun _ _ _ _ _ => (rg_name (pg_name (i := 8) sc_blocks.nd rfl (by first | exact Or.inl rfl | exact Or.inr rfl)))) (fun _ _ _ _ _ => rts_nil) (fun _ _ _ _ _ => (re_var (pv 8)))))) (rss_one (rs_if (rt_cmp (op_dEq hr.units) (re_callB cr_len (by rfl) T.b_len bt_len (ra_cons (re_var (pv 4)) ra_nil)) (re_var (pv 5)) (nomark _)) (rss_one (rs_ret (re_sortHM (room65 hr) (by rfl) T.b_sorted (ra_cons (re_var (pv 4)) ra_nil)))) rss_nil))))))))

abbrev s_rest_of : Stmt := topS 7
theorem sc_rest_of : FnScope ["heading", "split", "given", "side"] ["heading", "split"] (defScope s_rest_of) := ⟨rfl, rfl, rfl, by decide +kernel, rfl, by decide +kernel, by decide +kernel⟩
def w_rest_of (W_beyond : WF) : WS := (wSeq (wAsg (wVar 1) (g2 (gN 2) (gN 3))) (wRet (wFn W_beyond (wCons (wFn W_beyond (wCons (wVar 0) (wCons (wVar 2) wNil))) (wCons (wVar 3) wNil)))))
theorem g_rest_of {P : Program} {w : World} {K : Frag} {mg : Str → Option Value} {base : Heap} (T : Txt K mg) {f : Addr} {fd : FuncData} {W_beyond : WF} (F : Fun K "rest_of" "rest_of" s_rest_of f fd) (F_beyond : FnD P w K mg base 1 "beyond" W_beyond) :
    FnG P w K mg base 2 f fd ["heading", "split"] (wDef 2 4 (w_rest_of W_beyond)) :=
  fn_def (k := 1) F sc_rest_of fun cdv A outer s H hr hG => (rss_cons (rs_asg (re_var (pv 1)) (rg_two rfl (rg_name (pg_name (i := 2) sc_rest_of.nd rfl (Or.inl rfl))) (rg_name (pg_name (i := 3) sc_rest_of.nd rfl (Or.inl rfl))))) (rss_one (rs_ret (re_call F_beyond (hr.mono (by decide)) hG (by rfl) (ra_cons (re_call F_beyond (hr.mono (by decide)) hG (by rfl) (ra_cons (re_var (pv 0)) (ra_cons (re_var (pv 2)) ra_nil))) (ra_cons (re_var (pv 3)) ra_nil))))))

abbrev s_other_side : Stmt := topS 8
theorem sc_other_side : FnScope ["heading", "split"] ["heading", "split"] (defScope s_other_side) := ⟨rfl, rfl, rfl, by decide +kernel, rfl, by decide +kernel, by decide +kernel⟩
def w_other_side (W_rest_of : WF) : WS := (wRet (wCall (dDisp D.tup) (wCons (wBin dIx (wVar 1) (wC (.int 0))) (wCons (wFn W_rest_of (wCons (wVar 0) (wCons (wVar 1) wNil))) wNil))))
theorem g_other_side {P : Program} {w : World} {K : Frag} {mg : Str → Option Value} {base : Heap} (T : Txt K mg) {f : Addr} {fd : FuncData} {W_rest_of : WF} (F : Fun K "other_side" "other_side" s_other_side f fd) (F_rest_of : FnD P w K mg base 2 "rest_of" W_rest_of) :
    FnG P w K mg base 3 f fd ["heading", "split"] (wDef 2 2 (w_other_side W_rest_of)) :=
  fn_def (k := 2) F sc_other_side fun cdv A outer s H hr hG => (rss_one (rs_ret (re_tup (ra_cons (re_ix (re_var (pv 1)) re_int (fun _ _ => rfl)) (ra_cons (re_call F_rest_of (hr.mono (by decide)) hG (by rfl) (ra_cons (re_var (pv 0)) (ra_cons (re_var (pv 1)) ra_nil))) ra_nil)))))

abbrev s_law_open_cells : Stmt := topS 10
theorem sc_law_open_cells : FnScope ["_law_script", "_law_mixed", "_law_cell", "_law_cells"] ["_law_script"] (defScope s_law_open_cells) := ⟨rfl, rfl, rfl, by decide +kernel, rfl, by decide +kernel, by decide +kernel⟩
def w_law_open_cells : WS := (wSeq (wSet 1 (wC (.int 11))) (wSeq (wFor (wIter (wVar 0)) (gN 2) (wSet 1 (wBin dMod (wCall dInt1 (wCons (wBin dAdd (wBin dAdd (wBin dMul (wVar 1) (wC (.int 69069))) (wBin dMul (wVar 2) (wC (.int 31)))) (wC (.int 5))) wNil)) (wC (.int 2147483629))))) (wSeq (wSet 3 (wComp (wIter (wVar 0)) (gN 2) wYes (wCall dAbs (wCons (wVar 2) wNil)) [2])) (wRet (wDisp [((wC (.str "cells")), (wRevM (wVar 3))), ((wC (.str "left")), (wC (.int 1))), ((wC (.str "mixed")), (wVar 1)), ((wC (.str "turn")), (wC (.int 0)))])))))
theorem g_law_open_cells {P : Program} {w : World} {K : Frag} {mg : Str → Option Value} {base : Heap} (T : Txt K mg) {f : Addr} {fd : FuncData} (F : Fun K "_law_open_cells" "_law_open_cells" s_law_open_cells f fd) :
    FnG P w K mg base 1 f fd ["_law_script"] (wDefM 1 4 (w_law_open_cells)) :=
  fn_defM (k := 0) F sc_law_open_cells fun cdv A outer s H hr hG => (rss_cons (rs_set (i := 1) sc_law_open_cells.nd rfl (Or.inl rfl) re_int) (rss_cons (rs_for PassesOwn.never rfl (ri_any (re_var (pv 0))) (rg_name (pg_name (i := 2) sc_law_open_cells.nd rfl (Or.inl rfl))) (rss_one (rs_set (i := 1) sc_law_open_cells.nd rfl (Or.inl rfl) (re_bin op_dMod (re_callTy cr_int (by rfl) T.b_int bt_int (ra_cons (re_bin op_dAdd (re_bin op_dAdd (re_bin op_dMul (re_var (pv 1)) re_int) (re_bin op_dMul (re_var (pv 2)) re_int)) re_int) ra_nil)) re_int)))) (rss_cons (rs_setC (i := 3) (own := [("_law_cell", 2)]) rfl sc_law_open_cells.nd rfl rfl (sw_true rfl rfl rfl (by decide +kernel)) (ri_any (re_var (pv 0))) (blkOk_by (own := [("_law_cell", 2)]) (N := ["_law_script", "_law_mixed", "_law_cell", "_law_cells"]) (sc := (defScope s_law_open_cells)) (by decide +kernel)) (fun _ _ _ _ _ => (rg_name (pg_name (i := 2) sc_law_open_cells.nd rfl (by first | exact Or.inl rfl | exact Or.inr rfl)))) (fun _ _ _ _ _ => rts_nil) (fun _ _ _ _ _ => (re_callB cr_abs (by rfl) T.b_abs bt_abs (ra_cons (re_var (pv 2)) ra_nil)))) (rss_one (rs_ret (re_disp (rps_cons re_str (re_revM (re_var (pv 3))) (rps_cons re_str re_int (rps_cons re_str (re_var (pv 1)) (rps_cons re_str re_int rps_nil))))))))))

abbrev s_law_pick : Stmt := topS 11
theorem sc_law_pick : FnScope ["_law_source", "_law_most", "_law_cells", "_law_left", "_law_turn", "_law_mixed"] ["_law_source", "_law_most"] (defScope s_law_pick) := ⟨rfl, rfl, rfl, by decide +kernel, rfl, by decide +kernel, by decide +kernel⟩
def w_law_pick : WS := (wSeq (wIf (wB (wBin dLt (wVar 1) (wC (.int 2)))) (wRet (wC (.int 0))) wSkip) (wSeq (wSet 2 (wDget (wVar 0) (wC (.str "cells")))) (wSeq (wWhile (wAndT (wB (wBin dLt (wDget (wVar 0) (wC (.str "left"))) (wC (.int 2)))) (wB (wBin dGt (wCall dLen (wCons (wVar 2) wNil)) (wC (.int 0))))) (wDput (wVar 0) (wC (.str "left")) (wMut gPop (wVar 2) wNil))) (wSeq (wSet 3 (wDget (wVar 0) (wC (.str "left")))) (wSeq (wIf (wB (wBin dGt (wVar 3) (wC (.int 1)))) (wSeq (wDput (wVar 0) (wC (.str "left")) (wBin dFdiv (wVar 3) (wVar 1))) (wRet (wBin dMod (wCall dInt1 (wCons (wVar 3) wNil)) (wVar 1)))) wSkip) (wSeq (wDput (wVar 0) (wC (.str "turn")) (wBin dAdd (wDget (wVar 0) (wC (.str "turn"))) (wC (.int 1)))) (wSeq (wSet 4 (wDget (wVar 0) (wC (.str "turn")))) (wSeq (wSet 5 (wBin dMod (wCall dInt1 (wCons (wBin dAdd (wDget (wVar 0) (wC (.str "mixed"))) (wBin dMul (wVar 4) (wC (.int 104729)))) wNil)) (wC (.int 998244353)))) (wSeq (wSet 5 (wBin dMod (wCall dInt1 (wCons (wBin dAdd (wBin dMul (wVar 5) (wVar 5)) (wBin dMul (wVar 4) (wC (.int 17)))) wNil)) (wC (.int 2147483647)))) (wRet (wBin dMod (wCall dInt1 (wCons (wBin dFdiv (wVar 5) (wC (.int 16))) wNil)) (wVar 1))))))))))))
theorem g_law_pick {P : Program} {w : World} {K : Frag} {mg : Str → Option Value} {base : Heap} (T : Txt K mg) {f : Addr} {fd : FuncData} (F : Fun K "_law_pick" "_law_pick" s_law_pick f fd) :
    FnG P w K mg base 1 f fd ["_law_source", "_law_most"] (wDef 2 6 (w_law_pick)) :=
  fn_def (k := 0) F sc_law_pick fun cdv A outer s H hr hG => (rss_cons (rs_if (rt_cmp op_dLt (re_var (pv 1)) re_int (nomark _)) (rss_one (rs_ret re_int)) rss_nil) (rss_cons (rs_set (i := 2) sc_law_pick.nd rfl (Or.inl rfl) (re_dget (hu_of hr) (re_var (pv 0)) re_str (fun _ _ => rfl))) (rss_cons (rs_while PassesOwn.never (rt_w (rw_and (rt_cmp op_dLt (re_dget (hu_of hr) (re_var (pv 0)) re_str (fun _ _ => rfl)) re_int (nomark _)) (rw_and1 (rt_cmp op_dGt (re_callB cr_len (by rfl) T.b_len bt_len (ra_cons (re_var (pv 2)) ra_nil)) re_int (nomark _))))) (rss_one (rs_dput (hu_of hr) (re_var (pv 0)) re_str (re_pop (re_var (pv 2)))))) (rss_cons (rs_set (i := 3) sc_law_pick.nd rfl (Or.inl rfl) (re_dget (hu_of hr) (re_var (pv 0)) re_str (fun _ _ => rfl))) (rss_cons (rs_if (rt_cmp op_dGt (re_var (pv 3)) re_int (nomark _)) (rss_cons (rs_dput (hu_of hr) (re_var (pv 0)) re_str (re_bin op_dFdiv (re_var (pv 3)) (re_var (pv 1)))) (rss_one (rs_ret (re_bin op_dMod (re_callTy cr_int (by rfl) T.b_int bt_int (ra_cons (re_var (pv 3)) ra_nil)) (re_var (pv 1)))))) rss_nil) (rss_cons (rs_dput (hu_of hr) (re_var (pv 0)) re_str (re_bin op_dAdd (re_dget (hu_of hr) (re_var (pv 0)) re_str (fun _ _ => rfl)) re_int)) (rss_cons (rs_set (i := 4) sc_law_pick.nd rfl (Or.inl rfl) (re_dget (hu_of hr) (re_var (pv 0)) re_str (fun _ _ => rfl))) (rss_cons (rs_set (i := 5) sc_law_pick.nd rfl (Or.inl rfl) (re_bin op_dMod (re_callTy cr_int (by rfl) T.b_int bt_int (ra_cons (re_bin op_dAdd (re_dget (hu_of hr) (re_var (pv 0)) re_str (fun _ _ => rfl)) (re_bin op_dMul (re_var (pv 4)) re_int)) ra_nil)) re_int)) (rss_cons (rs_set (i := 5) sc_law_pick.nd rfl (Or.inl rfl) (re_bin op_dMod (re_callTy cr_int (by rfl) T.b_int bt_int (ra_cons (re_bin op_dAdd (re_bin op_dMul (re_var (pv 5)) (re_var (pv 5))) (re_bin op_dMul (re_var (pv 4)) re_int)) ra_nil)) re_int)) (rss_one (rs_ret (re_bin op_dMod (re_callTy cr_int (by rfl) T.b_int bt_int (ra_cons (re_bin op_dFdiv (re_var (pv 5)) re_int) ra_nil)) (re_var (pv 1))))))))))))))

abbrev s_law_any_order : Stmt := topS 12
theorem sc_law_any_order : FnScope ["_law_source", "_law_things", "_law_rest", "_law_lap"] ["_law_source", "_law_things"] (defScope s_law_any_order) := ⟨rfl, rfl, rfl, by decide +kernel, rfl, by decide +kernel, by decide +kernel⟩
def w_law_any_order (W_law_pick : WF) : WS := (wSeq (wSet 2 (wListM (wCons (wVar 1) wNil))) (wRet (wComp (wRange1 (wCons (wCall dLen (wCons (wVar 2) wNil)) wNil)) (gN 3) wYes (wMut gPopAt (wVar 2) (wCons (wFn W_law_pick (wCons (wVar 0) (wCons (wCall dLen (wCons (wVar 2) wNil)) wNil))) wNil)) [3])))
theorem g_law_any_order {P : Program} {w : World} {K : Frag} {mg : Str → Option Value} {base : Heap} (T : Txt K mg) {f : Addr} {fd : FuncData} {W_law_pick : WF} (F : Fun K "_law_any_order" "_law_any_order" s_law_any_order f fd) (F_law_pick : FnD P w K mg base 1 "_law_pick" W_law_pick) :
    FnG P w K mg base 2 f fd ["_law_source", "_law_things"] (wDef 2 4 (w_law_any_order W_law_pick)) :=
  fn_def (k := 1) F sc_law_any_order fun cdv A outer s H hr hG => (rss_cons (rs_set (i := 2) sc_law_any_order.nd rfl (Or.inr rfl) (re_listM (by rfl) T.b_list bt_list (ra_cons (re_var (pv 1)) ra_nil))) (rss_one (rs_ret (re_comp (own := [("_law_lap", 3)]) rfl sc_law_any_order.nd (ri_range1 (by rfl) T.b_range (ra_cons (re_callB cr_len (by rfl) T.b_len bt_len (ra_cons (re_var (pv 2)) ra_nil)) ra_nil)) (blkOk_by (own := [("_law_lap", 3)]) (N := ["_law_source", "_law_things", "_law_rest", "_law_lap"]) (sc := (defScope s_law_any_order)) (by decide +kernel)) (fun _ _ _ _ _ => (rg_name (pg_name (i := 3) sc_law_any_order.nd rfl (by first | exact Or.inl rfl | exact Or.inr rfl)))) (fun _ _ _ _ _ => rts_nil) (fun _ _ _ _ _ => (re_popAt (re_var (pv 2)) (ra_cons (re_call F_law_pick (hr.mono (by decide)) hG (by rfl) (ra_cons (re_var (pv 0)) (ra_cons (re_callB cr_len (by rfl) T.b_len bt_len (ra_cons (re_var (pv 2)) ra_nil)) ra_nil))) ra_nil)))))))

abbrev s_law_draw_names : Stmt := topS 13
theorem sc_law_draw_names : FnScope ["_law_source", "_law_many"] ["_law_source", "_law_many"] (defScope s_law_draw_names) := ⟨rfl, rfl, rfl, by decide +kernel, rfl, by decide +kernel, by decide +kernel⟩
def w_law_draw_names (W_law_any_order : WF) : WS := (wRet (wSlice (wFn W_law_any_order (wCons (wVar 0) (wCons (wCall (dDisp D.lst) (wCons (wC (.str "a")) (wCons (wC (.str "b")) (wCons (wC (.str "ab")) (wCons (wC (.str "c")) (wCons (wC (.str "low")) (wCons (wC (.str "up")) (wCons (wC (.str "x")) (wCons (wC (.str "z")) wNil))))))))) wNil))) wNoPart (wPart (wVar 1))))
theorem g_law_draw_names {P : Program} {w : World} {K : Frag} {mg : Str → Option Value} {base : Heap} (T : Txt K mg) {f : Addr} {fd : FuncData} {W_law_any_order : WF} (F : Fun K "_law_draw_names" "_law_draw_names" s_law_draw_names f fd) (F_law_any_order : FnD P w K mg base 2 "_law_any_order" W_law_any_order) :
    FnG P w K mg base 3 f fd ["_law_source", "_law_many"] (wDef 2 2 (w_law_draw_names W_law_any_order)) :=
  fn_def (k := 2) F sc_law_draw_names fun cdv A outer s H hr hG => (rss_one (rs_ret (re_slice (re_call F_law_any_order (hr.mono (by decide)) hG (by rfl) (ra_cons (re_var (pv 0)) (ra_cons (re_lst (ra_cons re_str (ra_cons re_str (ra_cons re_str (ra_cons re_str (ra_cons re_str (ra_cons re_str (ra_cons re_str (ra_cons re_str ra_nil))))))))) ra_nil))) ro_none (ro_some (re_var (pv 1))))))

abbrev s_law_draw_some : Stmt := topS 14
theorem sc_law_draw_some : FnScope ["_law_source", "_law_things", "_law_few", "_law_found", "_law_one"] ["_law_source", "_law_things", "_law_few"] (defScope s_law_draw_some) := ⟨rfl, rfl, rfl, by decide +kernel, rfl, by decide +kernel, by decide +kernel⟩
def w_law_draw_some (W_law_any_order : WF) (W_law_pick : WF) : WS := (wSeq (wSet 3 (wComp (wIter (wFn W_law_any_order (wCons (wVar 0) (wCons (wVar 1) wNil)))) (gN 4) (wB (wBin (dEq false) (wFn W_law_pick (wCons (wVar 0) (wCons (wC (.int 2)) wNil))) (wC (.int 0)))) (wVar 4) [4])) (wRet (wIfE (wB (wBin dGe (wCall dLen (wCons (wVar 3) wNil)) (wVar 2))) (wVar 3) (wSlice (wCall dList (wCons (wVar 1) wNil)) wNoPart (wPart (wVar 2))))))
theorem g_law_draw_some {P : Program} {w : World} {K : Frag} {mg : Str → Option Value} {base : Heap} (T : Txt K mg) {f : Addr} {fd : FuncData} {W_law_any_order : WF} {W_law_pick : WF} (F : Fun K "_law_draw_some" "_law_draw_some" s_law_draw_some f fd) (F_law_any_order : FnD P w K mg base 2 "_law_any_order" W_law_any_order) (F_law_pick : FnD P w K mg base 1 "_law_pick" W_law_pick) :
    FnG P w K mg base 3 f fd ["_law_source", "_law_things", "_law_few"] (wDef 3 5 (w_law_draw_some W_law_any_order W_law_pick)) :=
  fn_def (k := 2) F sc_law_draw_some fun cdv A outer s H hr hG => (rss_cons (rs_setC (i := 3) (own := [("_law_one", 4)]) rfl sc_law_draw_some.nd rfl rfl (sw_true rfl rfl rfl (by decide +kernel)) (ri_any (re_call F_law_any_order (hr.mono (by decide)) hG (by rfl) (ra_cons (re_var (pv 0)) (ra_cons (re_var (pv 1)) ra_nil)))) (blkOk_by (own := [("_law_one", 4)]) (N := ["_law_source", "_law_things", "_law_few", "_law_found", "_law_one"]) (sc := (defScope s_law_draw_some)) (by decide +kernel)) (fun _ _ _ _ _ => (rg_name (pg_name (i := 4) sc_law_draw_some.nd rfl (by first | exact Or.inl rfl | exact Or.inr rfl)))) (fun _ _ _ _ _ => (rts_one (rt_cmp (op_dEq hr.units) (re_call F_law_pick (hr.mono (by decide)) hG (by rfl) (ra_cons (re_var (pv 0)) (ra_cons re_int ra_nil))) re_int (nomark _)))) (fun _ _ _ _ _ => (re_var (pv 4)))) (rss_one (rs_ret (re_if (rt_cmp op_dGe (re_callB cr_len (by rfl) T.b_len bt_len (ra_cons (re_var (pv 3)) ra_nil)) (re_var (pv 2)) (nomark _)) (re_var (pv 3)) (re_slice (re_callTy cr_list (by rfl) T.b_list bt_list (ra_cons (re_var (pv 1)) ra_nil)) ro_none (ro_some (re_var (pv 2))))))))

abbrev s_law_heading : Stmt := topS 15
theorem sc_law_heading : FnScope ["_law_source", "_law_least", "_law_most"] ["_law_source", "_law_least", "_law_most"] (defScope s_law_heading) := ⟨rfl, rfl, rfl, by decide +kernel, rfl, by decide +kernel, by decide +kernel⟩
def w_law_heading (W_law_draw_names : WF) (W_law_pick : WF) : WS := (wRet (wCall dTuple (wCons (wCall dSorted (wCons (wFn W_law_draw_names (wCons (wVar 0) (wCons (wBin dAdd (wVar 1) (wFn W_law_pick (wCons (wVar 0) (wCons (wBin dSub (wBin dAdd (wVar 2) (wC (.int 1))) (wVar 1)) wNil)))) wNil))) wNil)) wNil)))
theorem g_law_heading {P : Program} {w : World} {K : Frag} {mg : Str → Option Value} {base : Heap} (T : Txt K mg) {f : Addr} {fd : FuncData} {W_law_draw_names : WF} {W_law_pick : WF} (F : Fun K "_law_heading" "_law_heading" s_law_heading f fd) (F_law_draw_names : FnD P w K mg base 3 "_law_draw_names" W_law_draw_names) (F_law_pick : FnD P w K mg base 1 "_law_pick" W_law_pick) :
    FnG P w K mg base 4 f fd ["_law_source", "_law_least", "_law_most"] (wDef 3 3 (w_law_heading W_law_draw_names W_law_pick)) :=
  fn_def (k := 3) F sc_law_heading fun cdv A outer s H hr hG => (rss_one (rs_ret (re_callTy cr_tuple (by rfl) T.b_tuple bt_tuple (ra_cons (re_callB cr_dSorted (by rfl) T.b_sorted bt_sorted (ra_cons (re_call F_law_draw_names (hr.mono (by decide)) hG (by rfl) (ra_cons (re_var (pv 0)) (ra_cons (re_bin op_dAdd (re_var (pv 1)) (re_call F_law_pick (hr.mono (by decide)) hG (by rfl) (ra_cons (re_var (pv 0)) (ra_cons (re_bin op_dSub (re_bin op_dAdd (re_var (pv 2)) re_int) (re_var (pv 1))) ra_nil)))) ra_nil))) ra_nil)) ra_nil))))

abbrev s_law_draw_split : Stmt := topS 16
theorem sc_law_draw_split : FnScope ["_law_source", "_law_heading_here", "_law_some", "_law_n", "_law_m"] ["_law_source", "_law_heading_here"] (defScope s_law_draw_split) := ⟨rfl, rfl, rfl, by decide +kernel, rfl, by decide +kernel, by decide +kernel⟩
def w_law_draw_split (W_law_pick : WF) (W_law_any_order : WF) : WS := (wSeq (wPar 2 3 (wCons (wFn W_law_any_order (wCons (wVar 0) (wCons (wVar 1) wNil))) (wCons (wFn W_law_pick (wCons (wVar 0) (wCons (wBin dSub (wCall dLen (wCons (wVar 1) wNil)) (wC (.int 1))) wNil))) wNil))) (wSeq (wSet 4 (wBin dAdd (wBin dAdd (wVar 3) (wC (.int 1))) (wFn W_law_pick (wCons (wVar 0) (wCons (wBin dSub (wBin dSub (wCall dLen (wCons (wVar 1) wNil)) (wVar 3)) (wC (.int 1))) wNil))))) (wRet (wCall (dDisp D.tup) (wCons (wCall dTuple (wCons (wCall dSorted (wCons (wSlice (wVar 2) wNoPart (wPart (wVar 3))) wNil)) wNil)) (wCons (wCall dTuple (wCons (wCall dSorted (wCons (wSlice (wVar 2) (wPart (wVar 3)) (wPart (wVar 4))) wNil)) wNil)) wNil))))))
theorem g_law_draw_split {P : Program} {w : World} {K : Frag} {mg : Str → Option Value} {base : Heap} (T : Txt K mg) {f : Addr} {fd : FuncData} {W_law_pick : WF} {W_law_any_order : WF} (F : Fun K "_law_draw_split" "_law_draw_split" s_law_draw_split f fd) (F_law_pick : FnD P w K mg base 1 "_law_pick" W_law_pick) (F_law_any_order : FnD P w K mg base 2 "_law_any_order" W_law_any_order) :
    FnG P w K mg base 3 f fd ["_law_source", "_law_heading_here"] (wDef 2 5 (w_law_draw_split W_law_pick W_law_any_order)) :=
  fn_def (k := 2) F sc_law_draw_split fun cdv A outer s H hr hG => (rss_cons (rs_par (i := 2) (j := 3) rfl sc_law_draw_split.nd rfl rfl (by decide) rfl rfl (ra_cons (re_call F_law_any_order (hr.mono (by decide)) hG (by rfl) (ra_cons (re_var (pv 0)) (ra_cons (re_var (pv 1)) ra_nil))) (ra_cons (re_call F_law_pick (hr.mono (by decide)) hG (by rfl) (ra_cons (re_var (pv 0)) (ra_cons (re_bin op_dSub (re_callB cr_len (by rfl) T.b_len bt_len (ra_cons (re_var (pv 1)) ra_nil)) re_int) ra_nil))) ra_nil)) (by rfl)) (rss_cons (rs_set (i := 4) sc_law_draw_split.nd rfl (Or.inl rfl) (re_bin op_dAdd (re_bin op_dAdd (re_var (pv 3)) re_int) (re_call F_law_pick (hr.mono (by decide)) hG (by rfl) (ra_cons (re_var (pv 0)) (ra_cons (re_bin op_dSub (re_bin op_dSub (re_callB cr_len (by rfl) T.b_len bt_len (ra_cons (re_var (pv 1)) ra_nil)) (re_var (pv 3))) re_int) ra_nil))))) (rss_one (rs_ret (re_tup (ra_cons (re_callTy cr_tuple (by rfl) T.b_tuple bt_tuple (ra_cons (re_callB cr_dSorted (by rfl) T.b_sorted bt_sorted (ra_cons (re_slice (re_var (pv 2)) ro_none (ro_some (re_var (pv 3)))) ra_nil)) ra_nil)) (ra_cons (re_callTy cr_tuple (by rfl) T.b_tuple bt_tuple (ra_cons (re_callB cr_dSorted (by rfl) T.b_sorted bt_sorted (ra_cons (re_slice (re_var (pv 2)) (ro_some (re_var (pv 3))) (ro_some (re_var (pv 4)))) ra_nil)) ra_nil)) ra_nil)))))))

abbrev s_law_cut_blocks : Stmt := topS 17
theorem sc_law_cut_blocks : FnScope ["_law_source", "_law_told", "_law_given", "_law_heading_here", "_law_found", "_law_lap", "_law_cuts", "_law_k", "_law_block", "_law_g", "_law_s", "_law_inner", "_law_column"] ["_law_source", "_law_told", "_law_given", "_law_heading_here"] (defScope s_law_cut_blocks) := ⟨rfl, rfl, rfl, by decide +kernel, rfl, by decide +kernel, by decide +kernel⟩
def w_law_cut_blocks (W_law_pick : WF) : WS := (wSeq (wSet 4 (wNewL (wCons (wComp (wIter (wVar 3)) (gN 12) (wB (wBin (dIn true) (wVar 12) (wVar 2))) (wVar 12) [12]) wNil))) (wSeq (wFor (wRange1 (wCons (wC (.int 20)) wNil)) (gN 5) (wSeq (wSet 6 (wNewL wNil)) (wSeq (wForEnL (wCons (wVar 4) wNil) (g2 (gN 7) (gN 8)) (wFor (wIter (wVar 1)) (g2 (gN 9) (gN 10)) (wSeq (wSet 11 (wComp (wIter (wVar 8)) (gN 12) (wB (wBin (dIn false) (wVar 12) (wVar 10))) (wVar 12) [12])) (wIf (wAndT (wB (wBin (dEq true) (wVar 11) (wCall (dDisp D.lst) wNil))) (wAndT (wB (wBin (dEq true) (wVar 11) (wVar 8))) (wNotT (wB (wCall dAny (wCons (wComp (wIter (wVar 8)) (gN 12) wYes (wBin (dIn false) (wVar 12) (wVar 9)) [12]) wNil)))))) (wDrop (wMut gAppend (wVar 6) (wCons (wCall (dDisp D.tup) (wCons (wVar 7) (wCons (wVar 11) wNil))) wNil))) wSkip)))) (wSeq (wIf (wB (wBin (dEq false) (wVar 6) (wCall (dDisp D.lst) wNil))) wBreak wSkip) (wSeq (wAsg (wBin dIx (wVar 6) (wFn W_law_pick (wCons (wVar 0) (wCons (wCall dLen (wCons (wVar 6) wNil)) wNil)))) (g2 (gN 7) (gN 11))) (wSeq (wSet 8 (wMut gPopAt (wVar 4) (wCons (wVar 7) wNil))) (wSet 4 (wAddM (wVar 4) (wCall (dDisp D.lst) (wCons (wVar 11) (wCons (wComp (wIter (wVar 8)) (gN 12) (wB (wBin (dIn true) (wVar 12) (wVar 11))) (wVar 12) [12]) wNil))))))))))) (wRet (wCall dSortH (wCons (wCompL (wVar 4) (gN 8) (wB (wBin (dEq true) (wVar 8) (wCall (dDisp D.lst) wNil))) (wCall dTuple (wCons (wVar 8) wNil)) [8]) wNil)))))
theorem g_law_cut_blocks {P : Program} {w : World} {K : Frag} {mg : Str → Option Value} {base : Heap} (T : Txt K mg) {f : Addr} {fd : FuncData} {W_law_pick : WF} (F : Fun K "_law_cut_blocks" "_law_cut_blocks" s_law_cut_blocks f fd) (F_law_pick : FnD P w K mg base 1 "_law_pick" W_law_pick) :
    FnG P w K mg base 2 f fd ["_law_source", "_law_told", "_law_given", "_law_heading_here"] (wDef 4 13 (w_law_cut_blocks W_law_pick)) :=
  fn_def (k := 1) F sc_law_cut_blocks fun cdv A outer s H hr hG => (rss_cons (rs_set (i := 4) sc_law_cut_blocks.nd rfl (Or.inl rfl) (re_newL (ra_cons (re_comp (own := [("_law_column", 12)]) rfl sc_law_cut_blocks.nd (ri_any (re_var (pv 3))) (blkOk_by (own := [("_law_column", 12)]) (N := ["_law_source", "_law_told", "_law_given", "_law_heading_here", "_law_found", "_law_lap", "_law_cuts", "_law_k", "_law_block", "_law_g", "_law_s", "_law_inner", "_law_column"]) (sc := (defScope s_law_cut_blocks)) (by decide +kernel)) (fun _ _ _ _ _ => (rg_name (pg_name (i := 12) sc_law_cut_blocks.nd rfl (by first | exact Or.inl rfl | exact Or.inr rfl)))) (fun _ _ _ _ _ => (rts_one (rt_cmp op_dNotIn (re_var (pv 12)) (re_var (pv 2)) (by rfl)))) (fun _ _ _ _ _ => (re_var (pv 12)))) ra_nil))) (rss_cons (rs_for PassesOwn.never rfl (ri_range1 (by rfl) T.b_range (ra_cons re_int ra_nil)) (rg_name (pg_name (i := 5) sc_law_cut_blocks.nd rfl (Or.inl rfl))) (rss_cons (rs_set (i := 6) sc_law_cut_blocks.nd rfl (Or.inl rfl) (re_newL ra_nil)) (rss_cons (rs_forEnL PassesOwn.never rfl (rn_enum (by rfl) T.b_enumerate (ra_cons (re_var (pv 4)) ra_nil)) (rg_two rfl (rg_name (pg_name (i := 7) sc_law_cut_blocks.nd rfl (Or.inl rfl))) (rg_name (pg_name (i := 8) sc_law_cut_blocks.nd rfl (Or.inl rfl)))) (rss_one (rs_for PassesOwn.never rfl (ri_any (re_var (pv 1))) (rg_two rfl (rg_name (pg_name (i := 9) sc_law_cut_blocks.nd rfl (Or.inr rfl))) (rg_name (pg_name (i := 10) sc_law_cut_blocks.nd rfl (Or.inr rfl)))) (rss_cons (rs_set (i := 11) sc_law_cut_blocks.nd rfl (Or.inr rfl) (re_comp (own := [("_law_column", 12)]) rfl sc_law_cut_blocks.nd (ri_any (re_var (pv 8))) (blkOk_by (own := [("_law_column", 12)]) (N := ["_law_source", "_law_told", "_law_given", "_law_heading_here", "_law_found", "_law_lap", "_law_cuts", "_law_k", "_law_block", "_law_g", "_law_s", "_law_inner", "_law_column"]) (sc := (defScope s_law_cut_blocks)) (by decide +kernel)) (fun _ _ _ _ _ => (rg_name (pg_name (i := 12) sc_law_cut_blocks.nd rfl (by first | exact Or.inl rfl | exact Or.inr rfl)))) (fun _ _ _ _ _ => (rts_one (rt_cmp op_dIn (re_var (pv 12)) (re_var (pv 10)) (by rfl)))) (fun _ _ _ _ _ => (re_var (pv 12))))) (rss_one (rs_if (rt_w (rw_and (rt_cmp (op_dNe hr.units) (re_var (pv 11)) (re_lst ra_nil) (nomark _)) (rw_and (rt_cmp (op_dNe hr.units) (re_var (pv 11)) (re_var (pv 8)) (nomark _)) (rw_and1 (rt_not (rt_val (re_callB (cr_dAny rfl) (by rfl) T.b_any bt_any (ra_cons (re_comp (own := [("_law_column", 12)]) rfl sc_law_cut_blocks.nd (ri_any (re_var (pv 8))) (blkOk_by (own := [("_law_column", 12)]) (N := ["_law_source", "_law_told", "_law_given", "_law_heading_here", "_law_found", "_law_lap", "_law_cuts", "_law_k", "_law_block", "_law_g", "_law_s", "_law_inner", "_law_column"]) (sc := (defScope s_law_cut_blocks)) (by decide +kernel)) (fun _ _ _ _ _ => (rg_name (pg_name (i := 12) sc_law_cut_blocks.nd rfl (by first | exact Or.inl rfl | exact Or.inr rfl)))) (fun _ _ _ _ _ => rts_nil) (fun _ _ _ _ _ => (re_cmp op_dIn (re_var (pv 12)) (re_var (pv 9)) (by rfl)))) ra_nil)))))))) (rss_one (rs_expr (re_append (re_var (pv 6)) (ra_cons (re_tup (ra_cons (re_var (pv 7)) (ra_cons (re_var (pv 11)) ra_nil))) ra_nil)))) rss_nil)))))) (rss_cons (rs_if (rt_cmp (op_dEq hr.units) (re_var (pv 6)) (re_lst ra_nil) (nomark _)) (rss_one rs_break) rss_nil) (rss_cons (rs_asg (re_ix (re_var (pv 6)) (re_call F_law_pick (hr.mono (by decide)) hG (by rfl) (ra_cons (re_var (pv 0)) (ra_cons (re_callB cr_len (by rfl) T.b_len bt_len (ra_cons (re_var (pv 6)) ra_nil)) ra_nil))) (fun _ _ => rfl)) (rg_two rfl (rg_name (pg_name (i := 7) sc_law_cut_blocks.nd rfl (Or.inl rfl))) (rg_name (pg_name (i := 11) sc_law_cut_blocks.nd rfl (Or.inr rfl))))) (rss_cons (rs_set (i := 8) sc_law_cut_blocks.nd rfl (Or.inl rfl) (re_popAt (re_var (pv 4)) (ra_cons (re_var (pv 7)) ra_nil))) (rss_one (rs_set (i := 4) sc_law_cut_blocks.nd rfl (Or.inl rfl) (re_addM (re_var (pv 4)) (re_lst (ra_cons (re_var (pv 11)) (ra_cons (re_comp (own := [("_law_column", 12)]) rfl sc_law_cut_blocks.nd (ri_any (re_var (pv 8))) (blkOk_by (own := [("_law_column", 12)]) (N := ["_law_source", "_law_told", "_law_given", "_law_heading_here", "_law_found", "_law_lap", "_law_cuts", "_law_k", "_law_block", "_law_g", "_law_s", "_law_inner", "_law_column"]) (sc := (defScope s_law_cut_blocks)) (by decide +kernel)) (fun _ _ _ _ _ => (rg_name (pg_name (i := 12) sc_law_cut_blocks.nd rfl (by first | exact Or.inl rfl | exact Or.inr rfl)))) (fun _ _ _ _ _ => (rts_one (rt_cmp op_dNotIn (re_var (pv 12)) (re_var (pv 11)) (by rfl)))) (fun _ _ _ _ _ => (re_var (pv 12)))) ra_nil)))))))))))) (rss_one (rs_ret (re_callB (cr_sortH (room65 hr)) (by rfl) T.b_sorted bt_sorted (ra_cons (re_compL (own := [("_law_block", 8)]) rfl sc_law_cut_blocks.nd (re_var (pv 4)) (blkOk_by (own := [("_law_block", 8)]) (N := ["_law_source", "_law_told", "_law_given", "_law_heading_here", "_law_found", "_law_lap", "_law_cuts", "_law_k", "_law_block", "_law_g", "_law_s", "_law_inner", "_law_column"]) (sc := (defScope s_law_cut_blocks)) (by decide +kernel)) (fun _ _ _ _ _ => (rg_name (pg_name (i := 8) sc_law_cut_blocks.nd rfl (by first | exact Or.inl rfl | exact Or.inr rfl)))) (fun _ _ _ _ _ => (rts_one (rt_cmp (op_dNe hr.units) (re_var (pv 8)) (re_lst ra_nil) (nomark _)))) (fun _ _ _ _ _ => (re_callTy cr_tuple (by rfl) T.b_tuple bt_tuple (ra_cons (re_var (pv 8)) ra_nil)))) ra_nil))))))

abbrev s_law : Stmt := topS 18
theorem sc_law : FnScope ["_law_script", "_law_source", "_law_lap", "_law_heading_here", "_law_told", "_law_given", "_law_due", "_law_kept", "_law_again", "_law_found", "_law_turned", "_law_rest", "_law_rows", "_law_k", "_law_turn", "_law_split", "_law_column"] ["_law_script"] (defScope s_law) := ⟨rfl, rfl, rfl, by decide +kernel, rfl, by decide +kernel, by decide +kernel⟩
def w_law (W_law_open_cells : WF) (W_law_heading : WF) (W_law_pick : WF) (W_law_draw_split : WF) (W_law_draw_some : WF) (W_law_cut_blocks : WF) (W_blocks : WF) (W_other_side : WF) (W_law_any_order : WF) : WS := (wSeq (wSet 1 (wFn W_law_open_cells (wCons (wVar 0) wNil))) (wSeq (wFor (wRange1 (wCons (wC (.int 5)) wNil)) (gN 2) (wSeq (wSet 3 (wFn W_law_heading (wCons (wVar 1) (wCons (wC (.int 2)) (wCons (wC (.int 8)) wNil))))) (wSeq (wSet 4 (wComp (wRange1 (wCons (wFn W_law_pick (wCons (wVar 1) (wCons (wC (.int 8)) wNil))) wNil)) (gN 14) wYes (wFn W_law_draw_split (wCons (wVar 1) (wCons (wVar 3) wNil))) [14])) (wSeq (wSet 5 (wCall dTuple (wCons (wCall dSorted (wCons (wFn W_law_draw_some (wCons (wVar 1) (wCons (wCall dList (wCons (wVar 3) wNil)) (wCons (wC (.int 0)) wNil)))) wNil)) wNil))) (wSeq (wPar 6 7 (wCons (wFn W_law_cut_blocks (wCons (wVar 1) (wCons (wVar 4) (wCons (wVar 5) (wCons (wVar 3) wNil))))) (wCons (wCall dRepr (wCons (wVar 4) wNil)) wNil))) (wSeq (wFor (wRange1 (wCons (wC (.int 2)) wNil)) (gN 8) (wSeq (wSet 9 (wFn W_blocks (wCons (wVar 3) (wCons (wVar 4) (wCons (wVar 5) wNil))))) (wSeq (wIf (wB (wBin (dEq true) (wCall dRepr (wCons (wVar 9) wNil)) (wCall dRepr (wCons (wVar 6) wNil)))) (wRet (wC (.bl false))) wSkip) (wDrop (wMut gAppend (wVar 9) (wCons (wCall (dDisp D.tup) wNil) wNil)))))) (wSeq (wSet 10 (wComp (wIter (wBin dAdd (wVar 4) (wSlice (wVar 4) wNoPart (wPart (wC (.int 1)))))) (gN 15) wYes (wIfE (wB (wBin (dEq false) (wFn W_law_pick (wCons (wVar 1) (wCons (wC (.int 2)) wNil))) (wC (.int 0)))) (wFn W_other_side (wCons (wVar 3) (wCons (wVar 15) wNil))) (wVar 15)) [15])) (wSeq (wIf (wB (wBin (dEq true) (wCall dRepr (wCons (wFn W_blocks (wCons (wVar 3) (wCons (wCall dTuple (wCons (wFn W_law_any_order (wCons (wVar 1) (wCons (wVar 10) wNil))) wNil)) (wCons (wVar 5) wNil)))) wNil)) (wCall dRepr (wCons (wVar 6) wNil)))) (wRet (wC (.bl false))) wSkip) (wSeq (wSet 11 (wCall dTuple (wCons (wComp (wIter (wVar 3)) (gN 16) (wB (wBin (dIn true) (wVar 16) (wVar 5))) (wVar 16) [16]) wNil))) (wSeq (wIf (wOrT (wB (wBin (dEq true) (wFn W_blocks (wCons (wVar 3) (wCons (wCall (dDisp D.lst) wNil) (wCons (wVar 5) wNil)))) (wIfE (wB (wBin (dEq true) (wVar 11) (wCall (dDisp D.tup) wNil))) (wCall (dDisp D.lst) (wCons (wVar 11) wNil)) (wCall (dDisp D.lst) wNil)))) (wB (wBin (dEq true) (wFn W_blocks (wCons (wVar 3) (wCons (wVar 4) (wCons (wVar 3) wNil)))) (wCall (dDisp D.lst) wNil)))) (wRet (wC (.bl false))) wSkip) (wIf (wB (wBin (dEq true) (wCall dRepr (wCons (wVar 4) wNil)) (wVar 7))) (wRet (wC (.bl false))) wSkip))))))))))) (wSeq (wSet 12 (wComp (wRange1 (wCons (wC (.int 7)) wNil)) (gN 13) wYes (wCall (dDisp D.tup) (wCons (wCall (dDisp D.tup) (wCons (wBin dIx (wC (.str "abcdefg")) (wVar 13)) wNil)) (wCons (wCall (dDisp D.tup) (wCons (wBin dIx (wC (.str "bcdefgh")) (wVar 13)) wNil)) wNil))) [13])) (wSeq (wFor (wIter (wCall (dDisp D.tup) (wCons (wVar 12) (wCons (wUn dRev (wVar 12)) (wCons (wFn W_law_any_order (wCons (wVar 1) (wCons (wVar 12) wNil))) wNil))))) (gN 4) (wIf (wB (wBin (dEq true) (wFn W_blocks (wCons (wCall dTupS (wCons (wC (.str "abcdefgh")) wNil)) (wCons (wVar 4) (wCons (wCall (dDisp D.tup) (wCons (wC (.str "a")) wNil)) wNil)))) (wComp (wIter (wC (.str "bcdefgh"))) (gN 16) wYes (wCall (dDisp D.tup) (wCons (wVar 16) wNil)) [16]))) (wRet (wC (.bl false))) wSkip)) (wRet (wC (.bl true)))))))
theorem g_law {P : Program} {w : World} {K : Frag} {mg : Str → Option Value} {base : Heap} (T : Txt K mg) {f : Addr} {fd : FuncData} {W_law_open_cells : WF} {W_law_heading : WF} {W_law_pick : WF} {W_law_draw_split : WF} {W_law_draw_some : WF} {W_law_cut_blocks : WF} {W_blocks : WF} {W_other_side : WF} {W_law_any_order : WF} (F : Fun K "law" "law" s_law f fd) (F_law_open_cells : FnD P w K mg base 1 "_law_open_cells" W_law_open_cells) (F_law_heading : FnD P w K mg base 4 "_law_heading" W_law_heading) (F_law_pick : FnD P w K mg base 1 "_law_pick" W_law_pick) (F_law_draw_split : FnD P w K mg base 3 "_law_draw_split" W_law_draw_split) (F_law_draw_some : FnD P w K mg base 3 "_law_draw_some" W_law_draw_some) (F_law_cut_blocks : FnD P w K mg base 2 "_law_cut_blocks" W_law_cut_blocks) (F_blocks : FnD P w K mg base 3 "blocks" W_blocks) (F_other_side : FnD P w K mg base 3 "other_side" W_other_side) (F_law_any_order : FnD P w K mg base 2 "_law_any_order" W_law_any_order) :
    FnG P w K mg base 5 f fd ["_law_script"] (wDef 1 17 (w_law W_law_open_cells W_law_heading W_law_pick W_law_draw_split W_law_draw_some W_law_cut_blocks W_blocks W_other_side W_law_any_order)) :=
  fn_def (k := 4) F sc_law fun cdv A outer s H hr hG => (rss_cons (rs_set (i := 1) sc_law.nd rfl (Or.inr rfl) (re_call F_law_open_cells (hr.mono (by decide)) hG (by rfl) (ra_cons (re_var (pv 0)) ra_nil))) (rss_cons (rs_for PassesOwn.never rfl (ri_range1 (by rfl) T.b_range (ra_cons re_int ra_nil)) (rg_name (pg_name (i := 2) sc_law.nd rfl (Or.inl rfl))) (rss_cons (rs_set (i := 3) sc_law.nd rfl (Or.inr rfl) (re_call F_law_heading (hr.mono (by decide)) hG (by rfl) (ra_cons (re_var (pv 1)) (ra_cons re_int (ra_cons re_int ra_nil))))) (rss_cons (rs_setC (i := 4) (own := [("_law_turn", 14)]) rfl sc_law.nd rfl rfl (sw_true rfl rfl rfl (by decide +kernel)) (ri_range1 (by rfl) T.b_range (ra_cons (re_call F_law_pick (hr.mono (by decide)) hG (by rfl) (ra_cons (re_var (pv 1)) (ra_cons re_int ra_nil))) ra_nil)) (blkOk_by (own := [("_law_turn", 14)]) (N := ["_law_script", "_law_source", "_law_lap", "_law_heading_here", "_law_told", "_law_given", "_law_due", "_law_kept", "_law_again", "_law_found", "_law_turned", "_law_rest", "_law_rows", "_law_k", "_law_turn", "_law_split", "_law_column"]) (sc := (defScope s_law)) (by decide +kernel)) (fun _ _ _ _ _ => (rg_name (pg_name (i := 14) sc_law.nd rfl (by first | exact Or.inl rfl | exact Or.inr rfl)))) (fun _ _ _ _ _ => rts_nil) (fun _ _ _ _ _ => (re_call F_law_draw_split (hr.mono (by decide)) hG (by rfl) (ra_cons (re_var (pv 1)) (ra_cons (re_var (pv 3)) ra_nil))))) (rss_cons (rs_set (i := 5) sc_law.nd rfl (Or.inr rfl) (re_callTy cr_tuple (by rfl) T.b_tuple bt_tuple (ra_cons (re_callB cr_dSorted (by rfl) T.b_sorted bt_sorted (ra_cons (re_call F_law_draw_some (hr.mono (by decide)) hG (by rfl) (ra_cons (re_var (pv 1)) (ra_cons (re_callTy cr_list (by rfl) T.b_list bt_list (ra_cons (re_var (pv 3)) ra_nil)) (ra_cons re_int ra_nil)))) ra_nil)) ra_nil))) (rss_cons (rs_par (i := 6) (j := 7) rfl sc_law.nd rfl rfl (by decide) rfl rfl (ra_cons (re_call F_law_cut_blocks (hr.mono (by decide)) hG (by rfl) (ra_cons (re_var (pv 1)) (ra_cons (re_var (pv 4)) (ra_cons (re_var (pv 5)) (ra_cons (re_var (pv 3)) ra_nil))))) (ra_cons (re_callB (cr_repr hG hr.units) (by rfl) T.b_repr bt_repr (ra_cons (re_var (pv 4)) ra_nil)) ra_nil)) (by rfl)) (rss_cons (rs_for PassesOwn.never rfl (ri_range1 (by rfl) T.b_range (ra_cons re_int ra_nil)) (rg_name (pg_name (i := 8) sc_law.nd rfl (Or.inl rfl))) (rss_cons (rs_set (i := 9) sc_law.nd rfl (Or.inl rfl) (re_call F_blocks (hr.mono (by decide)) hG (by rfl) (ra_cons (re_var (pv 3)) (ra_cons (re_var (pv 4)) (ra_cons (re_var (pv 5)) ra_nil))))) (rss_cons (rs_if (rt_cmp (op_dNe hr.units) (re_callB (cr_repr hG hr.units) (by rfl) T.b_repr bt_repr (ra_cons (re_var (pv 9)) ra_nil)) (re_callB (cr_repr hG hr.units) (by rfl) T.b_repr bt_repr (ra_cons (re_var (pv 6)) ra_nil)) (nomark _)) (rss_one (rs_ret re_bl)) rss_nil) (rss_one (rs_expr (re_append (re_var (pv 9)) (ra_cons (re_tup ra_nil) ra_nil))))))) (rss_cons (rs_setC (i := 10) (own := [("_law_split", 15)]) rfl sc_law.nd rfl rfl (sw_true rfl rfl rfl (by decide +kernel)) (ri_any (re_bin op_dAdd (re_var (pv 4)) (re_slice (re_var (pv 4)) ro_none (ro_some re_int)))) (blkOk_by (own := [("_law_split", 15)]) (N := ["_law_script", "_law_source", "_law_lap", "_law_heading_here", "_law_told", "_law_given", "_law_due", "_law_kept", "_law_again", "_law_found", "_law_turned", "_law_rest", "_law_rows", "_law_k", "_law_turn", "_law_split", "_law_column"]) (sc := (defScope s_law)) (by decide +kernel)) (fun _ _ _ _ _ => (rg_name (pg_name (i := 15) sc_law.nd rfl (by first | exact Or.inl rfl | exact Or.inr rfl)))) (fun _ _ _ _ _ => rts_nil) (fun _ _ _ _ _ => (re_if (rt_cmp (op_dEq hr.units) (re_call F_law_pick (hr.mono (by decide)) hG (by rfl) (ra_cons (re_var (pv 1)) (ra_cons re_int ra_nil))) re_int (nomark _)) (re_call F_other_side (hr.mono (by decide)) hG (by rfl) (ra_cons (re_var (pv 3)) (ra_cons (re_var (pv 15)) ra_nil))) (re_var (pv 15))))) (rss_cons (rs_if (rt_cmp (op_dNe hr.units) (re_callB (cr_repr hG hr.units) (by rfl) T.b_repr bt_repr (ra_cons (re_call F_blocks (hr.mono (by decide)) hG (by rfl) (ra_cons (re_var (pv 3)) (ra_cons (re_callTy cr_tuple (by rfl) T.b_tuple bt_tuple (ra_cons (re_call F_law_any_order (hr.mono (by decide)) hG (by rfl) (ra_cons (re_var (pv 1)) (ra_cons (re_var (pv 10)) ra_nil))) ra_nil)) (ra_cons (re_var (pv 5)) ra_nil)))) ra_nil)) (re_callB (cr_repr hG hr.units) (by rfl) T.b_repr bt_repr (ra_cons (re_var (pv 6)) ra_nil)) (nomark _)) (rss_one (rs_ret re_bl)) rss_nil) (rss_cons (rs_set (i := 11) sc_law.nd rfl (Or.inl rfl) (re_callTy cr_tuple (by rfl) T.b_tuple bt_tuple (ra_cons (re_comp (own := [("_law_column", 16)]) rfl sc_law.nd (ri_any (re_var (pv 3))) (blkOk_by (own := [("_law_column", 16)]) (N := ["_law_script", "_law_source", "_law_lap", "_law_heading_here", "_law_told", "_law_given", "_law_due", "_law_kept", "_law_again", "_law_found", "_law_turned", "_law_rest", "_law_rows", "_law_k", "_law_turn", "_law_split", "_law_column"]) (sc := (defScope s_law)) (by decide +kernel)) (fun _ _ _ _ _ => (rg_name (pg_name (i := 16) sc_law.nd rfl (by first | exact Or.inl rfl | exact Or.inr rfl)))) (fun _ _ _ _ _ => (rts_one (rt_cmp op_dNotIn (re_var (pv 16)) (re_var (pv 5)) (by rfl)))) (fun _ _ _ _ _ => (re_var (pv 16)))) ra_nil))) (rss_cons (rs_if (rt_w (rw_or (rt_cmp (op_dNe hr.units) (re_call F_blocks (hr.mono (by decide)) hG (by rfl) (ra_cons (re_var (pv 3)) (ra_cons (re_lst ra_nil) (ra_cons (re_var (pv 5)) ra_nil)))) (re_if (rt_cmp (op_dNe hr.units) (re_var (pv 11)) (re_tup ra_nil) (nomark _)) (re_lst (ra_cons (re_var (pv 11)) ra_nil)) (re_lst ra_nil)) (nomark _)) (rw_or1 (rt_cmp (op_dNe hr.units) (re_call F_blocks (hr.mono (by decide)) hG (by rfl) (ra_cons (re_var (pv 3)) (ra_cons (re_var (pv 4)) (ra_cons (re_var (pv 3)) ra_nil)))) (re_lst ra_nil) (nomark _))))) (rss_one (rs_ret re_bl)) rss_nil) (rss_one (rs_if (rt_cmp (op_dNe hr.units) (re_callB (cr_repr hG hr.units) (by rfl) T.b_repr bt_repr (ra_cons (re_var (pv 4)) ra_nil)) (re_var (pv 7)) (nomark _)) (rss_one (rs_ret re_bl)) rss_nil)))))))))))) (rss_cons (rs_setC (i := 12) (own := [("_law_k", 13)]) rfl sc_law.nd rfl rfl (sw_true rfl rfl rfl (by decide +kernel)) (ri_range1 (by rfl) T.b_range (ra_cons re_int ra_nil)) (blkOk_by (own := [("_law_k", 13)]) (N := ["_law_script", "_law_source", "_law_lap", "_law_heading_here", "_law_told", "_law_given", "_law_due", "_law_kept", "_law_again", "_law_found", "_law_turned", "_law_rest", "_law_rows", "_law_k", "_law_turn", "_law_split", "_law_column"]) (sc := (defScope s_law)) (by decide +kernel)) (fun _ _ _ _ _ => (rg_name (pg_name (i := 13) sc_law.nd rfl (by first | exact Or.inl rfl | exact Or.inr rfl)))) (fun _ _ _ _ _ => rts_nil) (fun _ _ _ _ _ => (re_tup (ra_cons (re_tup (ra_cons (re_ix re_str (re_var (pv 13)) (fun _ _ => rfl)) ra_nil)) (ra_cons (re_tup (ra_cons (re_ix re_str (re_var (pv 13)) (fun _ _ => rfl)) ra_nil)) ra_nil))))) (rss_cons (rs_for PassesOwn.never rfl (ri_any (re_tup (ra_cons (re_var (pv 12)) (ra_cons (re_rev (re_var (pv 12))) (ra_cons (re_call F_law_any_order (hr.mono (by decide)) hG (by rfl) (ra_cons (re_var (pv 1)) (ra_cons (re_var (pv 12)) ra_nil))) ra_nil))))) (rg_name (pg_name (i := 4) sc_law.nd rfl (Or.inl rfl))) (rss_one (rs_if (rt_cmp (op_dNe hr.units) (re_call F_blocks (hr.mono (by decide)) hG (by rfl) (ra_cons (re_callTy (cr_tupS rfl) (by rfl) T.b_tuple bt_tuple (ra_cons re_str ra_nil)) (ra_cons (re_var (pv 4)) (ra_cons (re_tup (ra_cons re_str ra_nil)) ra_nil)))) (re_comp (own := [("_law_column", 16)]) rfl sc_law.nd (ri_any re_str) (blkOk_by (own := [("_law_column", 16)]) (N := ["_law_script", "_law_source", "_law_lap", "_law_heading_here", "_law_told", "_law_given", "_law_due", "_law_kept", "_law_again", "_law_found", "_law_turned", "_law_rest", "_law_rows", "_law_k", "_law_turn", "_law_split", "_law_column"]) (sc := (defScope s_law)) (by decide +kernel)) (fun _ _ _ _ _ => (rg_name (pg_name (i := 16) sc_law.nd rfl (by first | exact Or.inl rfl | exact Or.inr rfl)))) (fun _ _ _ _ _ => rts_nil) (fun _ _ _ _ _ => (re_tup (ra_cons (re_var (pv 16)) ra_nil)))) (nomark _)) (rss_one (rs_ret re_bl)) rss_nil))) (rss_one (rs_ret re_bl))))))

end Law
set_option Elab.async false
set_option linter.all false
set_option maxRecDepth 100000
set_option maxHeartbeats 1000000
namespace Law
open PySem PySem.Spec L2 DL
def pickW : WF := fun ss mu Q => ∃ k most, ss = [.h k, .d (.int most)] ∧ Src mu k ∧ most < 1073741824 ∧ ∀ r mu', 0 ≤ r → (r < most ∨ r = 0) → Gone mu k mu' → Q (.d (.int r)) mu'
/-- the loop of what is drawn: it ends with what follows from any state that it can come to -/
theorem pick_loop {E : DEnds} {k c : Nat} {most : Int} : ∀ (cells : List Int) (left mixed turn : Int) (mu : Mu), SrcAt mu k c cells left mixed turn →
    (∀ cells left mu', SrcAt mu' k c cells left mixed turn → Gone mu k mu' → E.nx [some (.h k), some (.d (.int most)), some (.h c), none, none, none] mu') →
    ∃ n, wWhileN (wAndT (wB (wBin dLt (wDget (wVar 0) (wC (.str "left"))) (wC (.int 2)))) (wB (wBin dGt (wCall dLen (wCons (wVar 2) wNil)) (wC (.int 0)))))
      (wDput (wVar 0) (wC (.str "left")) (wMut gPop (wVar 2) wNil)) E n [some (.h k), some (.d (.int most)), some (.h c), none, none, none] mu := by
  intro cells
  induction hn : cells.length generalizing cells with
  | zero =>
    intro left mixed turn mu hs fin
    have e0 : cells = [] := List.length_eq_zero_iff.mp hn
    subst e0
    refine ⟨1, ?_⟩
    refine e_and <| e_B <| e_bin <| e_dget <| e_var rfl <| e_c <| e_on (src_left hs) <| e_c <| e_on rfl <| e_asB ?_
    refine e_ite (fun _ => ?_) fun _ => e_false (fin _ _ _ hs (Src.gone ⟨_, _, _, _, _, hs⟩))
    refine e_B <| e_bin <| e_call <| e_cons <| e_var rfl <| e_nil <| e_on (x := .int 0) ?_ <| e_c <| e_on rfl <| e_asB <| e_false <| fin _ _ _ hs (Src.gone ⟨_, _, _, _, _, hs⟩)
    unfold dLen d1 rdQ rdL
    simp only [hs.dc]
    rfl
  | succ n ih =>
    intro left mixed turn mu hs fin
    obtain ⟨cs, x, rfl⟩ : ∃ cs x, cells = cs ++ [x] := by
      have hne : cells ≠ [] := fun z => by rw [z] at hn; cases hn
      exact ⟨cells.dropLast, cells.getLast hne, (List.dropLast_concat_getLast hne).symm⟩
    have hl : cs.length = n := by simpa using hn
    have h1 := hs.cut cs
    have h2 := h1.set x mixed turn
    have g := (hs.go_cut cs).trans (h1.go_set x mixed turn)
    obtain ⟨m, w⟩ := ih cs hl x mixed turn _ h2 fun cells left mu' s' g' => fin cells left mu' s' (g.trans g')
    refine ⟨m + 1, ?_⟩
    refine e_and <| e_B <| e_bin <| e_dget <| e_var rfl <| e_c <| e_on (src_left hs) <| e_c <| e_on rfl <| e_asB ?_
    refine e_ite (fun _ => ?_) fun _ => e_false (fin _ _ _ hs (Src.gone ⟨_, _, _, _, _, hs⟩))
    refine e_B <| e_bin <| e_call <| e_cons <| e_var rfl <| e_nil <| e_on (x := .int ((cs ++ [x]).length : Nat)) ?_ <| e_c <| e_on rfl <| e_asB ?_
    · unfold dLen d1 rdQ rdL
      simp only [hs.dc, Option.map_some, List.length_map]
    · have e1 : decide ((0 : Int) < ((cs ++ [x]).length : Nat)) = true := decide_eq_true (by rw [List.length_append, List.length_singleton]; omega)
      show (if decide ((0 : Int) < ((cs ++ [x]).length : Nat)) = true then _ else _)
      rw [e1]
      refine e_true ?_
      refine e_dput <| e_mut <| e_var rfl <| e_on (x := (c, (cs ++ [x]).map D.int)) ?_ <| e_nil <| e_on (x := (c, (cs ++ [x]).map D.int)) ?_ <| e_on (x := (D.int x, cs.map D.int)) ?_ <| e_var rfl <| e_c <| e_asD <| e_on rfl <| e_on (src_mut h1) ⟨src_few, ?_⟩
      · unfold mutL
        simp only [hs.dc]
      · unfold mutL
        simp only [hs.dc]
      · unfold gPop
        simp
      · rw [put_left]
        exact w
theorem sp_pick (ss : List S) (mu : Mu) (Q : S → Mu → Prop) (h : pickW ss mu Q) : wDef 2 6 w_law_pick ss mu Q := by
  obtain ⟨k, most, rfl, ⟨c, cells, left, mixed, turn, hs⟩, hm, q⟩ := h
  refine ⟨rfl, ?_⟩
  have g0 : Gone mu k mu := Src.gone ⟨_, _, _, _, _, hs⟩
  refine e_sif <| e_B <| e_bin <| e_var rfl <| e_c <| e_on rfl <| e_asB <| e_ite (fun h2 => ?_) fun h2 => ?_
  · exact e_ret <| e_c <| retD_gone g0 (q 0 mu (by decide) (.inr rfl) g0)
  have h2' : ¬ most < 2 := of_decide_eq_false h2
  refine e_sset <| e_dget <| e_var rfl <| e_c <| e_on (src_cells hs) <| e_swhile ?_
  refine pick_loop cells left mixed turn mu hs fun cells left mu1 h1 g1 => ?_
  dsimp only
  refine e_sset <| e_dget <| e_var rfl <| e_c <| e_on (src_left h1) <| e_sif <| e_B <| e_bin <| e_var rfl <| e_c <| e_on rfl <| e_asB <| e_ite (fun h3 => ?_) fun h3 => ?_
  · refine e_sput <| e_bin <| e_var rfl <| e_var rfl <| e_on (x := .int (left.fdiv most)) ?_ <| e_var rfl <| e_c <| e_asD <| e_on rfl <| e_on (src_mut h1) ⟨src_few, ?_⟩
    · show (if _ then _ else _) = _
      rw [if_pos ⟨by omega, by omega⟩]
    · rw [put_left]
      refine e_ret <| e_bin <| e_call <| e_cons <| e_var rfl <| e_nil <| e_on rfl <| e_var rfl <| e_on (x := .int (left.fmod most)) ?_ ?_
      · show (if _ then _ else _) = _
        rw [if_pos (by omega)]
      · have g2 := g1.trans (h1.go_set (left.fdiv most) mixed turn)
        exact retD_gone g2 (q _ _ (Int.fmod_nonneg_of_pos _ (by omega)) (.inl (Int.fmod_lt_of_pos _ (by omega))) g2)
  refine e_sput <| e_bin <| e_dget <| e_var rfl <| e_c <| e_on (src_turn h1) <| e_c <| e_on rfl <| e_var rfl <| e_c <| e_asD <| e_on rfl <| e_on (src_mut h1) ⟨src_few, ?_⟩
  rw [put_turn]
  have h4 := h1.set left mixed (turn + 1)
  have g2 := g1.trans (h1.go_set left mixed (turn + 1))
  refine e_sset <| e_dget <| e_var rfl <| e_c <| e_on (src_turn h4) ?_
  refine e_sset <| e_bin <| e_call <| e_cons <| e_bin <| e_dget <| e_var rfl <| e_c <| e_on (src_mixed h4) <| e_bin <| e_var rfl <| e_c <| e_on (x := .int ((turn + 1) * 104729)) ?_ <| e_on rfl <| e_nil <| e_on rfl <| e_c <| e_on rfl ?_
  · show (if _ then _ else _) = _
    rw [if_pos (by simp [DL.small64])]
  refine e_sset <| e_bin <| e_call <| e_cons <| e_bin <| e_bin <| e_var rfl <| e_var rfl <| e_on (x := .int (((mixed + (turn + 1) * 104729).fmod 998244353) * ((mixed + (turn + 1) * 104729).fmod 998244353))) ?_ <| e_bin <| e_var rfl <| e_c <| e_on (x := .int ((turn + 1) * 17)) ?_ <| e_on rfl <| e_nil <| e_on rfl <| e_c <| e_on rfl ?_
  · show (if _ then _ else _) = _
    have a1 := Int.fmod_nonneg_of_pos (mixed + (turn + 1) * 104729) (b := 998244353) (by decide)
    have a2 := Int.fmod_lt_of_pos (mixed + (turn + 1) * 104729) (b := 998244353) (by decide)
    rw [if_pos (by simp only [DL.small64, Bool.or_eq_true, decide_eq_true_eq]; omega)]
  · show (if _ then _ else _) = _
    rw [if_pos (by simp [DL.small64])]
  refine e_ret <| e_bin <| e_call <| e_cons <| e_bin <| e_var rfl <| e_c <| e_on (on_fdiv (by decide) (by decide)) <| e_nil <| e_on rfl <| e_var rfl <| e_on (on_mod (by omega)) ?_
  exact retD_gone g2 (q _ _ (Int.fmod_nonneg_of_pos _ (by omega)) (.inl (Int.fmod_lt_of_pos _ (by omega))) g2)

end Law
set_option Elab.async false
set_option linter.all false
set_option maxRecDepth 100000
set_option maxHeartbeats 1000000
namespace Law
open PySem PySem.Spec L2 DL
/-- any order of what is given -/
def anyW : WF := fun ss mu Q => ∃ k s ds, ss = [.h k, s] ∧ rdQ s mu = some ds ∧ Src mu k ∧ ds.length < 1000 ∧ ∀ ys mu', ys.Perm ds → Gone mu k mu' → Q (.d (.lst ys)) mu'
theorem size_ok {n : Nat} (h : n < 1000000) : n < sizeLine := by
  rw [sizeLine_eq]
  omega
theorem perm_pick {ds : List D} {i : Nat} {d : D} (h : ds[i]? = some d) : ds.Perm (d :: ds.eraseIdx i) := by
  obtain ⟨hl, e⟩ := List.getElem?_eq_some_iff.mp h
  have e1 : ds = ds.take i ++ d :: ds.drop (i + 1) := by
    rw [← e, ← List.drop_eq_getElem_cons hl, List.take_append_drop]
  rw [List.eraseIdx_eq_take_drop_succ]
  exact (List.Perm.of_eq e1).trans List.perm_middle
theorem sp_any (ss : List S) (mu : Mu) (Q : S → Mu → Prop) (h : anyW ss mu Q) : wDef 2 4 (w_law_any_order pickW) ss mu Q := by
  obtain ⟨k, s, ds, rfl, er, hs, hl, q⟩ := h
  refine ⟨rfl, ?_⟩
  refine e_sset <| e_listM <| e_cons <| e_var rfl <| e_nil <| e_as1 <| e_on er ?_
  refine e_ret <| e_comp <| e_range <| e_cons <| e_call <| e_cons <| e_var rfl <| e_nil <| e_on (len_h top_lst) <| e_nil <| e_asR ⟨?_, ?_⟩
  · unfold inR62
    exact decide_eq_true (by omega)
  refine comp_inv (fun i acc mu1 => ∃ rest mu0, Gone mu k mu0 ∧ mu1 = mu0 ++ [some (.lst rest)] ∧ (acc ++ rest).Perm ds ∧ acc.length = i) _ [] 0 _ ⟨ds, mu, hs.gone, rfl, .refl _, rfl⟩ ?_ ?_
  · intro i d acc mu1 hd ⟨rest, mu0, g, e, pm, el⟩ C hC
    subst e
    obtain ⟨rfl, hi⟩ := range_at hd
    have hlen : mu0.length = mu.length := g.1
    have tot : acc.length + rest.length = ds.length := by
      have := pm.length_eq
      rw [List.length_append] at this
      exact this
    have hr : 0 < rest.length := by omega
    refine e_on rfl <| e_yes <| e_true ?_
    have at0 : (mu0 ++ [some (MO.lst rest)])[mu.length]? = some (some (.lst rest)) := by
      rw [← hlen]
      exact top_lst
    refine e_mut <| e_var rfl <| e_on (mut_h at0) <| e_cons <| e_fn <| e_cons <| e_var rfl <| e_cons <| e_call <| e_cons <| e_var rfl <| e_nil <| e_on (len_h at0) <| e_nil ?_
    refine ⟨k, _, rfl, g.src.app, by omega, fun r mu2 r0 r1 g2 => ?_⟩
    obtain ⟨mu3, rfl, g3⟩ := gone_app g.src g2
    have hlen3 : mu3.length = mu.length := g3.1.trans hlen
    have at3 : (mu3 ++ [some (MO.lst rest)])[mu.length]? = some (some (.lst rest)) := by
      rw [← hlen3]
      exact top_lst
    have r2 : r < rest.length := by omega
    obtain ⟨x, ex, ep⟩ := popAt_at r0 r2 (by omega)
    refine e_nil <| e_on (mut_h at3) <| e_on ep ⟨size_ok (by omega), hC _ _ ⟨rest.eraseIdx r.toNat, mu3, g.trans g3, ?_, ?_, ?_⟩⟩
    · rw [← hlen3]
      exact top_set
    · rw [List.append_assoc]
      exact ((perm_pick ex).symm.append_left acc).trans pm
    · rw [List.length_append, List.length_singleton, el]
  · intro acc mu1 ⟨rest, mu0, g, e, pm, el⟩
    subst e
    rw [range_len] at el
    have tot := pm.length_eq
    rw [List.length_append] at tot
    have hr : rest = [] := List.length_eq_zero_iff.mp (by omega)
    subst hr
    rw [List.append_nil] at pm
    exact retD_top g (q _ _ pm g)

/-! texts and lists of them -/
abbrev dS (zs : List Str) : List D := zs.map D.str
theorem perm_dS {ys : List D} {zs : List Str} (h : ys.Perm (dS zs)) : ∃ ws : List Str, ws.Perm zs ∧ ys = dS ws := by
  have : ∀ {ys us : List D}, ys.Perm us → ∀ zs : List Str, us = dS zs → ∃ ws : List Str, ws.Perm zs ∧ ys = dS ws := by
    intro ys us pm
    induction pm with
    | nil =>
      intro zs e
      exact ⟨zs, .refl _, e⟩
    | cons x p ih =>
      intro zs e
      cases zs with
      | nil => cases e
      | cons z zs =>
        simp only [dS, List.map_cons, List.cons.injEq] at e
        obtain ⟨ws, h1, h2⟩ := ih zs e.2
        exact ⟨z :: ws, h1.cons z, by rw [e.1, h2]; rfl⟩
    | swap x y l =>
      intro zs e
      cases zs with
      | nil => cases e
      | cons z zs =>
        cases zs with
        | nil => cases e
        | cons z2 zs =>
          simp only [dS, List.map_cons, List.cons.injEq] at e
          exact ⟨z2 :: z :: zs, .swap _ _ _, by rw [e.1, e.2.1, e.2.2]; rfl⟩
    | trans _ _ ih1 ih2 =>
      intro zs e
      obtain ⟨ws, h1, h2⟩ := ih2 zs e
      obtain ⟨vs, h3, h4⟩ := ih1 ws h2
      exact ⟨vs, h3.trans h1, h4⟩
  exact this h zs rfl
def names8 : List Str := ["a", "b", "ab", "c", "low", "up", "x", "z"]
/-- some of the eight names -/
def namesW : WF := fun ss mu Q => ∃ k many, ss = [.h k, .d (.int many)] ∧ 0 ≤ many ∧ Src mu k ∧ ∀ (zs : List Str) mu', zs.Nodup → (∀ z ∈ zs, z ∈ names8) → zs.length = min many.toNat 8 → Gone mu k mu' → Q (.d (.lst (dS zs))) mu'
theorem cut_take {α : Type} (xs : List α) {n : Int} (h : 0 ≤ n) : cutD xs none (some n) = xs.take n.toNat := by
  unfold cutD HT.sIx
  simp only [List.drop_zero, Nat.sub_zero]
  rw [if_neg (by omega)]
  rw [List.take_eq_take_iff]
  omega
theorem sp_names (ss : List S) (mu : Mu) (Q : S → Mu → Prop) (h : namesW ss mu Q) : wDef 2 2 (w_law_draw_names anyW) ss mu Q := by
  obtain ⟨k, many, rfl, hm, hs, q⟩ := h
  refine ⟨rfl, ?_⟩
  refine e_ret <| e_slice <| e_fn <| e_cons <| e_var rfl <| e_cons <| e_call <| e_cons <| e_c <| e_cons <| e_c <| e_cons <| e_c <| e_cons <| e_c <| e_cons <| e_c <| e_cons <| e_c <| e_cons <| e_c <| e_cons <| e_c <| e_nil <| e_on (x := .lst (dS names8)) ?_ <| e_nil ?_
  · show (if _ then _ else _) = _
    rw [if_pos (Nat.le_of_lt (size_ok (by decide)))]
    rfl
  refine ⟨k, _, dS names8, rfl, rfl, hs, by decide, fun ys mu' pm g => ?_⟩
  obtain ⟨ws, p1, rfl⟩ := perm_dS pm
  refine e_nopart <| e_part <| e_var rfl <| e_asI <| e_on (x := .lst (cutD (dS ws) none (some many))) rfl ?_
  have nd : ws.Nodup := p1.nodup_iff.mpr (by decide)
  rw [cut_take _ hm]
  have e : (dS ws).take many.toNat = dS (ws.take many.toNat) := by rw [dS, dS, List.map_take]
  rw [e]
  refine retD_gone g (q _ _ (nd.sublist (List.take_sublist _ _)) (fun z hz => p1.mem_iff.mp (List.mem_of_mem_take hz)) ?_ g)
  rw [List.length_take, p1.length_eq]
  rfl

end Law
set_option Elab.async false
set_option linter.all false
set_option maxRecDepth 100000
set_option maxHeartbeats 1000000
namespace Law
open PySem PySem.Spec L2 DL
theorem rdQ_items {x : D} {ds : List D} (h : itemsOf x = some ds) (mu : Mu) : rdQ (.d x) mu = some ds := by
  unfold itemsOf at h
  split at h
  · cases h
    rfl
  · cases h
    rfl
  · cases h
/-- some of what is given, in any order -/
def someW : WF := fun ss mu Q => ∃ k x ds few, ss = [.h k, .d x, .d (.int few)] ∧ itemsOf x = some ds ∧ 0 ≤ few ∧ Src mu k ∧ ds.length < 1000 ∧ ∀ ys zs mu', zs.Perm ds → ys.Sublist zs → (few ≤ ds.length → few ≤ ys.length) → Gone mu k mu' → Q (.d (.lst ys)) mu'
theorem sp_some (ss : List S) (mu : Mu) (Q : S → Mu → Prop) (h : someW ss mu Q) : wDef 3 5 (w_law_draw_some anyW pickW) ss mu Q := by
  obtain ⟨k, x, ds, few, rfl, ex, hf, hs, hl, q⟩ := h
  refine ⟨rfl, ?_⟩
  refine e_sset <| e_comp <| e_iter <| e_fn <| e_cons <| e_var rfl <| e_cons <| e_var rfl <| e_nil ⟨k, _, ds, rfl, rdQ_items ex mu, hs, hl, fun ys mu1 pm g1 => e_asD <| e_on (x := ys) rfl ?_⟩
  have hy : ys.length = ds.length := pm.length_eq
  refine comp_inv (fun i acc mu2 => Gone mu k mu2 ∧ acc.Sublist (ys.take i) ∧ i ≤ ys.length) ys [] 0 mu1 ⟨g1, by simp, by omega⟩ ?_ ?_
  · intro i d acc mu2 hd ⟨g, sub, hi⟩ C hC
    obtain ⟨hil, ed⟩ := List.getElem?_eq_some_iff.mp hd
    have tk : ys.take (0 + i + 1) = ys.take (0 + i) ++ [d] := by
      rw [Nat.zero_add, List.take_succ, hd]
      rfl
    have la : acc.length ≤ i := by
      have := sub.length_le
      rw [List.length_take] at this
      omega
    refine e_on rfl <| e_B <| e_bin <| e_fn <| e_cons <| e_var rfl <| e_cons <| e_c <| e_nil ⟨k, _, rfl, g.src, by decide, fun r mu3 r0 r1 g3 => e_c <| e_on (x := .bl (PyData.eqv (.int r) (.int 0))) rfl <| e_asB <| e_ite (fun _ => ?_) fun _ => ?_⟩
    · refine e_var rfl ⟨size_ok (by omega), hC _ _ ⟨g.trans g3, ?_, by omega⟩⟩
      rw [tk]
      exact sub.append (List.Sublist.refl _)
    · refine hC _ _ ⟨g.trans g3, ?_, by omega⟩
      rw [tk]
      exact sub.trans (List.sublist_append_left _ _)
  · intro acc mu2 ⟨g, sub, _⟩
    have sub2 : acc.Sublist ys := sub.trans (List.take_sublist _ _)
    refine e_ret <| e_ifE <| e_B <| e_bin <| e_call <| e_cons <| e_var rfl <| e_nil <| e_on (x := .int (acc.length : Nat)) rfl <| e_var rfl <| e_on rfl <| e_asB <| e_ite (fun hge => ?_) fun hge => ?_
    · have hge' : few ≤ (acc.length : Nat) := of_decide_eq_true hge
      exact e_var rfl (retD_gone g (q acc ys mu2 pm sub2 (fun _ => hge') g))
    · refine e_slice <| e_call <| e_cons <| e_var rfl <| e_nil <| e_on (x := .lst ds) ?_ <| e_nopart <| e_part <| e_var rfl <| e_asI <| e_on (x := .lst (cutD ds none (some few))) rfl ?_
      · show (rdQ _ _).map D.lst = _
        rw [rdQ_items ex]
        rfl
      · rw [cut_take _ hf]
        refine retD_gone g (q _ ds mu2 (.refl _) (List.take_sublist _ _) (fun z => ?_) g)
        rw [List.length_take]
        omega
/-- one of what is given -/
def choiceW : WF := fun ss mu Q => ∃ k x ds, ss = [.h k, .d x] ∧ (∃ z, x = .str z ∧ z.length ≤ sizeLine ∧ ds = (z.cps.toList.map fun c => D.str ⟨#[c]⟩) ∨ itemsOf x = some ds) ∧ Src mu k ∧ ds ≠ [] ∧ ds.length < 1000 ∧ ∀ d mu', d ∈ ds → Gone mu k mu' → Q (.d d) mu'
theorem at_int {α : Type} {xs : List α} {r : Int} (h0 : 0 ≤ r) (h1 : r < xs.length) : ∃ x, atI xs r = some x ∧ x ∈ xs := by
  have hl : r.toNat < xs.length := by omega
  refine ⟨xs[r.toNat], ?_, List.getElem_mem hl⟩
  unfold atI ixN
  rw [if_pos h0, if_pos h1]
  exact List.getElem?_eq_getElem hl
end Law
set_option Elab.async false
set_option linter.all false
set_option maxRecDepth 100000
set_option maxHeartbeats 1000000
namespace Law
open PySem PySem.Spec L2 DL
abbrev Asc (l : List Str) : Prop := l.Pairwise fun a b => strLt a b = true
theorem Asc.le {l : List Str} (h : Asc l) : l.Pairwise StrLe := h.imp fun z => strLt_asymm z
theorem Asc.nodup {l : List Str} (h : Asc l) : l.Nodup := h.imp fun {a b} z e => by
  rw [e, strLt_irrefl] at z
  cases z
theorem asc_of {l : List Str} (h : l.Pairwise StrLe) (n : l.Nodup) : Asc l := by
  refine (h.and n).imp fun {a b} z => ?_
  cases e : strLt a b with
  | true => rfl
  | false => exact absurd (strLt_total e z.1) z.2
theorem asc_sort {l : List Str} (n : l.Nodup) : Asc (sortS l) := asc_of (sortS_pair l) ((sortS_perm l).nodup_iff.mpr n)
theorem asc_ext {a b : List Str} (ha : Asc a) (hb : Asc b) (h : ∀ x, x ∈ a ↔ x ∈ b) : a = b := by
  refine pair_unique ?_ ha.le hb.le
  exact (List.perm_ext_iff_of_nodup ha.nodup hb.nodup).mpr h
theorem asc_filter {l : List Str} (h : Asc l) (p : Str → Bool) : Asc (l.filter p) := h.sublist List.filter_sublist
theorem asStrs_dS : ∀ zs : List Str, asStrs (dS zs) = some zs
  | [] => rfl
  | z :: zs => by
    show (asStrs (dS zs)).map (z :: ·) = _
    rw [asStrs_dS zs]
    rfl
theorem sub_dS {ys zs : List D} {ws : List Str} (pm : zs.Perm (dS ws)) (sub : ys.Sublist zs) : ∃ us vs : List Str, ys = dS us ∧ vs.Perm ws ∧ us.Sublist vs := by
  obtain ⟨vs, p, rfl⟩ := perm_dS pm
  obtain ⟨us, h1, h2⟩ := List.sublist_map_iff.mp sub
  exact ⟨us, vs, h2, p, h1⟩
/-- a heading of some of the names -/
def headW : WF := fun ss mu Q => ∃ k x zs least, ss = [.h k, .d x, .d (.int least)] ∧ itemsOf x = some (dS zs) ∧ 0 ≤ least ∧ Src mu k ∧ zs.Nodup ∧ zs.length < 60 ∧ ∀ hs mu', Asc hs → (∀ z ∈ hs, z ∈ zs) → hs.length ≤ zs.length → Gone mu k mu' → Q (.d (.tup (dS hs))) mu'
theorem on_sorted {ws : List Str} {mu : Mu} (h : ws.length < 64) : dSorted [.d (.lst (dS ws))] mu = some (.lst (dS (sortS ws))) := by
  show (asStrs (dS ws)).bind _ = _
  rw [asStrs_dS]
  show (if _ then _ else _) = _
  rw [if_pos h]
end Law
set_option Elab.async false
set_option linter.all false
set_option maxRecDepth 100000
set_option maxHeartbeats 1000000
namespace Law
open PySem PySem.Spec L2 DL
def openW : WF := fun ss mu Q => ∃ ns, ss = [.d (.scr ns)] ∧ ns.length < 1000 ∧ ∀ mu' k, Src mu' k → Q (.h k) mu'
theorem e_disp {fs : List (WE × WE)} {sl : Sl} {mu : Mu} {Q : S → Mu → Prop} (q : wPairs fs sl mu fun ps mu1 => ps.length ≤ 15 ∧ On (keysOf2 ps) fun kvs => Q (.h mu1.length) (mu1 ++ [some (.dic (putAll [] kvs))])) : wDisp fs sl mu Q := q
theorem e_pairs {fk fv : WE} {r : List (WE × WE)} {sl : Sl} {mu : Mu} {A : List (S × S) → Mu → Prop} (q : fk sl mu fun k mu1 => fv sl mu1 fun v mu2 => wPairs r sl mu2 fun ps mu3 => A ((k, v) :: ps) mu3) : wPairs ((fk, fv) :: r) sl mu A := q
theorem e_pairs0 {sl : Sl} {mu : Mu} {A : List (S × S) → Mu → Prop} (q : A [] mu) : wPairs [] sl mu A := q
theorem sp_open (ss : List S) (mu : Mu) (Q : S → Mu → Prop) (h : openW ss mu Q) : wDefM 1 4 w_law_open_cells ss mu Q := by
  obtain ⟨ns, rfl, hl, q⟩ := h
  refine ⟨rfl, ?_⟩
  refine e_sset <| e_c ?_
  refine e_sfor <| e_iter <| e_var rfl <| e_asD <| e_on (x := ns.map D.int) rfl ?_
  refine for_inv (fun i sl mu1 => mu1 = mu ∧ ∃ (m : Int) (x : Option S), sl = [some (.d (.scr ns)), some (.d (.int m)), x, none]) (ns.map D.int) 0 _ mu ⟨rfl, 11, none, rfl⟩ ?_ ?_
  · intro i d sl mu1 hd ⟨e1, m, x, e2⟩ C hC
    subst e1 e2
    rw [List.getElem?_map] at hd
    obtain ⟨n, _, rfl⟩ := Option.map_eq_some_iff.mp hd
    refine e_on rfl <| e_set <| e_bin <| e_call <| e_cons <| e_bin <| e_bin <| e_bin <| e_var rfl <| e_c <| e_on (on_mul (by simp [DL.small64])) <| e_bin <| e_var rfl <| e_c <| e_on (on_mul (by simp [DL.small64])) <| e_on rfl <| e_c <| e_on rfl <| e_nil <| e_on rfl <| e_c <| e_on (on_mod (by decide)) ?_
    exact hC _ _ ⟨rfl, _, _, rfl⟩
  · intro sl mu1 ⟨e1, m, x, e2⟩
    subst e1 e2
    dsimp only
    refine e_sset <| e_comp <| e_iter <| e_var rfl <| e_asD <| e_on (x := ns.map D.int) rfl ?_
    refine comp_map (fun _ => true) (fun i => .int (if i < 0 then -i else i)) (fun i => [some (.d (.scr ns)), some (.d (.int m)), some (.d (.int i)), none]) ns [] (fun i _ => rfl) (fun i _ P p => p) (fun i _ _ P p => e_call <| e_cons <| e_var rfl <| e_nil <| e_on rfl p) (by rw [sizeLine_eq]; simp; omega) ?_
    have e3 : [] ++ (ns.filter fun _ => true).map (fun i => D.int (if i < 0 then -i else i)) = (ns.map fun i => if i < 0 then -i else i).map D.int := by
      rw [filter_t, List.map_map, List.nil_append]
      rfl
    rw [e3]
    refine e_ret <| e_disp <| e_pairs <| e_c <| e_revM <| e_var rfl <| e_on rfl <| e_pairs <| e_c <| e_c <| e_pairs <| e_c <| e_var rfl <| e_pairs <| e_c <| e_c <| e_pairs0 ⟨show (4 : Nat) ≤ 15 by decide, e_on rfl ?_⟩
    rw [← List.map_reverse]
    refine q _ _ ⟨mu1.length, (ns.map fun i => if i < 0 then -i else i).reverse, 1, m, 0, ?_, ?_, ?_⟩
    · have z : ∀ (x y : Option MO), (mu1 ++ [x] ++ [y])[(mu1 ++ [x]).length]? = some y := fun x y => by simp
      exact z _ _
    · have z : ∀ (x y : Option MO), (mu1 ++ [x] ++ [y])[mu1.length]? = some x := fun x y => by simp
      exact z _ _
    · rw [List.length_append, List.length_singleton]
      omega
/-! what can be shown of a list of odd things -/

end Law
set_option Elab.async false
set_option linter.all false
set_option maxRecDepth 100000
set_option maxHeartbeats 1000000
namespace Law
open PySem PySem.Spec L2 DL
abbrev tS (zs : List Str) : D := .tup (dS zs)
def keepS (xs ys : List Str) : List Str := xs.filter fun z => decide (z ∈ ys)
def lessS (xs ys : List Str) : List Str := xs.filter fun z => !decide (z ∈ ys)
/-- two tuples of texts -/
def two (g : List Str → List Str → D) : WF := fun ss mu Q => ∃ xs ys, ss = [.d (tS xs), .d (tS ys)] ∧ xs.length < 30 ∧ ys.length < 30 ∧ Q (.d (g xs ys)) mu
theorem few_ok {n : Nat} (h : n < 30) : ([] : List D).length + n ≤ sizeLine := by
  rw [sizeLine_eq]
  simp
  omega
theorem sp_beyond (ss : List S) (mu : Mu) (Q : S → Mu → Prop) (h : two (fun xs ys => tS (lessS xs ys)) ss mu Q) : wDef 2 3 w_beyond ss mu Q := by
  obtain ⟨xs, ys, rfl, hx, hy, q⟩ := h
  refine ⟨rfl, ?_⟩
  refine e_ret <| e_call <| e_cons <| e_comp <| e_iter <| e_var rfl <| e_asD <| e_on (x := dS xs) rfl ?_
  refine comp_map (fun z => !decide (z ∈ ys)) D.str (fun z => [some (.d (tS xs)), some (.d (tS ys)), some (.d (.str z))]) xs [] (fun z _ => rfl) (fun z _ P p => ?_) (fun z _ _ P p => ?_) (few_ok hx) ?_
  · exact e_B <| e_bin <| e_var rfl <| e_var rfl <| e_on on_in_tup (e_asB p)
  · exact e_var rfl p
  · exact e_nil <| e_on rfl (retD_d q)
theorem less_len (xs ys : List Str) : (lessS xs ys).length ≤ xs.length := List.length_filter_le _ _
def unionS (xs ys : List Str) : List Str := sortS (xs ++ lessS ys xs)
theorem on_add_lst {a b : List Str} {mu : Mu} (h : a.length + b.length < 100) : dAdd (.d (.lst (dS a))) (.d (.lst (dS b))) mu = some (.lst (dS (a ++ b))) := by
  show (if (dS a).length + (dS b).length ≤ sizeLine then _ else _) = _
  rw [List.length_map, List.length_map, if_pos (by rw [sizeLine_eq]; omega)]
  simp [dS]
theorem union_asc {a b : List Str} (ha : Asc a) (hb : Asc b) : Asc (unionS a b) := by
  refine asc_sort ?_
  rw [List.nodup_append]
  refine ⟨ha.nodup, hb.nodup.sublist List.filter_sublist, fun x hx y hy e => ?_⟩
  subst e
  have := (List.mem_filter.mp hy).2
  rw [decide_eq_true hx] at this
  cases this
theorem union_mem {a b : List Str} {x : Str} : x ∈ unionS a b ↔ (x ∈ a ∨ x ∈ b) := by
  unfold unionS lessS
  rw [sortS_mem, List.mem_append, List.mem_filter]
  by_cases h : x ∈ a
  · simp [h]
  · simp [h]
def okName (z : Str) : Bool := okS z && PyData.strOk z
theorem names_ok {z : Str} (h : z ∈ names8) : okS z = true ∧ PyData.strOk z = true := by
  have : (names8.all fun z => okS z && PyData.strOk z) = true := by decide +kernel
  have h2 := List.all_eq_true.mp this z h
  rw [Bool.and_eq_true] at h2
  exact h2

/-! ### headings, webs -/
theorem nodup_len {α : Type} [DecidableEq α] : ∀ {a b : List α}, a.Nodup → (∀ x ∈ a, x ∈ b) → a.length ≤ b.length
  | [], _, _, _ => Nat.zero_le _
  | x :: a, b, n, h => by
    obtain ⟨n1, n2⟩ := List.nodup_cons.mp n
    have hx : x ∈ b := h x (List.mem_cons_self ..)
    have e := List.length_erase_of_mem hx
    have pos : 0 < b.length := List.length_pos_of_mem hx
    have ih := nodup_len (b := b.erase x) n2 fun y hy => (List.mem_erase_of_ne (fun z => by rw [z] at hy; exact n1 hy)).mpr (h y (List.mem_cons_of_mem _ hy))
    rw [List.length_cons]
    omega
structure Hd (a : List Str) : Prop where
  asc : Asc a
  sub : ∀ z ∈ a, z ∈ names8
theorem Hd.len {a : List Str} (h : Hd a) : a.length ≤ 8 := nodup_len (b := names8) h.asc.nodup h.sub
/-- columns in any sequence, each once -/
structure Cs (a : List Str) : Prop where
  nd : a.Nodup
  sub : ∀ z ∈ a, z ∈ names8
theorem Cs.len {a : List Str} (h : Cs a) : a.length ≤ 8 := nodup_len (b := names8) h.nd h.sub
theorem Cs.hd {a : List Str} (h : Cs a) : Hd (sortS a) := ⟨asc_sort h.nd, fun z hz => h.sub z (sortS_mem.mp hz)⟩
structure WebOk (ws : List (List Str)) : Prop where
  hd : ∀ h ∈ ws, Hd h
  lo : 1 ≤ ws.length
  hi : ws.length ≤ 7
abbrev webD (ws : List (List Str)) : D := .tup (ws.map tS)
abbrev lS (zs : List Str) : D := .lst (dS zs)
theorem perm_map {α β : Type} {f : α → β} {ys : List β} {xs : List α} (h : ys.Perm (xs.map f)) : ∃ zs : List α, zs.Perm xs ∧ ys = zs.map f := by
  have : ∀ {ys us : List β}, ys.Perm us → ∀ xs : List α, us = xs.map f → ∃ zs : List α, zs.Perm xs ∧ ys = zs.map f := by
    intro ys us pm
    induction pm with
    | nil =>
      intro xs e
      exact ⟨xs, .refl _, e⟩
    | cons x p ih =>
      intro xs e
      cases xs with
      | nil => cases e
      | cons z zs =>
        simp only [List.map_cons, List.cons.injEq] at e
        obtain ⟨vs, h1, h2⟩ := ih zs e.2
        exact ⟨z :: vs, h1.cons z, by rw [e.1, h2]; rfl⟩
    | swap x y l =>
      intro xs e
      cases xs with
      | nil => cases e
      | cons z zs =>
        cases zs with
        | nil => cases e
        | cons z2 zs =>
          simp only [List.map_cons, List.cons.injEq] at e
          exact ⟨z2 :: z :: zs, .swap _ _ _, by rw [e.1, e.2.1, e.2.2]; rfl⟩
    | trans _ _ ih1 ih2 =>
      intro xs e
      obtain ⟨vs, h1, h2⟩ := ih2 xs e
      obtain ⟨us, h3, h4⟩ := ih1 vs h2
      exact ⟨us, h3.trans h1, h4⟩
  exact this h xs rfl
theorem sub_map {α β : Type} {f : α → β} {ys zs : List β} {xs : List α} (pm : zs.Perm (xs.map f)) (sub : ys.Sublist zs) : ∃ us vs : List α, ys = us.map f ∧ vs.Perm xs ∧ us.Sublist vs := by
  obtain ⟨vs, p, rfl⟩ := perm_map pm
  obtain ⟨us, h1, h2⟩ := List.sublist_map_iff.mp sub
  exact ⟨us, vs, h2, p, h1⟩
/-- the columns of a web -/
def colsS (ws : List (List Str)) : List Str := ws.foldl unionS []
theorem cols_hd : ∀ (ws : List (List Str)) (a : List Str), Hd a → (∀ h ∈ ws, Hd h) → Hd (ws.foldl unionS a)
  | [], a, ha, _ => ha
  | w :: ws, a, ha, h => by
    have hw := h w (List.mem_cons_self ..)
    refine cols_hd ws _ ⟨union_asc ha.asc hw.asc, fun z hz => ?_⟩ fun y hy => h y (List.mem_cons_of_mem _ hy)
    rcases union_mem.mp hz with y | y
    · exact ha.sub z y
    · exact hw.sub z y
theorem nil_hd : Hd [] := ⟨.nil, fun z hz => by cases hz⟩
def columnsW : WF := fun ss mu Q => ∃ ws, ss = [.d (webD ws)] ∧ (∀ h ∈ ws, Hd h) ∧ Q (.d (tS (colsS ws))) mu
/-- a web cut -/
def cutW : WF := fun ss mu Q => ∃ ws cs, ss = [.d (webD ws), .d (tS cs)] ∧ WebOk ws ∧ cs.length < 30 ∧ Q (.d (webD (ws.map fun w => keepS w cs))) mu
theorem cut_ok {ws : List (List Str)} (h : WebOk ws) (cs : List Str) : WebOk (ws.map fun w => keepS w cs) := by
  refine ⟨fun y hy => ?_, by rw [List.length_map]; exact h.lo, by rw [List.length_map]; exact h.hi⟩
  obtain ⟨w, hw, rfl⟩ := List.mem_map.mp hy
  exact ⟨asc_filter (h.hd w hw).asc _, fun z hz => (h.hd w hw).sub z (List.mem_filter.mp hz).1⟩
end Law
set_option Elab.async false
set_option linter.all false
set_option maxRecDepth 100000
set_option maxHeartbeats 1000000
/-! B1: blocks cut by splits: what comes of it does not depend on the sequence of the cuts -/
namespace Law
open PySem PySem.Spec L2 DL
abbrev Spl := List Str × List Str
def cutB (e : Spl) (b : List Str) : Bool := (keepS b e.1).isEmpty && (!(keepS b e.2).isEmpty && !(lessS b e.2).isEmpty)
theorem keep_mem {b s : List Str} {z : Str} : z ∈ keepS b s ↔ z ∈ b ∧ z ∈ s := by
  unfold keepS
  rw [List.mem_filter, decide_eq_true_eq]
theorem less_mem {b s : List Str} {z : Str} : z ∈ lessS b s ↔ z ∈ b ∧ z ∉ s := by
  unfold lessS
  rw [List.mem_filter]
  simp
theorem keep_nil {b s : List Str} : (keepS b s).isEmpty = true ↔ ∀ z ∈ b, z ∉ s := by
  rw [List.isEmpty_iff, List.eq_nil_iff_forall_not_mem]
  exact ⟨fun h z hz hs => h z (keep_mem.mpr ⟨hz, hs⟩), fun h z hz => h z (keep_mem.mp hz).1 (keep_mem.mp hz).2⟩
theorem less_nilB {b s : List Str} : (lessS b s).isEmpty = true ↔ ∀ z ∈ b, z ∈ s := by
  rw [List.isEmpty_iff, List.eq_nil_iff_forall_not_mem]
  exact ⟨fun h z hz => Classical.byContradiction fun w => h z (less_mem.mpr ⟨hz, w⟩), fun h z hz => (less_mem.mp hz).2 (h z (less_mem.mp hz).1)⟩
theorem cut_iff {e : Spl} {b : List Str} : cutB e b = true ↔ (∀ z ∈ b, z ∉ e.1) ∧ (∃ z ∈ b, z ∈ e.2) ∧ ∃ z ∈ b, z ∉ e.2 := by
  unfold cutB
  rw [Bool.and_eq_true, Bool.and_eq_true, keep_nil, Bool.not_eq_true', Bool.not_eq_true', Bool.eq_false_iff, Bool.eq_false_iff, Ne, Ne, keep_nil, less_nilB]
  constructor
  · rintro ⟨h1, h2, h3⟩
    refine ⟨h1, Classical.byContradiction fun w => h2 fun z hz hs => w ⟨z, hz, hs⟩, Classical.byContradiction fun w => h3 fun z hz => Classical.byContradiction fun v => w ⟨z, hz, v⟩⟩
  · rintro ⟨h1, ⟨z, hz, hs⟩, y, hy, hn⟩
    exact ⟨h1, fun w => w z hz hs, fun w => hn (w y hy)⟩
/-- no split of T cuts C -/
def Stb (T : Spl → Prop) (C : List Str) : Prop := ∀ e, T e → cutB e C = false
theorem Stb.two {T : Spl → Prop} {C : List Str} (h : Stb T C) {e : Spl} (he : T e) (hg : ∀ z ∈ C, z ∉ e.1) : (∀ z ∈ C, z ∉ e.2) ∨ ∀ z ∈ C, z ∈ e.2 := by
  refine Classical.byContradiction fun w => ?_
  have : cutB e C = true := cut_iff.mpr ⟨hg, Classical.byContradiction fun v => w (.inl fun z hz hs => v ⟨z, hz, hs⟩), Classical.byContradiction fun v => w (.inr fun z hz => Classical.byContradiction fun u => v ⟨z, hz, u⟩)⟩
  rw [h e he] at this
  cases this
inductive Der (T : Spl → Prop) (cols : List Str) : List (List Str) → Prop
  | start : cols ≠ [] → Der T cols [cols]
  | cut {b : List Str} {r : List (List Str)} {e : Spl} : Der T cols (b :: r) → T e → cutB e b = true → Der T cols (keepS b e.2 :: lessS b e.2 :: r)
  | perm {r r' : List (List Str)} : Der T cols r → r.Perm r' → Der T cols r'
def PD (R : List (List Str)) : Prop := R.Pairwise fun a b => ∀ z ∈ a, z ∉ b
section
variable {T : Spl → Prop} {cols : List Str} {R : List (List Str)}
theorem Der.ne (h : Der T cols R) : ∀ b ∈ R, b ≠ [] := by
  induction h with
  | start c => exact fun b hb => by rw [List.mem_singleton.mp hb]; exact c
  | cut _ _ c ih =>
    intro x hx
    obtain ⟨_, ⟨z, hz, hs⟩, y, hy, hn⟩ := cut_iff.mp c
    rcases List.mem_cons.mp hx with rfl | hx
    · exact List.ne_nil_of_mem (keep_mem.mpr ⟨hz, hs⟩)
    rcases List.mem_cons.mp hx with rfl | hx
    · exact List.ne_nil_of_mem (less_mem.mpr ⟨hy, hn⟩)
    · exact ih x (List.mem_cons_of_mem _ hx)
  | perm _ p ih => exact fun b hb => ih b (p.mem_iff.mpr hb)
theorem Der.sub (h : Der T cols R) : ∀ b ∈ R, ∃ p : Str → Bool, b = cols.filter p := by
  induction h with
  | start c => exact fun b hb => ⟨fun _ => true, by rw [List.mem_singleton.mp hb]; exact (List.filter_eq_self.mpr fun _ _ => rfl).symm⟩
  | @cut b r e _ _ c ih =>
    intro x hx
    have hb := ih _ (List.mem_cons_self ..)
    obtain ⟨p, hp⟩ := hb
    rcases List.mem_cons.mp hx with rfl | hx
    · exact ⟨_, (congrArg (List.filter fun z => decide (z ∈ e.2)) hp).trans List.filter_filter⟩
    rcases List.mem_cons.mp hx with rfl | hx
    · exact ⟨_, (congrArg (List.filter fun z => !decide (z ∈ e.2)) hp).trans List.filter_filter⟩
    · exact ih x (List.mem_cons_of_mem _ hx)
  | perm _ p ih => exact fun b hb => ih b (p.mem_iff.mpr hb)
theorem Der.flat (h : Der T cols R) : R.flatten.Perm cols := by
  induction h with
  | start c => simp
  | @cut b r e _ _ c ih =>
    refine .trans ?_ ih
    rw [List.flatten_cons, List.flatten_cons, List.flatten_cons, ← List.append_assoc]
    exact (List.filter_append_perm _ b).append_right _
  | perm _ p ih => exact p.symm.flatten.trans ih
theorem Der.dis (h : Der T cols R) : PD R := by
  induction h with
  | start c => exact List.pairwise_singleton ..
  | @cut b r e _ _ c ih =>
    obtain ⟨h1, h2⟩ := List.pairwise_cons.mp ih
    refine List.pairwise_cons.mpr ⟨fun x hx z hz => ?_, List.pairwise_cons.mpr ⟨fun x hx z hz => h1 x hx z (less_mem.mp hz).1, h2⟩⟩
    rcases List.mem_cons.mp hx with rfl | hx
    · exact fun w => (less_mem.mp w).2 (keep_mem.mp hz).2
    · exact h1 x hx z (keep_mem.mp hz).1
  | perm _ p ih => exact (p.pairwise_iff (fun {x y} w z hz hx => w z hx hz)).mp ih
theorem len_flat : ∀ {R : List (List Str)}, (∀ b ∈ R, b ≠ []) → R.length ≤ R.flatten.length
  | [], _ => Nat.le_refl _
  | b :: R, h => by
    have := len_flat fun x hx => h x (List.mem_cons_of_mem b hx)
    have l : 0 < b.length := List.length_pos_iff.mpr (h b (List.mem_cons_self ..))
    rw [List.flatten_cons, List.length_append, List.length_cons]
    omega
theorem Der.len (h : Der T cols R) : R.length ≤ cols.length := by
  have := len_flat h.ne
  rw [h.flat.length_eq] at this
  exact this
theorem Der.mem (h : Der T cols R) {b : List Str} (hb : b ∈ R) : ∀ z ∈ b, z ∈ cols := fun z hz => h.flat.mem_iff.mp (List.mem_flatten.mpr ⟨b, hb, hz⟩)
theorem Der.inn (h : Der T cols R) {C : List Str} (hC : ∀ z ∈ C, z ∈ cols) (st : Stb T C) : ∃ b ∈ R, ∀ z ∈ C, z ∈ b := by
  induction h with
  | start c => exact ⟨cols, List.mem_singleton.mpr rfl, hC⟩
  | @cut b r e _ te c ih =>
    obtain ⟨x, hx, hi⟩ := ih
    rcases List.mem_cons.mp hx with rfl | hx
    · rcases st.two te fun z hz => (cut_iff.mp c).1 z (hi z hz) with w | w
      · exact ⟨_, List.mem_cons_of_mem _ (List.mem_cons_self ..), fun z hz => less_mem.mpr ⟨hi z hz, w z hz⟩⟩
      · exact ⟨_, List.mem_cons_self .., fun z hz => keep_mem.mpr ⟨hi z hz, w z hz⟩⟩
    · exact ⟨x, List.mem_cons_of_mem _ (List.mem_cons_of_mem _ hx), hi⟩
  | perm _ p ih =>
    obtain ⟨x, hx, hi⟩ := ih
    exact ⟨x, p.mem_iff.mp hx, hi⟩
theorem pd_eq {R : List (List Str)} (h : PD R) {a b : List Str} (ha : a ∈ R) (hb : b ∈ R) {z : Str} (za : z ∈ a) (zb : z ∈ b) : a = b := by
  induction R with
  | nil => cases ha
  | cons x R ih =>
    obtain ⟨h1, h2⟩ := List.pairwise_cons.mp h
    rcases List.mem_cons.mp ha with ea | ha
    · rcases List.mem_cons.mp hb with eb | hb
      · rw [ea, eb]
      · rw [ea] at za
        exact absurd zb (h1 b hb z za)
    · rcases List.mem_cons.mp hb with eb | hb
      · rw [eb] at zb
        exact absurd za (h1 a ha z zb)
      · exact ih h2 ha hb
theorem Der.nodup (h : Der T cols R) : R.Nodup := by
  have ne := h.ne
  have d := h.dis
  clear h
  induction R with
  | nil => exact List.nodup_nil
  | cons x R ih =>
    obtain ⟨h1, h2⟩ := List.pairwise_cons.mp d
    refine List.nodup_cons.mpr ⟨fun hx => ?_, ih (fun b hb => ne b (List.mem_cons_of_mem _ hb)) h2⟩
    obtain ⟨z, l, e⟩ := List.exists_cons_of_ne_nil (ne x (List.mem_cons_self ..))
    have hz : z ∈ x := by rw [e]; exact List.mem_cons_self ..
    exact h1 x hx z hz hz
theorem filter_same {p q : Str → Bool} (h : ∀ z, z ∈ cols.filter p ↔ z ∈ cols.filter q) : cols.filter p = cols.filter q := by
  refine List.filter_congr fun z hz => ?_
  have := h z
  rw [List.mem_filter, List.mem_filter] at this
  rw [Bool.eq_iff_iff]
  exact ⟨fun w => (this.mp ⟨hz, w⟩).2, fun w => (this.mpr ⟨hz, w⟩).2⟩
/-- two ways to the end -/
theorem Der.uniq {T' : Spl → Prop} {R' : List (List Str)} (h : Der T cols R) (h' : Der T' cols R') (s : ∀ b ∈ R, Stb T' b) (s' : ∀ b ∈ R', Stb T b) : R.Perm R' := by
  have one : ∀ {T T' : Spl → Prop} {R R' : List (List Str)}, Der T cols R → Der T' cols R' → (∀ b ∈ R, Stb T' b) → (∀ b ∈ R', Stb T b) → ∀ b ∈ R, b ∈ R' := by
    intro T T' R R' h h' s s' b hb
    obtain ⟨c, hc, i1⟩ := h'.inn (h.mem hb) (s b hb)
    obtain ⟨b2, hb2, i2⟩ := h.inn (h'.mem hc) (s' c hc)
    obtain ⟨z, l, e⟩ := List.exists_cons_of_ne_nil (h.ne b hb)
    have hz : z ∈ b := by rw [e]; exact List.mem_cons_self ..
    have eb := pd_eq h.dis hb hb2 hz (i2 z (i1 z hz))
    obtain ⟨p, ep⟩ := h.sub b hb
    obtain ⟨q, eq⟩ := h'.sub c hc
    have : b = c := by
      rw [ep, eq]
      refine filter_same fun z => ?_
      rw [← ep, ← eq]
      exact ⟨i1 z, fun w => by rw [eb]; exact i2 z w⟩
    rw [this]
    exact hc
  exact (List.perm_ext_iff_of_nodup h.nodup h'.nodup).mpr fun b => ⟨one h h' s s' b, one h' h s' s b⟩
end
/-! sorted headings -/
theorem head_total : ∀ {a b : List Str}, headLt a b = false → headLt b a = false → a = b
  | [], [], _, _ => rfl
  | [], _ :: _, h, _ => by cases h
  | _ :: _, [], _, h => by cases h
  | x :: xs, y :: ys, h, g => by
    unfold headLt at h g
    by_cases e : x = y
    · rw [if_pos e] at h
      rw [if_pos e.symm] at g
      rw [e, head_total h g]
    · rw [if_neg e] at h
      rw [if_neg fun w => e w.symm] at g
      exact absurd (strLt_total h g) e
theorem head_asymm : ∀ {a b : List Str}, headLt a b = true → headLt b a = false
  | [], [], h => by cases h
  | [], _ :: _, _ => rfl
  | _ :: _, [], h => by cases h
  | x :: xs, y :: ys, h => by
    unfold headLt at h ⊢
    by_cases e : x = y
    · rw [if_pos e] at h
      rw [if_pos e.symm]
      exact head_asymm h
    · rw [if_neg e] at h
      rw [if_neg fun w => e w.symm]
      exact strLt_asymm h
theorem head_trans : ∀ {a b c : List Str}, headLt a b = true → headLt b c = true → headLt a c = true
  | [], [], _, h, _ => by cases h
  | _ :: _, [], _, h, _ => by cases h
  | _, _ :: _, [], _, h => by cases h
  | [], _ :: _, _ :: _, _, _ => rfl
  | x :: xs, y :: ys, z :: zs, h, g => by
    unfold headLt at h g ⊢
    by_cases e : x = y
    · rw [if_pos e] at h
      subst e
      by_cases e2 : x = z
      · rw [if_pos e2] at g ⊢
        exact head_trans h g
      · rw [if_neg e2] at g ⊢
        exact g
    · rw [if_neg e] at h
      by_cases e2 : y = z
      · rw [if_pos e2] at g
        subst e2
        rw [if_neg e]
        exact h
      · rw [if_neg e2] at g
        have t := strLt_trans h g
        rw [if_neg fun w => by rw [w, strLt_irrefl] at t; cases t]
        exact t
theorem leH_trans (a b c : List Str) (h : leH a b = true) (g : leH b c = true) : leH a c = true := by
  rw [leH_eq, Bool.not_eq_true'] at h g ⊢
  cases e : headLt c a with
  | false => rfl
  | true =>
    cases e2 : headLt a b with
    | true =>
      have := head_trans e e2
      rw [g] at this
      cases this
    | false =>
      have := head_total e2 h
      subst this
      rw [g] at e
      cases e
theorem leH_total (a b : List Str) : (leH a b || leH b a) = true := by
  rw [leH_eq, leH_eq, Bool.or_eq_true, Bool.not_eq_true', Bool.not_eq_true']
  cases e : headLt b a with
  | false => exact .inl rfl
  | true => exact .inr (head_asymm e)
theorem sortH_same {a b : List (List Str)} (p : a.Perm b) : sortH a = sortH b := by
  refine List.Perm.eq_of_pairwise (le := fun x y => leH x y = true) (fun x y _ _ h g => ?_) (List.pairwise_mergeSort leH_trans leH_total a) (List.pairwise_mergeSort leH_trans leH_total b) ((List.mergeSort_perm a leH).trans (p.trans (List.mergeSort_perm b leH).symm))
  rw [leH_eq, Bool.not_eq_true'] at h g
  exact head_total g h
theorem sortH_len (a : List (List Str)) : (sortH a).length = a.length := (List.mergeSort_perm a leH).length_eq
end Law
set_option Elab.async false
set_option linter.all false
set_option maxRecDepth 100000
set_option maxHeartbeats 1000000
namespace Law
open PySem PySem.Spec L2 DL
local macro_rules | `(tactic| walk_at "go") => `(tactic| (change _; first | ((with_reducible show wCons _ _ _ _ _); (with_reducible refine e_cons ?_)) | ((with_reducible show wVar _ _ _ _); (with_reducible refine e_var (by with_unfolding_all exact rfl) ?_)) | ((with_reducible show wNil _ _ _); (with_reducible refine e_nil ?_)) | ((with_reducible show wC _ _ _ _); (with_reducible refine e_c ?_)) | ((with_reducible show wFn _ _ _ _ _); (with_reducible refine e_fn ?_)) | ((with_reducible show wCall _ _ _ _ _); (with_reducible refine e_call ?_)) | ((with_reducible show wBin _ _ _ _ _ _); (with_reducible refine e_bin ?_)) | ((with_reducible show wUn _ _ _ _ _); (with_reducible refine e_un ?_)) | ((with_reducible show wSeq (wSet _ _) _ _ _ _); (with_reducible refine e_sset ?_)) | ((with_reducible show wSeq (wIf _ _ wSkip) _ _ _ _); (with_reducible refine e_sif ?_)) | ((with_reducible show wSeq (wDrop _) _ _ _ _); (with_reducible refine e_sdrop ?_)) | ((with_reducible show wSeq (wDput _ _ _) _ _ _ _); (with_reducible refine e_sput ?_)) | ((with_reducible show wSeq (wFor _ _ _) _ _ _ _); (with_reducible refine e_sfor ?_)) | ((with_reducible show wSeq (wForL _ _ _) _ _ _ _); (with_reducible refine e_sforL ?_)) | ((with_reducible show wSeq (wAsg _ _) _ _ _ _); (with_reducible refine e_sasg ?_)) | ((with_reducible show wSeq (wPar _ _ _) _ _ _ _); (with_reducible refine e_spar ?_)) | ((with_reducible show wSeq (wWhile _ _) _ _ _ _); (with_reducible refine e_swhile ?_)) | ((with_reducible show wSeq _ _ _ _ _); (with_reducible refine e_seq ?_)) | ((with_reducible show wRet _ _ _ _); (with_reducible refine e_ret ?_)) | ((with_reducible show wDrop _ _ _ _); (with_reducible refine e_drop ?_)) | ((with_reducible show wSet _ _ _ _ _); (with_reducible refine e_set ?_)) | ((with_reducible show wIf _ _ _ _ _ _); (with_reducible refine e_if ?_)) | ((with_reducible show wSkip _ _ _); (with_reducible refine e_skip ?_)) | ((with_reducible show wFor _ _ _ _ _ _); (with_reducible refine e_for ?_)) | ((with_reducible show wForL _ _ _ _ _ _); (with_reducible refine e_forL ?_)) | ((with_reducible show wDput _ _ _ _ _ _); (with_reducible refine e_dput ?_)) | ((with_reducible show wB _ _ _ _); (with_reducible refine e_B ?_)) | ((with_reducible show wNotT _ _ _ _); (with_reducible refine e_not ?_)) | ((with_reducible show wAndT _ _ _ _ _); (with_reducible refine e_and ?_)) | ((with_reducible show wOrT _ _ _ _ _); (with_reducible refine e_or ?_)) | ((with_reducible show wAndV _ _ _ _ _); (with_reducible refine e_andV ?_)) | ((with_reducible show wOrV _ _ _ _ _); (with_reducible refine e_orV ?_)) | ((with_reducible show wNotV _ _ _ _); (with_reducible refine e_notV ?_)) | ((with_reducible show wIfE _ _ _ _ _ _); (with_reducible refine e_ifE ?_)) | ((with_reducible show wYes _ _ _); (with_reducible refine e_yes ?_)) | ((with_reducible show wIter _ _ _ _); (with_reducible refine e_iter ?_)) | ((with_reducible show wRange1 _ _ _ _); (with_reducible refine e_range ?_)) | ((with_reducible show wRange2 _ _ _ _); (with_reducible refine e_range2 ?_)) | ((with_reducible show wComp _ _ _ _ _ _ _ _); (with_reducible refine e_comp ?_)) | ((with_reducible show wCompL _ _ _ _ _ _ _ _); (with_reducible refine e_compL ?_)) | ((with_reducible show wDget _ _ _ _ _); (with_reducible refine e_dget ?_)) | ((with_reducible show wMut _ _ _ _ _ _); (with_reducible refine e_mut ?_)) | ((with_reducible show wPart _ _ _ _); (with_reducible refine e_part ?_)) | ((with_reducible show wNoPart _ _ _); (with_reducible refine e_nopart ?_)) | ((with_reducible show wSlice _ _ _ _ _ _); (with_reducible refine e_slice ?_)) | ((with_reducible show wListM _ _ _ _); (with_reducible refine e_listM ?_)) | ((with_reducible show wRevM _ _ _ _); (with_reducible refine e_revM ?_)) | ((with_reducible show wNewL _ _ _ _); (with_reducible refine e_newL ?_)) | ((with_reducible show wListRg _ _ _ _); (with_reducible refine e_listRg ?_)) | ((with_reducible show wListRgM _ _ _ _); (with_reducible refine e_listRgM ?_)) | ((with_reducible show wEnT _ _ _ _); (with_reducible refine e_enT ?_)) | ((with_reducible show wDictL _ _ _ _); (with_reducible refine e_dictL ?_)) | ((with_reducible show wCompM _ _ _ _ _ _ _ _ _); (with_reducible refine e_compM ?_)) | ((with_reducible show wIxS _ _ _ _ _); (with_reducible refine e_ixS ?_)) | ((with_reducible show wSortHM _ _ _ _); (with_reducible refine e_sortHM ?_)) | ((with_reducible show wChain _ _ _ _ _ _ _ _); (with_reducible refine e_chain ?_)) | ((with_reducible show wChain3 _ _ _ _ _ _ _ _ _ _); (with_reducible refine e_chain3 ?_)) | ((with_reducible show AsB _ _); (with_reducible refine e_asB ?_)) | ((with_reducible show AsI _ _); (with_reducible refine e_asI ?_)) | ((with_reducible show AsD _ _); (with_reducible refine e_asD ?_)) | ((with_reducible show AsBd _ _); (with_reducible refine e_asBd ?_)) | ((with_reducible show As1 _ _); (with_reducible refine e_as1 ?_)) | ((with_reducible show As2 _ _); (with_reducible refine e_as2 ?_)) | ((with_reducible show AsT _ _); (with_reducible refine e_asT ?_)) | ((with_reducible show AsLs _ _); (with_reducible refine e_asLs ?_)) | ((with_reducible show AsR _ _); (with_reducible refine e_asR ?_); first | refine ⟨by decide, ?_⟩ | refine ⟨in62' (by omega), ?_⟩) | ((with_reducible show ite (true = true) _ _); (with_reducible refine e_true ?_)) | ((with_reducible show ite (false = true) _ _); (with_reducible refine e_false ?_)) | ((with_reducible show ite ((!true) = true) _ _); (with_reducible refine e_nt ?_)) | ((with_reducible show ite ((!false) = true) _ _); (with_reducible refine e_nf ?_)) | ((with_reducible show On (dDisp _ _ _) _); (with_reducible refine e_on (by with_unfolding_all first | exact on_dispC (by repeat (first | exact Ds.nil | apply Ds.cons)) rfl) ?_)) | ((with_reducible show On (dIx _ _ _) _); (with_reducible refine e_on (by with_unfolding_all first | (with_reducible exact on_ixT0) | (with_reducible exact on_ixT1) | (with_reducible exact on_ixL0) | exact on_ixT (by assumption) | exact on_ixL (by assumption)) ?_)) | ((with_reducible show On (dLen _ _) _); (with_reducible refine e_on (by with_unfolding_all first | (with_reducible exact on_lenTm) | (with_reducible exact on_lenLm) | exact on_lenT | exact on_lenL) ?_)) | ((with_reducible show On (dTuple _ _) _); (with_reducible refine e_on (by with_unfolding_all first | exact on_tupleT | exact on_tupleL) ?_)) | ((with_reducible show On (dList _ _) _); (with_reducible refine e_on (by with_unfolding_all first | exact on_listT | exact on_listL) ?_)) | ((with_reducible show On (dEq _ _ _ _) _); (with_reducible refine e_on (by with_unfolding_all first | (with_reducible exact on_sameS) | (with_reducible exact on_eqN) | (with_reducible exact on_neN) | (with_reducible exact on_eqI) | (with_reducible exact on_neI) | (with_reducible exact on_eqS) | (with_reducible exact on_neS) | (with_reducible exact on_nilNe) | (with_reducible exact on_nilEq)) ?_)) | ((with_reducible show On (dIsi _ _) _); (with_reducible refine e_on (by with_unfolding_all first | (show _ = some (D.bl true); exact rfl) | (show _ = some (D.bl false); exact rfl)) ?_)) | ((with_reducible show On (dIs _ _ _ _) _); (with_reducible refine e_on (by with_unfolding_all first | (show _ = some (D.bl true); exact rfl) | (show _ = some (D.bl false); exact rfl)) ?_)) | ((with_reducible show On (dAll _ _) _); (with_reducible refine e_on (by with_unfolding_all first | exact on_all) ?_)) | ((with_reducible show On (dAny _ _) _); (with_reducible refine e_on (by with_unfolding_all first | exact on_any) ?_)) | ((with_reducible show On (dMul _ _ _) _); (with_reducible refine e_on (by with_unfolding_all first | exact on_mul (by decide)) ?_)) | ((with_reducible show On (dMod _ _ _) _); (with_reducible refine e_on (by with_unfolding_all first | exact on_mod (by decide)) ?_)) | ((with_reducible show On (dFdiv _ _ _) _); (with_reducible refine e_on (by with_unfolding_all first | exact on_fdiv (by decide) (by decide)) ?_)) | ((with_reducible show On (dMin2 _ _) _); (with_reducible refine e_on (by with_unfolding_all first | (with_reducible exact on_min2N) | exact rfl) ?_)) | ((with_reducible show On (dMax2 _ _) _); (with_reducible refine e_on (by with_unfolding_all first | (with_reducible exact on_max2N) | exact rfl) ?_)) | ((with_reducible show On (dLt _ _ _) _); (with_reducible refine e_on (by with_unfolding_all first | (with_reducible exact on_ltN) | (with_reducible exact on_ltI) | (with_reducible exact on_ltS)) ?_)) | ((with_reducible show On (dLe _ _ _) _); (with_reducible refine e_on (by with_unfolding_all first | (with_reducible exact on_leN) | (with_reducible exact on_leI)) ?_)) | ((with_reducible show On (dGt _ _ _) _); (with_reducible refine e_on (by with_unfolding_all first | (with_reducible exact on_gtN) | (with_reducible exact on_gtI)) ?_)) | ((with_reducible show On (dGe _ _ _) _); (with_reducible refine e_on (by with_unfolding_all first | (with_reducible exact on_geN) | (with_reducible exact on_geI)) ?_)) | ((with_reducible show On (dAdd _ _ _) _); (with_reducible refine e_on (by with_unfolding_all first | (with_reducible exact on_addII) | (with_reducible refine on_addTS ?_; first | omega | (simp only [List.length_cons, List.length_nil, List.length_map, List.length_append, List.length_singleton, List.length_reverse, List.length_take, List.length_drop]; omega)) | (with_reducible refine on_addLS ?_; first | omega | (simp only [List.length_cons, List.length_nil, List.length_map, List.length_append, List.length_singleton, List.length_reverse, List.length_take, List.length_drop]; omega)) | exact on_addTT (by first | omega | (simp only [List.length_cons, List.length_nil, List.length_map, List.length_append, List.length_singleton, List.length_reverse, List.length_take, List.length_drop]; omega)) | exact on_addLL (by first | omega | (simp only [List.length_cons, List.length_nil, List.length_map, List.length_append, List.length_singleton, List.length_reverse, List.length_take, List.length_drop]; omega))) ?_)) | ((with_reducible show On (dIn _ _ _ _) _); (with_reducible refine e_on (by with_unfolding_all first | (with_reducible exact on_inTS) | (with_reducible exact on_ninTS) | (with_reducible exact on_inLS) | (with_reducible exact on_ninLS)) ?_)) | ((with_reducible show On (dSorted _ _) _); (with_reducible refine e_on (by with_unfolding_all first | exact on_sortLS (by first | omega | (simp only [List.length_cons, List.length_nil, List.length_map, List.length_append, List.length_singleton, List.length_reverse, List.length_take, List.length_drop]; omega)) | exact on_sortTS (by first | omega | (simp only [List.length_cons, List.length_nil, List.length_map, List.length_append, List.length_singleton, List.length_reverse, List.length_take, List.length_drop]; omega))) ?_)) | ((with_reducible show On (dLenSet _ _) _); (with_reducible refine e_on (by with_unfolding_all first | exact on_lenSet (by first | omega | (simp only [List.length_cons, List.length_nil, List.length_map, List.length_append, List.length_singleton, List.length_reverse, List.length_take, List.length_drop]; omega)) | exact on_lenSetT (by first | omega | (simp only [List.length_cons, List.length_nil, List.length_map, List.length_append, List.length_singleton, List.length_reverse, List.length_take, List.length_drop]; omega))) ?_)) | ((with_reducible show On (dSub _ _ _) _); (with_reducible refine e_on (by with_unfolding_all first | (with_reducible exact on_subII)) ?_)) | ((with_reducible show On (dSlice _ _ _ _) _); (with_reducible refine e_on (by with_unfolding_all first | (with_reducible exact on_sliceTm) | (with_reducible exact on_sliceLm) | exact on_sliceT | exact on_sliceL) ?_)) | ((with_reducible show On (dRepL _ _ _) _); (with_reducible refine e_on (by with_unfolding_all first | (with_reducible exact on_rep4) | exact on_repLL ⟨by decide, by decide, by first | omega | (simp only [List.length_cons, List.length_nil, List.length_map, List.length_append, List.length_singleton, List.length_reverse, List.length_take, List.length_drop]; omega)⟩) ?_)) | ((with_reducible show On (dRepT _ _ _) _); (with_reducible refine e_on (by with_unfolding_all first | (with_reducible refine on_repT2m ?_; first | omega | (simp only [List.length_cons, List.length_nil, List.length_map, List.length_append, List.length_singleton, List.length_reverse, List.length_take, List.length_drop]; omega)) | exact on_repT2 (by first | omega | (simp only [List.length_cons, List.length_nil, List.length_map, List.length_append, List.length_singleton, List.length_reverse, List.length_take, List.length_drop]; omega))) ?_)) | ((with_reducible show On (dRevT _ _) _); (with_reducible refine e_on (by with_unfolding_all first | (with_reducible exact on_revTm) | exact rfl) ?_)) | ((with_reducible show On (dNeg _ _) _); (with_reducible refine e_on (by with_unfolding_all first | exact rfl) ?_)) | ((with_reducible show On (dInt1 _ _) _); (with_reducible refine e_on (by with_unfolding_all first | exact rfl) ?_)) | ((with_reducible show On (dAbs _ _) _); (with_reducible refine e_on (by with_unfolding_all first | exact rfl) ?_)) | ((with_reducible show On (dPow _ _ _) _); (with_reducible refine e_on (by with_unfolding_all first | exact rfl) ?_)) | ((with_reducible show On (walkOf _) _); (with_reducible refine e_on (by with_unfolding_all first | exact rfl) ?_)) | ((with_reducible show On (gN _ _ _) _); (with_reducible refine e_on (by with_unfolding_all first | exact rfl) ?_)) | ((with_reducible show On (g2 _ _ _ _) _); (with_reducible refine e_on (by with_unfolding_all first | exact rfl) ?_))))
/-! B2: splits, what is drawn, what a split does to a block -/
theorem sp_shared (ss : List S) (mu : Mu) (Q : S → Mu → Prop) (h : two (fun xs ys => tS (keepS xs ys)) ss mu Q) : wDef 2 3 w_shared ss mu Q := by
  obtain ⟨xs, ys, rfl, h1, h2, q⟩ := h
  refine ⟨rfl, ?_⟩
  unfold w_shared
  repeat walk_at "go"
  refine comp_if (mk := D.str) (fun z => decide (z ∈ ys)) D.str (fun z => [some (.d (tS xs)), some (.d (tS ys)), some (.d (.str z))]) xs (fun _ _ => rfl) (fun z _ P p => by (repeat walk_at "go"); exact p) (fun z _ _ P p => by (repeat walk_at "go"); exact p) (by omega) ?_
  repeat walk_at "go"
  exact retD_d q
theorem keep_len (xs ys : List Str) : (keepS xs ys).length ≤ xs.length := List.length_filter_le _ _
def restW : WF := fun ss mu Q => ∃ h g s, ss = [.d (tS h), .d (.tup [tS g, tS s])] ∧ h.length < 30 ∧ g.length < 30 ∧ s.length < 30 ∧ Q (.d (tS (lessS (lessS h g) s))) mu
theorem sp_rest_of (ss : List S) (mu : Mu) (Q : S → Mu → Prop) (h : restW ss mu Q) : wDef 2 4 (w_rest_of (two fun xs ys => tS (lessS xs ys))) ss mu Q := by
  obtain ⟨h, g, s, rfl, h1, h2, h3, q⟩ := h
  refine ⟨rfl, ?_⟩
  unfold w_rest_of
  repeat walk_at "go"
  refine ⟨h, g, rfl, h1, h2, ?_⟩
  repeat walk_at "go"
  have l := less_len h g
  refine ⟨lessS h g, s, rfl, by omega, h3, ?_⟩
  exact retD_d q
def otherW : WF := fun ss mu Q => ∃ h g s, ss = [.d (tS h), .d (.tup [tS g, tS s])] ∧ h.length < 30 ∧ g.length < 30 ∧ s.length < 30 ∧ Q (.d (.tup [tS g, tS (lessS (lessS h g) s)])) mu
theorem sp_other_side (ss : List S) (mu : Mu) (Q : S → Mu → Prop) (h : otherW ss mu Q) : wDef 2 2 (w_other_side restW) ss mu Q := by
  obtain ⟨h, g, s, rfl, h1, h2, h3, q⟩ := h
  refine ⟨rfl, ?_⟩
  unfold w_other_side
  repeat walk_at "go"
  refine ⟨h, g, s, rfl, h1, h2, h3, ?_⟩
  repeat walk_at "go"
  exact retD_d q
def lheadW : WF := fun ss mu Q => ∃ k least most, ss = [.h k, .d (.int least), .d (.int most)] ∧ 0 ≤ least ∧ least ≤ most ∧ most ≤ 8 ∧ Src mu k ∧ ∀ (hs : List Str) mu', Asc hs → (∀ z ∈ hs, z ∈ names8) → least ≤ (hs.length : Nat) → hs.length ≤ 8 → Gone mu k mu' → Q (.d (tS hs)) mu'
theorem sp_law_heading (ss : List S) (mu : Mu) (Q : S → Mu → Prop) (h : lheadW ss mu Q) : wDef 3 3 (w_law_heading namesW pickW) ss mu Q := by
  obtain ⟨k, least, most, rfl, h0, h1, h2, hs, q⟩ := h
  refine ⟨rfl, ?_⟩
  unfold w_law_heading
  repeat walk_at "go"
  refine ⟨k, _, rfl, hs, by omega, fun r mu1 r0 r1 g1 => ?_⟩
  repeat walk_at "go"
  refine ⟨k, _, rfl, by omega, g1.src, fun zs mu2 nd sub len g2 => ?_⟩
  have l8 : zs.length ≤ 8 := by omega
  repeat walk_at "go"
  refine retD_gone (g1.trans g2) (q _ mu2 (asc_sort nd) (fun z hz => sub z (sortS_mem.mp hz)) ?_ (by rw [sortS_length]; exact l8) (g1.trans g2))
  rw [sortS_length]
  omega
/-- a drawn split of a heading -/
structure Sp (h g s : List Str) : Prop where
  ag : Asc g
  as : Asc s
  gh : ∀ z ∈ g, z ∈ h
  sh : ∀ z ∈ s, z ∈ h
  dis : ∀ z ∈ g, z ∉ s
  ne : s ≠ []
  few : g.length + s.length < h.length
theorem cutD_mid {α : Type} (xs : List α) {n m : Nat} (h : n ≤ xs.length) (h2 : m ≤ xs.length) : cutD xs (some (n : Int)) (some (m : Int)) = (xs.drop n).take (m - n) := by
  unfold cutD HT.sIx
  dsimp only
  rw [if_neg (by omega), if_neg (by omega), Int.toNat_natCast, Int.toNat_natCast, Nat.min_eq_left h, Nat.min_eq_left h2]
def dsplitW : WF := fun ss mu Q => ∃ k h, ss = [.h k, .d (tS h)] ∧ h.Nodup ∧ 2 ≤ h.length ∧ h.length ≤ 8 ∧ Src mu k ∧ ∀ g s mu', Sp h g s → Gone mu k mu' → Q (.d (.tup [tS g, tS s])) mu'
theorem sp_draw_split (ss : List S) (mu : Mu) (Q : S → Mu → Prop) (h : dsplitW ss mu Q) : wDef 2 5 (w_law_draw_split pickW anyW) ss mu Q := by
  obtain ⟨k, h, rfl, nd, l2, l8, hs, q⟩ := h
  refine ⟨rfl, ?_⟩
  unfold w_law_draw_split
  repeat walk_at "go"
  refine ⟨k, _, dS h, rfl, rfl, hs, by rw [List.length_map]; omega, fun ys mu1 pm g1 => ?_⟩
  obtain ⟨zs, pz, rfl⟩ := perm_dS pm
  have lz : zs.length = h.length := pz.length_eq
  have nz : zs.Nodup := pz.nodup_iff.mpr nd
  repeat walk_at "go"
  refine ⟨k, _, rfl, g1.src, by omega, fun r mu2 r0 r1 g2 => ?_⟩
  obtain ⟨n, rfl⟩ : ∃ n : Nat, r = (n : Int) := ⟨r.toNat, by omega⟩
  repeat walk_at "go"
  refine ⟨k, _, rfl, g2.src, by omega, fun r3 mu3 r30 r31 g3 => ?_⟩
  obtain ⟨j, rfl⟩ : ∃ n : Nat, r3 = (n : Int) := ⟨r3.toNat, by omega⟩
  repeat walk_at "go"
  rw [show ((n : Int) + 1 + (j : Int)) = ((n + 1 + j : Nat) : Int) by omega]
  rw [cutD_to _ (by omega), Int.toNat_natCast]
  repeat walk_at "go"
  rw [cutD_mid _ (by omega) (by omega)]
  repeat walk_at "go"
  have gg := (g1.trans g2).trans g3
  refine retD_gone gg (q _ _ mu3 ?_ gg)
  have s1 : (zs.take n).Sublist zs := List.take_sublist _ _
  have s2 : ((zs.drop n).take (n + 1 + j - n)).Sublist zs := (List.take_sublist _ _).trans (List.drop_sublist _ _)
  have dj : ∀ z ∈ zs.take n, z ∉ (zs.drop n).take (n + 1 + j - n) := fun z h1 h2 => by
    have : (zs.take n ++ zs.drop n).Nodup := by rw [List.take_append_drop]; exact nz
    exact (List.nodup_append.mp this).2.2 z h1 z (List.mem_of_mem_take h2) rfl
  have lt : ((zs.drop n).take (n + 1 + j - n)).length = j + 1 := by
    rw [List.length_take, List.length_drop]
    omega
  refine ⟨asc_sort (nz.sublist s1), asc_sort (nz.sublist s2), fun z hz => pz.mem_iff.mp (s1.subset (sortS_mem.mp hz)), fun z hz => pz.mem_iff.mp (s2.subset (sortS_mem.mp hz)), fun z h1 h2 => dj z (sortS_mem.mp h1) (sortS_mem.mp h2), fun e => ?_, ?_⟩
  · have := congrArg List.length e
    rw [sortS_length, lt] at this
    cases this
  · rw [sortS_length, sortS_length, lt, List.length_take]
    omega

def fallS (e : Spl) (b : List Str) : List (List Str) := if cutB e b = true then [keepS b e.2, lessS b e.2] else [b]
def spD (e : Spl) : D := .tup [tS e.1, tS e.2]
def fallenW : WF := fun ss mu Q => ∃ b e, ss = [.d (tS b), .d (spD e)] ∧ b.length < 30 ∧ e.1.length < 30 ∧ e.2.length < 30 ∧ (∀ z ∈ b, PyData.strOk z = true) ∧ Q (.d (.lst ((fallS e b).map tS))) mu
theorem sp_fallen (ss : List S) (mu : Mu) (Q : S → Mu → Prop) (h : fallenW ss mu Q) : wDef 2 6 (w_fallen (two fun xs ys => tS (lessS xs ys)) (two fun xs ys => tS (keepS xs ys))) ss mu Q := by
  obtain ⟨b, e, rfl, h1, h2, h3, ok, q⟩ := h
  refine ⟨rfl, ?_⟩
  unfold w_fallen spD
  repeat walk_at "go"
  refine ⟨b, e.2, rfl, h1, h3, ?_⟩
  repeat walk_at "go"
  refine ⟨b, e.2, rfl, h1, h3, ?_⟩
  repeat walk_at "go"
  refine ⟨b, e.1, rfl, h1, h2, ?_⟩
  repeat walk_at "go"
  have o1 : ∀ s, ∀ z ∈ keepS b s, PyData.strOk z = true := fun s z hz => ok z (keep_mem.mp hz).1
  have o2 : ∀ s, ∀ z ∈ lessS b s, PyData.strOk z = true := fun s z hz => ok z (less_mem.mp hz).1
  unfold fallS cutB at q
  with_reducible refine e_on (on_neT0 (o1 _)) ?_
  cases c1 : (keepS b e.1).isEmpty with
  | false =>
    rw [c1] at q
    repeat walk_at "go"
    exact retD_d q
  | true =>
    repeat walk_at "go"
    with_reducible refine e_on (on_eqT0 (o1 _)) ?_
    cases c2 : (keepS b e.2).isEmpty with
    | true =>
      rw [c1, c2] at q
      repeat walk_at "go"
      exact retD_d q
    | false =>
      repeat walk_at "go"
      with_reducible refine e_on (on_eqT0 (o2 _)) ?_
      cases c3 : (lessS b e.2).isEmpty with
      | true =>
        rw [c1, c2, c3] at q
        repeat walk_at "go"
        exact retD_d q
      | false =>
        rw [c1, c2, c3] at q
        repeat walk_at "go"
        exact retD_d q
end Law
set_option Elab.async false
set_option linter.all false
set_option maxRecDepth 100000
set_option maxHeartbeats 4000000
namespace Law
open PySem PySem.Spec L2 DL
local macro_rules | `(tactic| walk_at "go") => `(tactic| (change _; first | ((with_reducible show wCons _ _ _ _ _); (with_reducible refine e_cons ?_)) | ((with_reducible show wVar _ _ _ _); (with_reducible refine e_var (by with_unfolding_all exact rfl) ?_)) | ((with_reducible show wNil _ _ _); (with_reducible refine e_nil ?_)) | ((with_reducible show wC _ _ _ _); (with_reducible refine e_c ?_)) | ((with_reducible show wFn _ _ _ _ _); (with_reducible refine e_fn ?_)) | ((with_reducible show wCall _ _ _ _ _); (with_reducible refine e_call ?_)) | ((with_reducible show wBin _ _ _ _ _ _); (with_reducible refine e_bin ?_)) | ((with_reducible show wUn _ _ _ _ _); (with_reducible refine e_un ?_)) | ((with_reducible show wSeq (wSet _ _) _ _ _ _); (with_reducible refine e_sset ?_)) | ((with_reducible show wSeq (wIf _ _ wSkip) _ _ _ _); (with_reducible refine e_sif ?_)) | ((with_reducible show wSeq (wDrop _) _ _ _ _); (with_reducible refine e_sdrop ?_)) | ((with_reducible show wSeq (wDput _ _ _) _ _ _ _); (with_reducible refine e_sput ?_)) | ((with_reducible show wSeq (wFor _ _ _) _ _ _ _); (with_reducible refine e_sfor ?_)) | ((with_reducible show wSeq (wForL _ _ _) _ _ _ _); (with_reducible refine e_sforL ?_)) | ((with_reducible show wSeq (wAsg _ _) _ _ _ _); (with_reducible refine e_sasg ?_)) | ((with_reducible show wSeq (wPar _ _ _) _ _ _ _); (with_reducible refine e_spar ?_)) | ((with_reducible show wSeq (wWhile _ _) _ _ _ _); (with_reducible refine e_swhile ?_)) | ((with_reducible show wSeq _ _ _ _ _); (with_reducible refine e_seq ?_)) | ((with_reducible show wRet _ _ _ _); (with_reducible refine e_ret ?_)) | ((with_reducible show wDrop _ _ _ _); (with_reducible refine e_drop ?_)) | ((with_reducible show wSet _ _ _ _ _); (with_reducible refine e_set ?_)) | ((with_reducible show wIf _ _ _ _ _ _); (with_reducible refine e_if ?_)) | ((with_reducible show wSkip _ _ _); (with_reducible refine e_skip ?_)) | ((with_reducible show wFor _ _ _ _ _ _); (with_reducible refine e_for ?_)) | ((with_reducible show wForL _ _ _ _ _ _); (with_reducible refine e_forL ?_)) | ((with_reducible show wDput _ _ _ _ _ _); (with_reducible refine e_dput ?_)) | ((with_reducible show wB _ _ _ _); (with_reducible refine e_B ?_)) | ((with_reducible show wNotT _ _ _ _); (with_reducible refine e_not ?_)) | ((with_reducible show wAndT _ _ _ _ _); (with_reducible refine e_and ?_)) | ((with_reducible show wOrT _ _ _ _ _); (with_reducible refine e_or ?_)) | ((with_reducible show wAndV _ _ _ _ _); (with_reducible refine e_andV ?_)) | ((with_reducible show wOrV _ _ _ _ _); (with_reducible refine e_orV ?_)) | ((with_reducible show wNotV _ _ _ _); (with_reducible refine e_notV ?_)) | ((with_reducible show wIfE _ _ _ _ _ _); (with_reducible refine e_ifE ?_)) | ((with_reducible show wYes _ _ _); (with_reducible refine e_yes ?_)) | ((with_reducible show wIter _ _ _ _); (with_reducible refine e_iter ?_)) | ((with_reducible show wRange1 _ _ _ _); (with_reducible refine e_range ?_)) | ((with_reducible show wRange2 _ _ _ _); (with_reducible refine e_range2 ?_)) | ((with_reducible show wComp _ _ _ _ _ _ _ _); (with_reducible refine e_comp ?_)) | ((with_reducible show wCompL _ _ _ _ _ _ _ _); (with_reducible refine e_compL ?_)) | ((with_reducible show wDget _ _ _ _ _); (with_reducible refine e_dget ?_)) | ((with_reducible show wMut _ _ _ _ _ _); (with_reducible refine e_mut ?_)) | ((with_reducible show wPart _ _ _ _); (with_reducible refine e_part ?_)) | ((with_reducible show wNoPart _ _ _); (with_reducible refine e_nopart ?_)) | ((with_reducible show wSlice _ _ _ _ _ _); (with_reducible refine e_slice ?_)) | ((with_reducible show wListM _ _ _ _); (with_reducible refine e_listM ?_)) | ((with_reducible show wRevM _ _ _ _); (with_reducible refine e_revM ?_)) | ((with_reducible show wNewL _ _ _ _); (with_reducible refine e_newL ?_)) | ((with_reducible show wListRg _ _ _ _); (with_reducible refine e_listRg ?_)) | ((with_reducible show wListRgM _ _ _ _); (with_reducible refine e_listRgM ?_)) | ((with_reducible show wEnT _ _ _ _); (with_reducible refine e_enT ?_)) | ((with_reducible show wDictL _ _ _ _); (with_reducible refine e_dictL ?_)) | ((with_reducible show wCompM _ _ _ _ _ _ _ _ _); (with_reducible refine e_compM ?_)) | ((with_reducible show wIxS _ _ _ _ _); (with_reducible refine e_ixS ?_)) | ((with_reducible show wSortHM _ _ _ _); (with_reducible refine e_sortHM ?_)) | ((with_reducible show wChain _ _ _ _ _ _ _ _); (with_reducible refine e_chain ?_)) | ((with_reducible show wChain3 _ _ _ _ _ _ _ _ _ _); (with_reducible refine e_chain3 ?_)) | ((with_reducible show AsB _ _); (with_reducible refine e_asB ?_)) | ((with_reducible show AsI _ _); (with_reducible refine e_asI ?_)) | ((with_reducible show AsD _ _); (with_reducible refine e_asD ?_)) | ((with_reducible show AsBd _ _); (with_reducible refine e_asBd ?_)) | ((with_reducible show As1 _ _); (with_reducible refine e_as1 ?_)) | ((with_reducible show As2 _ _); (with_reducible refine e_as2 ?_)) | ((with_reducible show AsT _ _); (with_reducible refine e_asT ?_)) | ((with_reducible show AsLs _ _); (with_reducible refine e_asLs ?_)) | ((with_reducible show AsR _ _); (with_reducible refine e_asR ?_); first | refine ⟨by decide, ?_⟩ | refine ⟨in62' (by omega), ?_⟩) | ((with_reducible show ite (true = true) _ _); (with_reducible refine e_true ?_)) | ((with_reducible show ite (false = true) _ _); (with_reducible refine e_false ?_)) | ((with_reducible show ite ((!true) = true) _ _); (with_reducible refine e_nt ?_)) | ((with_reducible show ite ((!false) = true) _ _); (with_reducible refine e_nf ?_)) | ((with_reducible show On (dDisp _ _ _) _); (with_reducible refine e_on (by with_unfolding_all first | exact on_dispC (by repeat (first | exact Ds.nil | apply Ds.cons)) rfl) ?_)) | ((with_reducible show On (dIx _ _ _) _); (with_reducible refine e_on (by with_unfolding_all first | (with_reducible exact on_ixT0) | (with_reducible exact on_ixT1) | (with_reducible exact on_ixL0) | exact on_ixT (by assumption) | exact on_ixL (by assumption)) ?_)) | ((with_reducible show On (dLen _ _) _); (with_reducible refine e_on (by with_unfolding_all first | (with_reducible exact on_lenTm) | (with_reducible exact on_lenLm) | exact on_lenT | exact on_lenL) ?_)) | ((with_reducible show On (dTuple _ _) _); (with_reducible refine e_on (by with_unfolding_all first | exact on_tupleT | exact on_tupleL) ?_)) | ((with_reducible show On (dList _ _) _); (with_reducible refine e_on (by with_unfolding_all first | exact on_listT | exact on_listL) ?_)) | ((with_reducible show On (dEq _ _ _ _) _); (with_reducible refine e_on (by with_unfolding_all first | (with_reducible exact on_sameS) | (with_reducible exact on_eqN) | (with_reducible exact on_neN) | (with_reducible exact on_eqI) | (with_reducible exact on_neI) | (with_reducible exact on_eqS) | (with_reducible exact on_neS) | (with_reducible exact on_nilNe) | (with_reducible exact on_nilEq)) ?_)) | ((with_reducible show On (dIsi _ _) _); (with_reducible refine e_on (by with_unfolding_all first | (show _ = some (D.bl true); exact rfl) | (show _ = some (D.bl false); exact rfl)) ?_)) | ((with_reducible show On (dIs _ _ _ _) _); (with_reducible refine e_on (by with_unfolding_all first | (show _ = some (D.bl true); exact rfl) | (show _ = some (D.bl false); exact rfl)) ?_)) | ((with_reducible show On (dAll _ _) _); (with_reducible refine e_on (by with_unfolding_all first | exact on_all) ?_)) | ((with_reducible show On (dAny _ _) _); (with_reducible refine e_on (by with_unfolding_all first | exact on_any) ?_)) | ((with_reducible show On (dMul _ _ _) _); (with_reducible refine e_on (by with_unfolding_all first | exact on_mul (by decide)) ?_)) | ((with_reducible show On (dMod _ _ _) _); (with_reducible refine e_on (by with_unfolding_all first | exact on_mod (by decide)) ?_)) | ((with_reducible show On (dFdiv _ _ _) _); (with_reducible refine e_on (by with_unfolding_all first | exact on_fdiv (by decide) (by decide)) ?_)) | ((with_reducible show On (dMin2 _ _) _); (with_reducible refine e_on (by with_unfolding_all first | (with_reducible exact on_min2N) | exact rfl) ?_)) | ((with_reducible show On (dMax2 _ _) _); (with_reducible refine e_on (by with_unfolding_all first | (with_reducible exact on_max2N) | exact rfl) ?_)) | ((with_reducible show On (dLt _ _ _) _); (with_reducible refine e_on (by with_unfolding_all first | (with_reducible exact on_ltN) | (with_reducible exact on_ltI) | (with_reducible exact on_ltS)) ?_)) | ((with_reducible show On (dLe _ _ _) _); (with_reducible refine e_on (by with_unfolding_all first | (with_reducible exact on_leN) | (with_reducible exact on_leI)) ?_)) | ((with_reducible show On (dGt _ _ _) _); (with_reducible refine e_on (by with_unfolding_all first | (with_reducible exact on_gtN) | (with_reducible exact on_gtI)) ?_)) | ((with_reducible show On (dGe _ _ _) _); (with_reducible refine e_on (by with_unfolding_all first | (with_reducible exact on_geN) | (with_reducible exact on_geI)) ?_)) | ((with_reducible show On (dAdd _ _ _) _); (with_reducible refine e_on (by with_unfolding_all first | (with_reducible exact on_addII) | (with_reducible refine on_addTS ?_; first | omega | (simp only [List.length_cons, List.length_nil, List.length_map, List.length_append, List.length_singleton, List.length_reverse, List.length_take, List.length_drop]; omega)) | (with_reducible refine on_addLS ?_; first | omega | (simp only [List.length_cons, List.length_nil, List.length_map, List.length_append, List.length_singleton, List.length_reverse, List.length_take, List.length_drop]; omega)) | exact on_addTT (by first | omega | (simp only [List.length_cons, List.length_nil, List.length_map, List.length_append, List.length_singleton, List.length_reverse, List.length_take, List.length_drop]; omega)) | exact on_addLL (by first | omega | (simp only [List.length_cons, List.length_nil, List.length_map, List.length_append, List.length_singleton, List.length_reverse, List.length_take, List.length_drop]; omega))) ?_)) | ((with_reducible show On (dIn _ _ _ _) _); (with_reducible refine e_on (by with_unfolding_all first | (with_reducible exact on_inTS) | (with_reducible exact on_ninTS) | (with_reducible exact on_inLS) | (with_reducible exact on_ninLS)) ?_)) | ((with_reducible show On (dSorted _ _) _); (with_reducible refine e_on (by with_unfolding_all first | exact on_sortLS (by first | omega | (simp only [List.length_cons, List.length_nil, List.length_map, List.length_append, List.length_singleton, List.length_reverse, List.length_take, List.length_drop]; omega)) | exact on_sortTS (by first | omega | (simp only [List.length_cons, List.length_nil, List.length_map, List.length_append, List.length_singleton, List.length_reverse, List.length_take, List.length_drop]; omega))) ?_)) | ((with_reducible show On (dLenSet _ _) _); (with_reducible refine e_on (by with_unfolding_all first | exact on_lenSet (by first | omega | (simp only [List.length_cons, List.length_nil, List.length_map, List.length_append, List.length_singleton, List.length_reverse, List.length_take, List.length_drop]; omega)) | exact on_lenSetT (by first | omega | (simp only [List.length_cons, List.length_nil, List.length_map, List.length_append, List.length_singleton, List.length_reverse, List.length_take, List.length_drop]; omega))) ?_)) | ((with_reducible show On (dSub _ _ _) _); (with_reducible refine e_on (by with_unfolding_all first | (with_reducible exact on_subII)) ?_)) | ((with_reducible show On (dSlice _ _ _ _) _); (with_reducible refine e_on (by with_unfolding_all first | (with_reducible exact on_sliceTm) | (with_reducible exact on_sliceLm) | exact on_sliceT | exact on_sliceL) ?_)) | ((with_reducible show On (dRepL _ _ _) _); (with_reducible refine e_on (by with_unfolding_all first | (with_reducible exact on_rep4) | exact on_repLL ⟨by decide, by decide, by first | omega | (simp only [List.length_cons, List.length_nil, List.length_map, List.length_append, List.length_singleton, List.length_reverse, List.length_take, List.length_drop]; omega)⟩) ?_)) | ((with_reducible show On (dRepT _ _ _) _); (with_reducible refine e_on (by with_unfolding_all first | (with_reducible refine on_repT2m ?_; first | omega | (simp only [List.length_cons, List.length_nil, List.length_map, List.length_append, List.length_singleton, List.length_reverse, List.length_take, List.length_drop]; omega)) | exact on_repT2 (by first | omega | (simp only [List.length_cons, List.length_nil, List.length_map, List.length_append, List.length_singleton, List.length_reverse, List.length_take, List.length_drop]; omega))) ?_)) | ((with_reducible show On (dRevT _ _) _); (with_reducible refine e_on (by with_unfolding_all first | (with_reducible exact on_revTm) | exact rfl) ?_)) | ((with_reducible show On (dNeg _ _) _); (with_reducible refine e_on (by with_unfolding_all first | exact rfl) ?_)) | ((with_reducible show On (dInt1 _ _) _); (with_reducible refine e_on (by with_unfolding_all first | exact rfl) ?_)) | ((with_reducible show On (dAbs _ _) _); (with_reducible refine e_on (by with_unfolding_all first | exact rfl) ?_)) | ((with_reducible show On (dPow _ _ _) _); (with_reducible refine e_on (by with_unfolding_all first | exact rfl) ?_)) | ((with_reducible show On (walkOf _) _); (with_reducible refine e_on (by with_unfolding_all first | exact rfl) ?_)) | ((with_reducible show On (gN _ _ _) _); (with_reducible refine e_on (by with_unfolding_all first | exact rfl) ?_)) | ((with_reducible show On (g2 _ _ _ _) _); (with_reducible refine e_on (by with_unfolding_all first | exact rfl) ?_))))
/-! B3: the program's blocks -/
theorem comp2O_step {g : WG} {fi1 : WI} {g1 : WG} {te : WE} {vs1 : List Nat} {sl0 sl1 : Sl} {Q : S → Mu → Prop} {mu : Mu} {d : D} {ds acc : List D} (e : g d sl0 = some sl1)
    (q : fi1 sl1 mu fun ds1 mu2 => wComp2I g1 wYes te (wipeD sl1 vs1) (fun acc' mu' => wComp2O g wYes fi1 g1 wYes te vs1 sl0 Q ds acc' mu') ds1 acc mu2) : wComp2O g wYes fi1 g1 wYes te vs1 sl0 Q (d :: ds) acc mu := by
  unfold wComp2O
  rw [e]
  exact q
/-- what two fors make, if nothing changes -/
theorem comp2I_pure {g1 : WG} {te : WE} {sl1 : Sl} {F : List D → Mu → Prop} {mu : Mu} : ∀ (ys : List D) (acc : List D), (∀ y ∈ ys, ∀ P : S → Mu → Prop, P (.d y) mu → On (g1 y sl1) fun sl3 => te sl3 mu P) →
    acc.length + ys.length ≤ sizeLine → F (acc ++ ys) mu → wComp2I g1 wYes te sl1 F ys acc mu
  | [], acc, _, _, q => by
    rw [List.append_nil] at q
    exact q
  | y :: ys, acc, h, l, q => by
    rw [List.length_cons] at l
    obtain ⟨sl3, e3, q3⟩ := On.elim (h y (List.mem_cons_self ..) (fun s mu2 => match s with
      | .d z => acc.length < sizeLine ∧ wComp2I g1 wYes te sl1 F ys (acc ++ [z]) mu2
      | .h _ => False) ⟨by omega, comp2I_pure ys (acc ++ [y]) (fun y hy => h y (List.mem_cons_of_mem _ hy)) (by rw [List.length_append, List.length_singleton]; omega) (by rw [List.append_assoc]; exact q)⟩)
    unfold wComp2I
    rw [e3]
    exact q3
theorem comp2_pure {α : Type} {mk : α → D} {g : WG} {fi1 : WI} {g1 : WG} {te : WE} {vs1 : List Nat} {sl0 : Sl} {Q : S → Mu → Prop} {mu : Mu} (f : α → List D) (slx : α → Sl) : ∀ (xs : List α) (acc : List D), (∀ x ∈ xs, g (mk x) sl0 = some (slx x)) →
    (∀ x ∈ xs, ∀ P : List D → Mu → Prop, P (f x) mu → fi1 (slx x) mu P) →
    (∀ x ∈ xs, ∀ y ∈ f x, ∀ P : S → Mu → Prop, P (.d y) mu → On (g1 y (wipeD (slx x) vs1)) fun sl3 => te sl3 mu P) →
    acc.length + (xs.flatMap f).length ≤ sizeLine → Q (.d (.lst (acc ++ xs.flatMap f))) mu → wComp2O g wYes fi1 g1 wYes te vs1 sl0 Q (xs.map mk) acc mu
  | [], acc, _, _, _, _, q => by
    rw [List.flatMap_nil, List.append_nil] at q
    exact q
  | x :: xs, acc, h1, h2, h3, l, q => by
    rw [List.flatMap_cons, List.length_append] at l
    rw [List.map_cons]
    refine comp2O_step (h1 x (List.mem_cons_self ..)) ?_
    refine h2 x (List.mem_cons_self ..) _ (comp2I_pure _ _ (h3 x (List.mem_cons_self ..)) (by omega) ?_)
    refine comp2_pure f slx xs _ (fun x hx => h1 x (List.mem_cons_of_mem _ hx)) (fun x hx => h2 x (List.mem_cons_of_mem _ hx)) (fun x hx => h3 x (List.mem_cons_of_mem _ hx)) (by rw [List.length_append]; omega) ?_
    rw [List.append_assoc, ← List.flatMap_cons]
    exact q
theorem e_comp2 {fi fi1 : WI} {g g1 : WG} {tt tt1 : WT} {te : WE} {vs vs1 : List Nat} {sl : Sl} {mu : Mu} {Q : S → Mu → Prop} (q : fi sl mu fun ds mu1 => wComp2O g tt fi1 g1 tt1 te vs1 (wipeD sl vs) Q ds [] mu1) : wComp2 fi g tt fi1 g1 tt1 te vs vs1 sl mu Q := q
/-! one turn -/
def oneS (R : List (List Str)) (e : Spl) : List (List Str) := R.flatMap (fallS e)
def turnS (R : List (List Str)) (es : List Spl) : List (List Str) := es.foldl oneS R
theorem fall_len (e : Spl) (b : List Str) : 1 ≤ (fallS e b).length := by
  unfold fallS
  split
  · exact Nat.le_succ 1
  · exact Nat.le_refl 1
theorem one_len (e : Spl) : ∀ R : List (List Str), R.length ≤ (oneS R e).length ∧ ((oneS R e).length = R.length → oneS R e = R ∧ ∀ b ∈ R, cutB e b = false)
  | [] => ⟨Nat.le_refl _, fun _ => ⟨rfl, fun b hb => by cases hb⟩⟩
  | b :: R => by
    obtain ⟨l, f⟩ := one_len e R
    have c : oneS (b :: R) e = fallS e b ++ oneS R e := List.flatMap_cons
    have l1 := fall_len e b
    rw [c, List.length_append, List.length_cons]
    refine ⟨by omega, fun h => ?_⟩
    obtain ⟨f1, f2⟩ := f (by omega)
    have n : cutB e b = false := by
      cases w : cutB e b with
      | false => rfl
      | true =>
        have : fallS e b = [keepS b e.2, lessS b e.2] := if_pos w
        rw [this] at h
        have h2 : ([keepS b e.2, lessS b e.2] : List (List Str)).length = 2 := rfl
        omega
    have : fallS e b = [b] := by
      unfold fallS
      rw [n]
      rfl
    rw [this, f1]
    refine ⟨rfl, fun x hx => ?_⟩
    rcases List.mem_cons.mp hx with rfl | hx
    · exact n
    · exact f2 x hx
theorem turn_len : ∀ (es : List Spl) (R : List (List Str)), R.length ≤ (turnS R es).length ∧ ((turnS R es).length = R.length → turnS R es = R ∧ ∀ e ∈ es, ∀ b ∈ R, cutB e b = false)
  | [], R => ⟨Nat.le_refl _, fun _ => ⟨rfl, fun e he => by cases he⟩⟩
  | e :: es, R => by
    obtain ⟨l1, f1⟩ := one_len e R
    obtain ⟨l2, f2⟩ := turn_len es (oneS R e)
    have c : turnS R (e :: es) = turnS (oneS R e) es := rfl
    rw [c]
    refine ⟨by omega, fun h => ?_⟩
    obtain ⟨a1, a2⟩ := f1 (by omega)
    obtain ⟨b1, b2⟩ := f2 (by omega)
    rw [b1, a1]
    refine ⟨rfl, fun x hx => ?_⟩
    rcases List.mem_cons.mp hx with rfl | hx
    · exact a2
    · rw [a1] at b2
      exact b2 x hx
/-- blocks on their way -/
def Way (T : Spl → Prop) (cols : List Str) (R : List (List Str)) : Prop := (cols = [] ∧ R = []) ∨ (cols ≠ [] ∧ Der T cols R)
theorem der_one {T : Spl → Prop} {cols : List Str} {e : Spl} (he : T e) : ∀ (R X : List (List Str)), Der T cols (R ++ X) → Der T cols (oneS R e ++ X)
  | [], X, h => h
  | b :: R, X, h => by
    have c : oneS (b :: R) e = fallS e b ++ oneS R e := List.flatMap_cons
    rw [c]
    unfold fallS
    split
    · rename_i w
      have d := Der.cut h he w
      have d2 := der_one he R (keepS b e.2 :: lessS b e.2 :: X) (d.perm ((List.perm_append_comm (l₁ := [keepS b e.2, lessS b e.2]) (l₂ := R)).append_right X |>.trans (by rw [List.append_assoc]; exact .refl _)))
      refine d2.perm ?_
      rw [List.append_assoc]
      have := (List.perm_append_comm (l₁ := oneS R e) (l₂ := [keepS b e.2, lessS b e.2])).append_right X
      rw [List.append_assoc, List.append_assoc] at this
      exact this
    · have d2 := der_one he R (b :: X) (h.perm (List.perm_middle.symm))
      exact d2.perm List.perm_middle
theorem Way.one {T : Spl → Prop} {cols : List Str} {R : List (List Str)} (h : Way T cols R) {e : Spl} (he : T e) : Way T cols (oneS R e) := by
  rcases h with ⟨h1, rfl⟩ | ⟨h1, h2⟩
  · exact .inl ⟨h1, rfl⟩
  · have := der_one he R [] (by rw [List.append_nil]; exact h2)
    rw [List.append_nil] at this
    exact .inr ⟨h1, this⟩
theorem Way.turn {T : Spl → Prop} {cols : List Str} : ∀ {es : List Spl} {R : List (List Str)}, Way T cols R → (∀ e ∈ es, T e) → Way T cols (turnS R es)
  | [], _, h, _ => h
  | e :: es, R, h, he => Way.turn (es := es) (R := oneS R e) (h.one (he e (List.mem_cons_self ..))) fun x hx => he x (List.mem_cons_of_mem _ hx)
theorem Way.len {T : Spl → Prop} {cols : List Str} {R : List (List Str)} (h : Way T cols R) : R.length ≤ cols.length := by
  rcases h with ⟨h1, rfl⟩ | ⟨h1, h2⟩
  · exact Nat.zero_le _
  · exact h2.len
theorem Way.mem {T : Spl → Prop} {cols : List Str} {R : List (List Str)} (h : Way T cols R) {b : List Str} (hb : b ∈ R) : ∀ z ∈ b, z ∈ cols := by
  rcases h with ⟨h1, rfl⟩ | ⟨h1, h2⟩
  · cases hb
  · exact h2.mem hb
theorem Way.blen {T : Spl → Prop} {cols : List Str} {R : List (List Str)} (h : Way T cols R) {b : List Str} (hb : b ∈ R) : b.length ≤ cols.length := by
  rcases h with ⟨h1, rfl⟩ | ⟨h1, h2⟩
  · cases hb
  · obtain ⟨p, rfl⟩ := h2.sub b hb
    exact List.length_filter_le _ _
/-- what the program's blocks are -/
structure End (T : Spl → Prop) (cols : List Str) (R : List (List Str)) : Prop where
  way : Way T cols R
  stb : ∀ b ∈ R, Stb T b
def blocksW : WF := fun ss mu Q => ∃ (h : List Str) (es : List Spl) (t : D) (given : List Str), ss = [.d (tS h), .d t, .d (tS given)] ∧ (t = .lst (es.map spD) ∨ t = .tup (es.map spD)) ∧ h.length < 30 ∧ es.length < 30 ∧ given.length < 30 ∧ (∀ z ∈ h, PyData.strOk z = true) ∧ (∀ e ∈ es, e.1.length < 30 ∧ e.2.length < 30) ∧
  ∀ R, End (fun e => e ∈ es) (lessS h given) R → Q (.h mu.length) (mu ++ [some (.lst ((sortH R).map headT))])
abbrev blkT : WS := (wSeq (wSet 5 (wCall dLen (wCons (wVar 4) wNil))) (wSeq (wFor (wIter (wVar 1)) (gN 6) (wSet 4 (wComp2 (wIter (wVar 4)) (gN 7) wYes (wIter (wFn fallenW (wCons (wVar 7) (wCons (wVar 6) wNil)))) (gN 8) wYes (wVar 8) [7, 8] [8]))) (wIf (wB (wBin (dEq false) (wCall dLen (wCons (wVar 4) wNil)) (wVar 5))) (wRet (wSortHM (wCons (wVar 4) wNil))) wSkip)))
theorem blocks_loop {h cols given : List Str} {es : List Spl} {t : D} {mu : Mu} (ht : t = .lst (es.map spD) ∨ t = .tup (es.map spD)) (h1 : cols.length < 30) (h2 : es.length < 30) (ok : ∀ z ∈ cols, PyData.strOk z = true) (eok : ∀ e ∈ es, e.1.length < 30 ∧ e.2.length < 30) :
    ∀ (n : Nat) (R : List (List Str)) (a b c d : Option S) (E : DEnds), cols.length - R.length < n → Way (fun e => e ∈ es) cols R → (∀ R, End (fun e => e ∈ es) cols R → E.rt (.h mu.length) (mu ++ [some (.lst ((sortH R).map headT))])) →
      wWhileN (wB (wC (.bl true))) blkT E n [some (.d (tS h)), some (.d t), some (.d (tS given)), some (.d (tS cols)), some (.d (.lst (R.map tS))), a, b, c, d] mu := by
  intro n
  induction n with
  | zero => exact fun R a b c d E l => absurd l (Nat.not_lt_zero _)
  | succ n ih =>
    intro R a b c d E l w qE
    have lr := w.len
    unfold wWhileN
    repeat walk_at "go"
    have wt : walkOf t = some (es.map spD) := by
      rcases ht with rfl | rfl
      · rfl
      · rfl
    with_reducible refine e_on wt ?_
    refine for_inv (fun i sl mu1 => mu1 = mu ∧ ∃ a, sl = [some (.d (tS h)), some (.d t), some (.d (tS given)), some (.d (tS cols)), some (.d (.lst ((turnS R (es.take i)).map tS))), some (.d (.int (R.length : Nat))), a, c, d]) _ 0 _ mu ⟨rfl, b, rfl⟩ ?_ ?_
    · intro i x sl mu1 hx ⟨em, a, esl⟩ C hC
      subst em
      subst esl
      rw [Nat.zero_add] at hC
      rw [Nat.zero_add]
      obtain ⟨e, he, rfl⟩ : ∃ e, es[i]? = some e ∧ spD e = x := by
        rw [List.getElem?_map, Option.map_eq_some_iff] at hx
        exact hx
      have me := List.mem_of_getElem? he
      obtain ⟨l1, l2⟩ := eok e me
      have tk : es.take (i + 1) = es.take i ++ [e] := by rw [List.take_succ, he]; rfl
      have eT : turnS R (es.take (i + 1)) = oneS (turnS R (es.take i)) e := by
        unfold turnS
        rw [tk, List.foldl_append]
        rfl
      have wi : Way (fun e => e ∈ es) cols (turnS R (es.take i)) := w.turn fun x hx => List.mem_of_mem_take hx
      have wi2 := (wi.one me).len
      repeat walk_at "go"
      refine e_comp2 ?_
      repeat walk_at "go"
      refine comp2_pure (mk := tS) (fun b => (fallS e b).map tS) (fun b => [some (.d (tS h)), some (.d t), some (.d (tS given)), some (.d (tS cols)), some (.d (.lst ((turnS R (es.take i)).map tS))), some (.d (.int (R.length : Nat))), some (.d (spD e)), some (.d (tS b)), none]) (turnS R (es.take i)) [] (fun _ _ => rfl) (fun b hb P p => ?_) (fun b hb y hy P p => ?_) ?_ ?_
      · repeat walk_at "go"
        refine ⟨b, e, rfl, ?_, l1, l2, fun z hz => ok z (wi.mem hb z hz), ?_⟩
        · have := wi.blen hb
          omega
        · repeat walk_at "go"
          exact p
      · repeat walk_at "go"
        exact p
      · rw [← List.map_flatMap, List.length_map, sizeLine_eq, List.length_nil]
        have : (List.flatMap (fallS e) (turnS R (es.take i))).length ≤ cols.length := wi2
        omega
      · rw [← List.map_flatMap, List.nil_append]
        refine hC _ _ ⟨rfl, some (.d (spD e)), ?_⟩
        rw [eT]
        rfl
    · intro sl mu1 ⟨em, a, esl⟩
      subst em
      subst esl
      rw [Nat.zero_add, List.length_map, List.take_length]
      have wi : Way (fun e => e ∈ es) cols (turnS R es) := w.turn fun x hx => hx
      have wl := wi.len
      obtain ⟨tl, tf⟩ := turn_len es R
      repeat walk_at "go"
      with_reducible refine e_dec (fun c1 => ?_) fun c1 => ?_
      · repeat walk_at "go"
        refine e_on (x := turnS R es) (asHeads_map _) ⟨by omega, ?_⟩
        obtain ⟨f1, f2⟩ := tf (by omega)
        exact qE _ ⟨wi, fun b hb e he => f2 e he b (by rw [← f1]; exact hb)⟩
      · repeat walk_at "go"
        exact ih _ _ _ _ _ _ (by omega) wi qE
theorem sp_blocks (ss : List S) (mu : Mu) (Q : S → Mu → Prop) (h : blocksW ss mu Q) : wDefM 3 9 (w_blocks (two fun xs ys => tS (lessS xs ys)) fallenW) ss mu Q := by
  obtain ⟨h, es, t, given, rfl, ht, h1, h2, h3, ok, eok, q⟩ := h
  refine ⟨rfl, ?_⟩
  unfold w_blocks
  repeat walk_at "go"
  refine ⟨h, given, rfl, h1, h3, ?_⟩
  repeat walk_at "go"
  have okc : ∀ z ∈ lessS h given, PyData.strOk z = true := fun z hz => ok z (less_mem.mp hz).1
  have lc := less_len h given
  with_reducible refine e_on (on_eqT0 okc) ?_
  cases em : (lessS h given).isEmpty with
  | true =>
    repeat walk_at "go"
    refine ⟨_, blocks_loop ht (by omega) h2 okc eok _ [] _ _ _ _ _ (Nat.lt_succ_self _) (.inl ⟨List.isEmpty_iff.mp em, rfl⟩) fun R e => ?_⟩
    exact q R e
  | false =>
    repeat walk_at "go"
    have ne : lessS h given ≠ [] := fun w => by rw [w] at em; cases em
    refine ⟨_, blocks_loop ht (by omega) h2 okc eok _ [lessS h given] _ _ _ _ _ (Nat.lt_succ_self _) (.inr ⟨ne, .start ne⟩) fun R e => ?_⟩
    exact q R e
end Law
set_option Elab.async false
set_option linter.all false
set_option maxRecDepth 100000
set_option maxHeartbeats 1000000
namespace Law
open PySem PySem.Spec L2 DL
theorem rdQ_h {f : Nat} {ds : List D} {mu : Mu} (h : mu[f]? = some (some (.lst ds))) : rdQ (.h f) mu = some ds := by
  unfold rdQ rdL
  simp only [h]
theorem ix_h {j : Nat} {ds : List D} {mu : Mu} {i : Int} (h : mu[j]? = some (some (.lst ds))) : dIx (.h j) (.d (.int i)) mu = atI ds i := by
  show (rdQ (.h j) mu).bind _ = _
  rw [rdQ_h h]
  rfl
theorem app_at {ds : List D} {d : D} (h : ds.length < 1000000) : gAppend ds [.d d] = some (.non, ds ++ [d]) := if_pos (size_ok h)
theorem in62 {i : Int} (h : -1000 ≤ i ∧ i < 1000000) : inR62 i = true := by
  unfold inR62
  exact decide_eq_true (by omega)
theorem cut_drop {α : Type} (xs : List α) {n : Int} (h : 0 ≤ n) : cutD xs (some n) none = xs.drop n.toNat := by
  unfold cutD HT.sIx
  dsimp only
  rw [if_neg (by omega)]
  rw [List.take_of_length_le (by rw [List.length_drop]; omega)]
  by_cases hl : n.toNat ≤ xs.length
  · rw [Nat.min_eq_left hl]
  · rw [List.drop_eq_nil_of_le (by omega), List.drop_eq_nil_of_le (by omega)]
theorem sl_take {zs : List Str} {n : Int} {mu : Mu} (h : 0 ≤ n) : dSlice (.d (lS zs)) none (some n) mu = some (lS (zs.take n.toNat)) := by
  show some (D.lst (cutD (dS zs) none (some n))) = _
  rw [cut_take _ h]
  simp [dS, lS]
theorem sl_drop {zs : List Str} {n : Int} {mu : Mu} (h : 0 ≤ n) : dSlice (.d (lS zs)) (some n) none mu = some (lS (zs.drop n.toNat)) := by
  show some (D.lst (cutD (dS zs) (some n) none)) = _
  rw [cut_drop _ h]
  simp [dS, lS]
/-! a list of lists of columns beside [] -/
abbrev pyL (f : List Str) : PyData := .list (f.map PyData.str)
theorem pys_lS : ∀ fs : List (List Str), toPys (fs.map lS) = some (fs.map pyL)
  | [] => rfl
  | f :: fs => by
    have ih := pys_lS fs
    simp only [List.map_cons, toPys, toPy, pys_strs, Option.map_some, ih]
theorem lay_lS : ∀ fs : List (List Str), (∀ f ∈ fs, ∀ z ∈ f, z ∈ names8) → PyData.canLayAll0 (fs.map pyL) = true
  | [], _ => rfl
  | f :: fs, h => by
    have e1 : PyData.canLay0 (pyL f) = true := by
      simpa only [PyData.canLay0] using lay_strs f fun z hz => (names_ok (h f (List.mem_cons_self ..) z hz)).2
    have e2 := lay_lS fs fun g hg => h g (List.mem_cons_of_mem _ hg)
    simp only [List.map_cons, PyData.canLayAll0, e1, e2, Bool.and_self]
theorem depth_lS : ∀ fs : List (List Str), PyData.depthAll (fs.map pyL) ≤ 1
  | [] => Nat.zero_le _
  | f :: fs => by
    have ih := depth_lS fs
    show max (PyData.depthAll (f.map PyData.str) + 1) (PyData.depthAll (fs.map pyL)) ≤ 1
    rw [depth_strs]
    omega
theorem ne_nil_h {f : Nat} {fs : List (List Str)} {mu : Mu} (hf : mu[f]? = some (some (.lst (fs.map lS)))) (hn : ∀ f ∈ fs, ∀ z ∈ f, z ∈ names8) : dEq true (.h f) (.d (.lst [])) mu = some (.bl (!decide (fs = []))) := by
  have e1 : pk (.h f) mu = some (.lst (fs.map lS)) := by
    unfold pk
    simp only [hf]
    rfl
  have sh : SeqAt.shaped (.list (fs.map pyL)) = true := by
    unfold SeqAt.shaped
    have d : PyData.depth (.list (fs.map pyL)) ≤ 64 := by
      show PyData.depthAll (fs.map pyL) + 1 ≤ 64
      have := depth_lS fs
      omega
    rw [decide_eq_true d, Bool.and_true]
    simpa only [PyData.canLay0] using lay_lS fs hn
  show (pk (.h f) mu).bind _ = _
  rw [e1]
  show (toPy (.lst (fs.map lS))).bind _ = _
  have e2 : toPy (.lst (fs.map lS)) = some (.list (fs.map pyL)) := by
    simp only [toPy, pys_lS, Option.map_some]
  rw [e2]
  show (if (SeqAt.shaped _ && SeqAt.shaped (.list [])) = true then _ else _) = _
  rw [sh]
  show some (D.bl (!PyData.eqvAll (fs.map pyL) [])) = _
  cases fs with
  | nil => rfl
  | cons f fs => rfl
/-! the end of what draws a web -/
theorem end_web {sl : Sl} {mu : Mu} {k j f : Nat} {fs : List (List Str)} {Q : S → Mu → Prop} (h0 : sl[0]? = some (some (.h k))) (hj : sl[j]? = some (some (.h f))) (hl : sl.length = 9) (src : Src mu k)
    (hf : mu[f]? = some (some (.lst (fs.map lS)))) (ok : ∀ f ∈ fs, Cs f) (few : fs.length < 30) (q : ∀ (gs : List (List Str)) mu', gs.Perm fs → Gone mu k mu' → Q (.d (webD (gs.map sortS))) mu') :
    (wCall dTuple (wCons (wComp (wIter (wFn anyW (wCons (wVar 0) (wCons (wVar j) wNil)))) (gN 8) wYes (wCall dTuple (wCons (wCall dSorted (wCons (wVar 8) wNil)) wNil)) [8]) wNil)) sl mu Q := by
  refine e_call <| e_cons <| e_comp <| e_iter <| e_fn <| e_cons <| e_var h0 <| e_cons <| e_var hj <| e_nil ⟨k, _, fs.map lS, rfl, rdQ_h hf, src, by rw [List.length_map]; omega, fun ys mu1 pm g => e_asD <| e_on (x := ys) rfl ?_⟩
  obtain ⟨gs, p, rfl⟩ := perm_map pm
  have lg := p.length_eq
  refine comp_map (fun _ => true) (fun w => tS (sortS w)) (fun w => (wipeD sl [8]).set 8 (some (.d (lS w)))) gs [] (fun _ _ => rfl) (fun _ _ P p => p) (fun w hw _ P pp => ?_) (few_ok (by omega)) ?_
  · have hw2 := (ok w (p.mem_iff.mp hw)).len
    exact e_call <| e_cons <| e_call <| e_cons <| e_var (List.getElem?_set_self (by rw [wipeD_length]; omega)) <| e_nil <| e_on (on_sorted (by omega)) <| e_nil <| e_on rfl pp
  · refine e_nil <| e_on rfl ?_
    rw [filter_t, List.nil_append]
    have e : (gs.map fun w => tS (sortS w)) = (gs.map sortS).map tS := by
      rw [List.map_map]
      rfl
    rw [e]
    exact q gs mu1 p g
theorem web_sorted {gs fs : List (List Str)} (p : gs.Perm fs) (ok : ∀ f ∈ fs, Cs f) (lo : 1 ≤ fs.length) (hi : fs.length ≤ 7) : WebOk (gs.map sortS) := by
  refine ⟨fun y hy => ?_, by rw [List.length_map, p.length_eq]; exact lo, by rw [List.length_map, p.length_eq]; exact hi⟩
  obtain ⟨w, hw, rfl⟩ := List.mem_map.mp hy
  exact (ok w (p.mem_iff.mp hw)).hd
/-! a drawn web that folds -/
def dfwW : WF := fun ss mu Q => ∃ k zs many, ss = [.h k, .d (lS zs), .d (.int many)] ∧ Cs zs ∧ 1 ≤ many ∧ many ≤ 7 ∧ Src mu k ∧ ∀ ws mu', WebOk ws → Gone mu k mu' → Q (.d (webD ws)) mu'
def FsOk (used : List Str) (fs : List (List Str)) : Prop := ∀ f ∈ fs, f.Nodup ∧ ∀ x ∈ f, x ∈ used
theorem seam_ok {sl : Sl} {mu : Mu} {k f : Nat} {fs : List (List Str)} {used : List Str} {Q : S → Mu → Prop} (h0 : sl[0]? = some (some (.h k))) (h4 : sl[4]? = some (some (.h f))) (src : Src mu k) (kf : ∀ mu', Gone mu k mu' → mu'[f]? = mu[f]?)
    (hf : mu[f]? = some (some (.lst (fs.map lS)))) (ok : FsOk used fs) (hn : ∀ z ∈ used, z ∈ names8) (few : fs.length < 100) (q : ∀ us mu', us.Nodup → (∀ x ∈ us, x ∈ used) → Gone mu k mu' → Q (.d (lS us)) mu') :
    (wIfE (wB (wBin (dEq true) (wVar 4) (wCall (dDisp D.lst) wNil))) (wFn someW (wCons (wVar 0) (wCons (wBin dIx (wVar 4) (wFn pickW (wCons (wVar 0) (wCons (wCall dLen (wCons (wVar 4) wNil)) wNil)))) (wCons (wC (.int 0)) wNil)))) (wCall (dDisp D.lst) wNil)) sl mu Q := by
  refine e_ifE <| e_B <| e_bin <| e_var h4 <| e_call <| e_nil <| e_on (on_disp (ds := []) rfl (by decide)) <| e_on (ne_nil_h hf fun f hf z hz => hn z ((ok f hf).2 z hz)) <| e_asB <| e_ite (fun h => ?_) fun h => ?_
  · have hne : fs ≠ [] := by simpa using h
    have pos : 0 < fs.length := List.length_pos_iff.mpr hne
    refine e_fn <| e_cons <| e_var h0 <| e_cons <| e_bin <| e_var h4 <| e_fn <| e_cons <| e_var h0 <| e_cons <| e_call <| e_cons <| e_var h4 <| e_nil <| e_on (len_h hf) <| e_nil ⟨k, _, rfl, src, by rw [List.length_map]; omega, fun r mu1 r0 r1 g1 => ?_⟩
    rw [List.length_map] at r1
    obtain ⟨x, ex, mx⟩ := at_int (xs := fs.map lS) r0 (by rw [List.length_map]; omega)
    obtain ⟨w, hw, rfl⟩ := List.mem_map.mp mx
    obtain ⟨w1, w2⟩ := ok w hw
    have lw : w.length ≤ 8 := nodup_len (b := names8) w1 fun z hz => hn z (w2 z hz)
    refine e_on (x := lS w) ((ix_h ((kf mu1 g1).trans hf)).trans ex) <| e_cons <| e_c <| e_nil ⟨k, lS w, dS w, 0, rfl, rfl, by decide, g1.src, by rw [List.length_map]; omega, fun ys zs mu2 pm sub _ g2 => ?_⟩
    obtain ⟨us, vs, rfl, p, s2⟩ := sub_dS pm sub
    exact q us mu2 ((p.nodup_iff.mpr w1).sublist s2) (fun x hx => w2 x (p.mem_iff.mp (s2.subset hx))) (g1.trans g2)
  · exact e_call <| e_nil <| e_on (on_disp (ds := []) rfl (by decide)) (q [] mu .nil (fun x hx => by cases hx) src.gone)
theorem top_keeps {mu0 : Mu} {x : Option MO} {k : Nat} (h : Src mu0 k) : ∀ mu', Gone (mu0 ++ [x]) k mu' → mu'[mu0.length]? = (mu0 ++ [x])[mu0.length]? := fun mu' g => by
  obtain ⟨mu1, rfl, g1⟩ := gone_app h g
  have e : mu1.length = mu0.length := g1.1
  rw [List.getElem?_append_right (by omega), List.getElem?_append_right (by omega), e]
theorem four_ok {r : Int} {mu : Mu} (h0 : 0 ≤ r) (h1 : r < 4) : ∃ n : Int, dIx (.d (.lst [.int 1, .int 2, .int 1, .int 0])) (.d (.int r)) mu = some (.int n) ∧ 0 ≤ n ∧ n ≤ 2 := by
  have : r = 0 ∨ r = 1 ∨ r = 2 ∨ r = 3 := by omega
  rcases this with rfl | rfl | rfl | rfl
  · exact ⟨1, rfl, by decide, by decide⟩
  · exact ⟨2, rfl, by decide, by decide⟩
  · exact ⟨1, rfl, by decide, by decide⟩
  · exact ⟨0, rfl, by decide, by decide⟩
end Law
set_option Elab.async false
set_option linter.all false
set_option maxRecDepth 100000
set_option maxHeartbeats 4000000
namespace Law
open PySem PySem.Spec L2 DL
local macro_rules | `(tactic| walk_at "go") => `(tactic| (change _; first | ((with_reducible show wCons _ _ _ _ _); (with_reducible refine e_cons ?_)) | ((with_reducible show wVar _ _ _ _); (with_reducible refine e_var (by with_unfolding_all exact rfl) ?_)) | ((with_reducible show wNil _ _ _); (with_reducible refine e_nil ?_)) | ((with_reducible show wC _ _ _ _); (with_reducible refine e_c ?_)) | ((with_reducible show wFn _ _ _ _ _); (with_reducible refine e_fn ?_)) | ((with_reducible show wCall _ _ _ _ _); (with_reducible refine e_call ?_)) | ((with_reducible show wBin _ _ _ _ _ _); (with_reducible refine e_bin ?_)) | ((with_reducible show wUn _ _ _ _ _); (with_reducible refine e_un ?_)) | ((with_reducible show wSeq (wSet _ _) _ _ _ _); (with_reducible refine e_sset ?_)) | ((with_reducible show wSeq (wIf _ _ wSkip) _ _ _ _); (with_reducible refine e_sif ?_)) | ((with_reducible show wSeq (wDrop _) _ _ _ _); (with_reducible refine e_sdrop ?_)) | ((with_reducible show wSeq (wDput _ _ _) _ _ _ _); (with_reducible refine e_sput ?_)) | ((with_reducible show wSeq (wFor _ _ _) _ _ _ _); (with_reducible refine e_sfor ?_)) | ((with_reducible show wSeq (wForL _ _ _) _ _ _ _); (with_reducible refine e_sforL ?_)) | ((with_reducible show wSeq (wAsg _ _) _ _ _ _); (with_reducible refine e_sasg ?_)) | ((with_reducible show wSeq (wPar _ _ _) _ _ _ _); (with_reducible refine e_spar ?_)) | ((with_reducible show wSeq (wWhile _ _) _ _ _ _); (with_reducible refine e_swhile ?_)) | ((with_reducible show wSeq _ _ _ _ _); (with_reducible refine e_seq ?_)) | ((with_reducible show wRet _ _ _ _); (with_reducible refine e_ret ?_)) | ((with_reducible show wDrop _ _ _ _); (with_reducible refine e_drop ?_)) | ((with_reducible show wSet _ _ _ _ _); (with_reducible refine e_set ?_)) | ((with_reducible show wIf _ _ _ _ _ _); (with_reducible refine e_if ?_)) | ((with_reducible show wSkip _ _ _); (with_reducible refine e_skip ?_)) | ((with_reducible show wFor _ _ _ _ _ _); (with_reducible refine e_for ?_)) | ((with_reducible show wForL _ _ _ _ _ _); (with_reducible refine e_forL ?_)) | ((with_reducible show wDput _ _ _ _ _ _); (with_reducible refine e_dput ?_)) | ((with_reducible show wB _ _ _ _); (with_reducible refine e_B ?_)) | ((with_reducible show wNotT _ _ _ _); (with_reducible refine e_not ?_)) | ((with_reducible show wAndT _ _ _ _ _); (with_reducible refine e_and ?_)) | ((with_reducible show wOrT _ _ _ _ _); (with_reducible refine e_or ?_)) | ((with_reducible show wAndV _ _ _ _ _); (with_reducible refine e_andV ?_)) | ((with_reducible show wOrV _ _ _ _ _); (with_reducible refine e_orV ?_)) | ((with_reducible show wNotV _ _ _ _); (with_reducible refine e_notV ?_)) | ((with_reducible show wIfE _ _ _ _ _ _); (with_reducible refine e_ifE ?_)) | ((with_reducible show wYes _ _ _); (with_reducible refine e_yes ?_)) | ((with_reducible show wIter _ _ _ _); (with_reducible refine e_iter ?_)) | ((with_reducible show wRange1 _ _ _ _); (with_reducible refine e_range ?_)) | ((with_reducible show wRange2 _ _ _ _); (with_reducible refine e_range2 ?_)) | ((with_reducible show wComp _ _ _ _ _ _ _ _); (with_reducible refine e_comp ?_)) | ((with_reducible show wCompL _ _ _ _ _ _ _ _); (with_reducible refine e_compL ?_)) | ((with_reducible show wDget _ _ _ _ _); (with_reducible refine e_dget ?_)) | ((with_reducible show wMut _ _ _ _ _ _); (with_reducible refine e_mut ?_)) | ((with_reducible show wPart _ _ _ _); (with_reducible refine e_part ?_)) | ((with_reducible show wNoPart _ _ _); (with_reducible refine e_nopart ?_)) | ((with_reducible show wSlice _ _ _ _ _ _); (with_reducible refine e_slice ?_)) | ((with_reducible show wListM _ _ _ _); (with_reducible refine e_listM ?_)) | ((with_reducible show wRevM _ _ _ _); (with_reducible refine e_revM ?_)) | ((with_reducible show wNewL _ _ _ _); (with_reducible refine e_newL ?_)) | ((with_reducible show wListRg _ _ _ _); (with_reducible refine e_listRg ?_)) | ((with_reducible show wListRgM _ _ _ _); (with_reducible refine e_listRgM ?_)) | ((with_reducible show wEnT _ _ _ _); (with_reducible refine e_enT ?_)) | ((with_reducible show wDictL _ _ _ _); (with_reducible refine e_dictL ?_)) | ((with_reducible show wCompM _ _ _ _ _ _ _ _ _); (with_reducible refine e_compM ?_)) | ((with_reducible show wIxS _ _ _ _ _); (with_reducible refine e_ixS ?_)) | ((with_reducible show wSortHM _ _ _ _); (with_reducible refine e_sortHM ?_)) | ((with_reducible show wChain _ _ _ _ _ _ _ _); (with_reducible refine e_chain ?_)) | ((with_reducible show wChain3 _ _ _ _ _ _ _ _ _ _); (with_reducible refine e_chain3 ?_)) | ((with_reducible show AsB _ _); (with_reducible refine e_asB ?_)) | ((with_reducible show AsI _ _); (with_reducible refine e_asI ?_)) | ((with_reducible show AsD _ _); (with_reducible refine e_asD ?_)) | ((with_reducible show AsBd _ _); (with_reducible refine e_asBd ?_)) | ((with_reducible show As1 _ _); (with_reducible refine e_as1 ?_)) | ((with_reducible show As2 _ _); (with_reducible refine e_as2 ?_)) | ((with_reducible show AsT _ _); (with_reducible refine e_asT ?_)) | ((with_reducible show AsLs _ _); (with_reducible refine e_asLs ?_)) | ((with_reducible show AsR _ _); (with_reducible refine e_asR ?_); first | refine ⟨by decide, ?_⟩ | refine ⟨in62' (by omega), ?_⟩) | ((with_reducible show ite (true = true) _ _); (with_reducible refine e_true ?_)) | ((with_reducible show ite (false = true) _ _); (with_reducible refine e_false ?_)) | ((with_reducible show ite ((!true) = true) _ _); (with_reducible refine e_nt ?_)) | ((with_reducible show ite ((!false) = true) _ _); (with_reducible refine e_nf ?_)) | ((with_reducible show On (dDisp _ _ _) _); (with_reducible refine e_on (by with_unfolding_all first | exact on_dispC (by repeat (first | exact Ds.nil | apply Ds.cons)) rfl) ?_)) | ((with_reducible show On (dIx _ _ _) _); (with_reducible refine e_on (by with_unfolding_all first | (with_reducible exact on_ixT0) | (with_reducible exact on_ixT1) | (with_reducible exact on_ixL0) | exact on_ixT (by assumption) | exact on_ixL (by assumption)) ?_)) | ((with_reducible show On (dLen _ _) _); (with_reducible refine e_on (by with_unfolding_all first | (with_reducible exact on_lenTm) | (with_reducible exact on_lenLm) | exact on_lenT | exact on_lenL) ?_)) | ((with_reducible show On (dTuple _ _) _); (with_reducible refine e_on (by with_unfolding_all first | exact on_tupleT | exact on_tupleL) ?_)) | ((with_reducible show On (dList _ _) _); (with_reducible refine e_on (by with_unfolding_all first | exact on_listT | exact on_listL) ?_)) | ((with_reducible show On (dEq _ _ _ _) _); (with_reducible refine e_on (by with_unfolding_all first | (with_reducible exact on_sameS) | (with_reducible exact on_eqN) | (with_reducible exact on_neN) | (with_reducible exact on_eqI) | (with_reducible exact on_neI) | (with_reducible exact on_eqS) | (with_reducible exact on_neS) | (with_reducible exact on_nilNe) | (with_reducible exact on_nilEq)) ?_)) | ((with_reducible show On (dIsi _ _) _); (with_reducible refine e_on (by with_unfolding_all first | (show _ = some (D.bl true); exact rfl) | (show _ = some (D.bl false); exact rfl)) ?_)) | ((with_reducible show On (dIs _ _ _ _) _); (with_reducible refine e_on (by with_unfolding_all first | (show _ = some (D.bl true); exact rfl) | (show _ = some (D.bl false); exact rfl)) ?_)) | ((with_reducible show On (dAll _ _) _); (with_reducible refine e_on (by with_unfolding_all first | exact on_all) ?_)) | ((with_reducible show On (dAny _ _) _); (with_reducible refine e_on (by with_unfolding_all first | exact on_any) ?_)) | ((with_reducible show On (dMul _ _ _) _); (with_reducible refine e_on (by with_unfolding_all first | exact on_mul (by decide)) ?_)) | ((with_reducible show On (dMod _ _ _) _); (with_reducible refine e_on (by with_unfolding_all first | exact on_mod (by decide)) ?_)) | ((with_reducible show On (dFdiv _ _ _) _); (with_reducible refine e_on (by with_unfolding_all first | exact on_fdiv (by decide) (by decide)) ?_)) | ((with_reducible show On (dMin2 _ _) _); (with_reducible refine e_on (by with_unfolding_all first | (with_reducible exact on_min2N) | exact rfl) ?_)) | ((with_reducible show On (dMax2 _ _) _); (with_reducible refine e_on (by with_unfolding_all first | (with_reducible exact on_max2N) | exact rfl) ?_)) | ((with_reducible show On (dLt _ _ _) _); (with_reducible refine e_on (by with_unfolding_all first | (with_reducible exact on_ltN) | (with_reducible exact on_ltI) | (with_reducible exact on_ltS)) ?_)) | ((with_reducible show On (dLe _ _ _) _); (with_reducible refine e_on (by with_unfolding_all first | (with_reducible exact on_leN) | (with_reducible exact on_leI)) ?_)) | ((with_reducible show On (dGt _ _ _) _); (with_reducible refine e_on (by with_unfolding_all first | (with_reducible exact on_gtN) | (with_reducible exact on_gtI)) ?_)) | ((with_reducible show On (dGe _ _ _) _); (with_reducible refine e_on (by with_unfolding_all first | (with_reducible exact on_geN) | (with_reducible exact on_geI)) ?_)) | ((with_reducible show On (dAdd _ _ _) _); (with_reducible refine e_on (by with_unfolding_all first | (with_reducible exact on_addII) | (with_reducible refine on_addTS ?_; first | omega | (simp only [List.length_cons, List.length_nil, List.length_map, List.length_append, List.length_singleton, List.length_reverse, List.length_take, List.length_drop]; omega)) | (with_reducible refine on_addLS ?_; first | omega | (simp only [List.length_cons, List.length_nil, List.length_map, List.length_append, List.length_singleton, List.length_reverse, List.length_take, List.length_drop]; omega)) | exact on_addTT (by first | omega | (simp only [List.length_cons, List.length_nil, List.length_map, List.length_append, List.length_singleton, List.length_reverse, List.length_take, List.length_drop]; omega)) | exact on_addLL (by first | omega | (simp only [List.length_cons, List.length_nil, List.length_map, List.length_append, List.length_singleton, List.length_reverse, List.length_take, List.length_drop]; omega))) ?_)) | ((with_reducible show On (dIn _ _ _ _) _); (with_reducible refine e_on (by with_unfolding_all first | (with_reducible exact on_inTS) | (with_reducible exact on_ninTS) | (with_reducible exact on_inLS) | (with_reducible exact on_ninLS)) ?_)) | ((with_reducible show On (dSorted _ _) _); (with_reducible refine e_on (by with_unfolding_all first | exact on_sortLS (by first | omega | (simp only [List.length_cons, List.length_nil, List.length_map, List.length_append, List.length_singleton, List.length_reverse, List.length_take, List.length_drop]; omega)) | exact on_sortTS (by first | omega | (simp only [List.length_cons, List.length_nil, List.length_map, List.length_append, List.length_singleton, List.length_reverse, List.length_take, List.length_drop]; omega))) ?_)) | ((with_reducible show On (dLenSet _ _) _); (with_reducible refine e_on (by with_unfolding_all first | exact on_lenSet (by first | omega | (simp only [List.length_cons, List.length_nil, List.length_map, List.length_append, List.length_singleton, List.length_reverse, List.length_take, List.length_drop]; omega)) | exact on_lenSetT (by first | omega | (simp only [List.length_cons, List.length_nil, List.length_map, List.length_append, List.length_singleton, List.length_reverse, List.length_take, List.length_drop]; omega))) ?_)) | ((with_reducible show On (dSub _ _ _) _); (with_reducible refine e_on (by with_unfolding_all first | (with_reducible exact on_subII)) ?_)) | ((with_reducible show On (dSlice _ _ _ _) _); (with_reducible refine e_on (by with_unfolding_all first | (with_reducible exact on_sliceTm) | (with_reducible exact on_sliceLm) | exact on_sliceT | exact on_sliceL) ?_)) | ((with_reducible show On (dRepL _ _ _) _); (with_reducible refine e_on (by with_unfolding_all first | (with_reducible exact on_rep4) | exact on_repLL ⟨by decide, by decide, by first | omega | (simp only [List.length_cons, List.length_nil, List.length_map, List.length_append, List.length_singleton, List.length_reverse, List.length_take, List.length_drop]; omega)⟩) ?_)) | ((with_reducible show On (dRepT _ _ _) _); (with_reducible refine e_on (by with_unfolding_all first | (with_reducible refine on_repT2m ?_; first | omega | (simp only [List.length_cons, List.length_nil, List.length_map, List.length_append, List.length_singleton, List.length_reverse, List.length_take, List.length_drop]; omega)) | exact on_repT2 (by first | omega | (simp only [List.length_cons, List.length_nil, List.length_map, List.length_append, List.length_singleton, List.length_reverse, List.length_take, List.length_drop]; omega))) ?_)) | ((with_reducible show On (dRevT _ _) _); (with_reducible refine e_on (by with_unfolding_all first | (with_reducible exact on_revTm) | exact rfl) ?_)) | ((with_reducible show On (dNeg _ _) _); (with_reducible refine e_on (by with_unfolding_all first | exact rfl) ?_)) | ((with_reducible show On (dInt1 _ _) _); (with_reducible refine e_on (by with_unfolding_all first | exact rfl) ?_)) | ((with_reducible show On (dAbs _ _) _); (with_reducible refine e_on (by with_unfolding_all first | exact rfl) ?_)) | ((with_reducible show On (dPow _ _ _) _); (with_reducible refine e_on (by with_unfolding_all first | exact rfl) ?_)) | ((with_reducible show On (walkOf _) _); (with_reducible refine e_on (by with_unfolding_all first | exact rfl) ?_)) | ((with_reducible show On (gN _ _ _) _); (with_reducible refine e_on (by with_unfolding_all first | exact rfl) ?_)) | ((with_reducible show On (g2 _ _ _ _) _); (with_reducible refine e_on (by with_unfolding_all first | exact rfl) ?_))))
/-! B4: the law's blocks -/
abbrev Cut := Nat × List Str
abbrev cD (c : Cut) : D := .tup [.int (c.1 : Nat), lS c.2]
abbrev pyC (c : Cut) : PyData := .tuple [.int (c.1 : Nat), pyL c.2]
theorem pys_cD : ∀ cs : List Cut, toPys (cs.map cD) = some (cs.map pyC)
  | [] => rfl
  | c :: cs => by
    have ih := pys_cD cs
    simp only [List.map_cons, toPys, toPy, pys_strs, Option.map_some, ih]
theorem lay_cD : ∀ cs : List Cut, (∀ c ∈ cs, ∀ z ∈ c.2, PyData.strOk z = true) → PyData.canLayAll0 (cs.map pyC) = true
  | [], _ => rfl
  | c :: cs, h => by
    have e1 : PyData.canLayAll0 (c.2.map PyData.str) = true := lay_strs c.2 (h c (List.mem_cons_self ..))
    have e2 := lay_cD cs fun g hg => h g (List.mem_cons_of_mem _ hg)
    simp only [List.map_cons, PyData.canLayAll0, PyData.canLay0, e1, e2, Bool.and_self]
theorem depth_cD : ∀ cs : List Cut, PyData.depthAll (cs.map pyC) ≤ 2
  | [] => Nat.zero_le _
  | c :: cs => by
    have ih := depth_cD cs
    show max (max 0 (max (PyData.depthAll (c.2.map PyData.str) + 1) 0) + 1) (PyData.depthAll (cs.map pyC)) ≤ 2
    rw [depth_strs]
    omega
theorem cuts_eq {c : Nat} {cs : List Cut} {mu : Mu} (hc : mu[c]? = some (some (.lst (cs.map cD)))) (hn : ∀ x ∈ cs, ∀ z ∈ x.2, PyData.strOk z = true) : dEq false (.h c) (.d (.lst [])) mu = some (.bl cs.isEmpty) := by
  have e1 : pk (.h c) mu = some (.lst (cs.map cD)) := by
    unfold pk
    simp only [hc]
    rfl
  have sh : SeqAt.shaped (.list (cs.map pyC)) = true := by
    unfold SeqAt.shaped
    have d : PyData.depth (.list (cs.map pyC)) ≤ 64 := by
      show PyData.depthAll (cs.map pyC) + 1 ≤ 64
      have := depth_cD cs
      omega
    rw [decide_eq_true d, Bool.and_true]
    simpa only [PyData.canLay0] using lay_cD cs hn
  show (pk (.h c) mu).bind _ = _
  rw [e1]
  show (toPy (.lst (cs.map cD))).bind _ = _
  have e2 : toPy (.lst (cs.map cD)) = some (.list (cs.map pyC)) := by
    simp only [toPy, pys_cD, Option.map_some]
  rw [e2]
  show (if (SeqAt.shaped _ && SeqAt.shaped (.list [])) = true then _ else _) = _
  rw [sh]
  show some (D.bl (PyData.eqvAll (cs.map pyC) [])) = _
  cases cs with
  | nil => rfl
  | cons f fs => rfl
end Law
set_option Elab.async false
set_option linter.all false
set_option maxRecDepth 100000
set_option maxHeartbeats 4000000
namespace Law
open PySem PySem.Spec L2 DL
local macro_rules | `(tactic| walk_at "go") => `(tactic| (change _; first | ((with_reducible show wCons _ _ _ _ _); (with_reducible refine e_cons ?_)) | ((with_reducible show wVar _ _ _ _); (with_reducible refine e_var (by with_unfolding_all exact rfl) ?_)) | ((with_reducible show wNil _ _ _); (with_reducible refine e_nil ?_)) | ((with_reducible show wC _ _ _ _); (with_reducible refine e_c ?_)) | ((with_reducible show wFn _ _ _ _ _); (with_reducible refine e_fn ?_)) | ((with_reducible show wCall _ _ _ _ _); (with_reducible refine e_call ?_)) | ((with_reducible show wBin _ _ _ _ _ _); (with_reducible refine e_bin ?_)) | ((with_reducible show wUn _ _ _ _ _); (with_reducible refine e_un ?_)) | ((with_reducible show wSeq (wSet _ _) _ _ _ _); (with_reducible refine e_sset ?_)) | ((with_reducible show wSeq (wIf _ _ wSkip) _ _ _ _); (with_reducible refine e_sif ?_)) | ((with_reducible show wSeq (wDrop _) _ _ _ _); (with_reducible refine e_sdrop ?_)) | ((with_reducible show wSeq (wDput _ _ _) _ _ _ _); (with_reducible refine e_sput ?_)) | ((with_reducible show wSeq (wFor _ _ _) _ _ _ _); (with_reducible refine e_sfor ?_)) | ((with_reducible show wSeq (wForL _ _ _) _ _ _ _); (with_reducible refine e_sforL ?_)) | ((with_reducible show wSeq (wAsg _ _) _ _ _ _); (with_reducible refine e_sasg ?_)) | ((with_reducible show wSeq (wPar _ _ _) _ _ _ _); (with_reducible refine e_spar ?_)) | ((with_reducible show wSeq (wWhile _ _) _ _ _ _); (with_reducible refine e_swhile ?_)) | ((with_reducible show wSeq _ _ _ _ _); (with_reducible refine e_seq ?_)) | ((with_reducible show wRet _ _ _ _); (with_reducible refine e_ret ?_)) | ((with_reducible show wDrop _ _ _ _); (with_reducible refine e_drop ?_)) | ((with_reducible show wSet _ _ _ _ _); (with_reducible refine e_set ?_)) | ((with_reducible show wIf _ _ _ _ _ _); (with_reducible refine e_if ?_)) | ((with_reducible show wSkip _ _ _); (with_reducible refine e_skip ?_)) | ((with_reducible show wFor _ _ _ _ _ _); (with_reducible refine e_for ?_)) | ((with_reducible show wForL _ _ _ _ _ _); (with_reducible refine e_forL ?_)) | ((with_reducible show wDput _ _ _ _ _ _); (with_reducible refine e_dput ?_)) | ((with_reducible show wB _ _ _ _); (with_reducible refine e_B ?_)) | ((with_reducible show wNotT _ _ _ _); (with_reducible refine e_not ?_)) | ((with_reducible show wAndT _ _ _ _ _); (with_reducible refine e_and ?_)) | ((with_reducible show wOrT _ _ _ _ _); (with_reducible refine e_or ?_)) | ((with_reducible show wAndV _ _ _ _ _); (with_reducible refine e_andV ?_)) | ((with_reducible show wOrV _ _ _ _ _); (with_reducible refine e_orV ?_)) | ((with_reducible show wNotV _ _ _ _); (with_reducible refine e_notV ?_)) | ((with_reducible show wIfE _ _ _ _ _ _); (with_reducible refine e_ifE ?_)) | ((with_reducible show wYes _ _ _); (with_reducible refine e_yes ?_)) | ((with_reducible show wIter _ _ _ _); (with_reducible refine e_iter ?_)) | ((with_reducible show wRange1 _ _ _ _); (with_reducible refine e_range ?_)) | ((with_reducible show wRange2 _ _ _ _); (with_reducible refine e_range2 ?_)) | ((with_reducible show wComp _ _ _ _ _ _ _ _); (with_reducible refine e_comp ?_)) | ((with_reducible show wCompL _ _ _ _ _ _ _ _); (with_reducible refine e_compL ?_)) | ((with_reducible show wDget _ _ _ _ _); (with_reducible refine e_dget ?_)) | ((with_reducible show wMut _ _ _ _ _ _); (with_reducible refine e_mut ?_)) | ((with_reducible show wPart _ _ _ _); (with_reducible refine e_part ?_)) | ((with_reducible show wNoPart _ _ _); (with_reducible refine e_nopart ?_)) | ((with_reducible show wSlice _ _ _ _ _ _); (with_reducible refine e_slice ?_)) | ((with_reducible show wListM _ _ _ _); (with_reducible refine e_listM ?_)) | ((with_reducible show wRevM _ _ _ _); (with_reducible refine e_revM ?_)) | ((with_reducible show wNewL _ _ _ _); (with_reducible refine e_newL ?_)) | ((with_reducible show wListRg _ _ _ _); (with_reducible refine e_listRg ?_)) | ((with_reducible show wListRgM _ _ _ _); (with_reducible refine e_listRgM ?_)) | ((with_reducible show wEnT _ _ _ _); (with_reducible refine e_enT ?_)) | ((with_reducible show wDictL _ _ _ _); (with_reducible refine e_dictL ?_)) | ((with_reducible show wCompM _ _ _ _ _ _ _ _ _); (with_reducible refine e_compM ?_)) | ((with_reducible show wIxS _ _ _ _ _); (with_reducible refine e_ixS ?_)) | ((with_reducible show wSortHM _ _ _ _); (with_reducible refine e_sortHM ?_)) | ((with_reducible show wChain _ _ _ _ _ _ _ _); (with_reducible refine e_chain ?_)) | ((with_reducible show wChain3 _ _ _ _ _ _ _ _ _ _); (with_reducible refine e_chain3 ?_)) | ((with_reducible show AsB _ _); (with_reducible refine e_asB ?_)) | ((with_reducible show AsI _ _); (with_reducible refine e_asI ?_)) | ((with_reducible show AsD _ _); (with_reducible refine e_asD ?_)) | ((with_reducible show AsBd _ _); (with_reducible refine e_asBd ?_)) | ((with_reducible show As1 _ _); (with_reducible refine e_as1 ?_)) | ((with_reducible show As2 _ _); (with_reducible refine e_as2 ?_)) | ((with_reducible show AsT _ _); (with_reducible refine e_asT ?_)) | ((with_reducible show AsLs _ _); (with_reducible refine e_asLs ?_)) | ((with_reducible show AsR _ _); (with_reducible refine e_asR ?_); first | refine ⟨by decide, ?_⟩ | refine ⟨in62' (by omega), ?_⟩) | ((with_reducible show ite (true = true) _ _); (with_reducible refine e_true ?_)) | ((with_reducible show ite (false = true) _ _); (with_reducible refine e_false ?_)) | ((with_reducible show ite ((!true) = true) _ _); (with_reducible refine e_nt ?_)) | ((with_reducible show ite ((!false) = true) _ _); (with_reducible refine e_nf ?_)) | ((with_reducible show On (dDisp _ _ _) _); (with_reducible refine e_on (by with_unfolding_all first | exact on_dispC (by repeat (first | exact Ds.nil | apply Ds.cons)) rfl) ?_)) | ((with_reducible show On (dIx _ _ _) _); (with_reducible refine e_on (by with_unfolding_all first | (with_reducible exact on_ixT0) | (with_reducible exact on_ixT1) | (with_reducible exact on_ixL0) | exact on_ixT (by assumption) | exact on_ixL (by assumption)) ?_)) | ((with_reducible show On (dLen _ _) _); (with_reducible refine e_on (by with_unfolding_all first | (with_reducible exact on_lenTm) | (with_reducible exact on_lenLm) | exact on_lenT | exact on_lenL) ?_)) | ((with_reducible show On (dTuple _ _) _); (with_reducible refine e_on (by with_unfolding_all first | exact on_tupleT | exact on_tupleL) ?_)) | ((with_reducible show On (dList _ _) _); (with_reducible refine e_on (by with_unfolding_all first | exact on_listT | exact on_listL) ?_)) | ((with_reducible show On (dEq _ _ _ _) _); (with_reducible refine e_on (by with_unfolding_all first | (with_reducible exact on_sameS) | (with_reducible exact on_eqN) | (with_reducible exact on_neN) | (with_reducible exact on_eqI) | (with_reducible exact on_neI) | (with_reducible exact on_eqS) | (with_reducible exact on_neS) | (with_reducible exact on_nilNe) | (with_reducible exact on_nilEq)) ?_)) | ((with_reducible show On (dIsi _ _) _); (with_reducible refine e_on (by with_unfolding_all first | (show _ = some (D.bl true); exact rfl) | (show _ = some (D.bl false); exact rfl)) ?_)) | ((with_reducible show On (dIs _ _ _ _) _); (with_reducible refine e_on (by with_unfolding_all first | (show _ = some (D.bl true); exact rfl) | (show _ = some (D.bl false); exact rfl)) ?_)) | ((with_reducible show On (dAll _ _) _); (with_reducible refine e_on (by with_unfolding_all first | exact on_all) ?_)) | ((with_reducible show On (dAny _ _) _); (with_reducible refine e_on (by with_unfolding_all first | exact on_any) ?_)) | ((with_reducible show On (dMul _ _ _) _); (with_reducible refine e_on (by with_unfolding_all first | exact on_mul (by decide)) ?_)) | ((with_reducible show On (dMod _ _ _) _); (with_reducible refine e_on (by with_unfolding_all first | exact on_mod (by decide)) ?_)) | ((with_reducible show On (dFdiv _ _ _) _); (with_reducible refine e_on (by with_unfolding_all first | exact on_fdiv (by decide) (by decide)) ?_)) | ((with_reducible show On (dMin2 _ _) _); (with_reducible refine e_on (by with_unfolding_all first | (with_reducible exact on_min2N) | exact rfl) ?_)) | ((with_reducible show On (dMax2 _ _) _); (with_reducible refine e_on (by with_unfolding_all first | (with_reducible exact on_max2N) | exact rfl) ?_)) | ((with_reducible show On (dLt _ _ _) _); (with_reducible refine e_on (by with_unfolding_all first | (with_reducible exact on_ltN) | (with_reducible exact on_ltI) | (with_reducible exact on_ltS)) ?_)) | ((with_reducible show On (dLe _ _ _) _); (with_reducible refine e_on (by with_unfolding_all first | (with_reducible exact on_leN) | (with_reducible exact on_leI)) ?_)) | ((with_reducible show On (dGt _ _ _) _); (with_reducible refine e_on (by with_unfolding_all first | (with_reducible exact on_gtN) | (with_reducible exact on_gtI)) ?_)) | ((with_reducible show On (dGe _ _ _) _); (with_reducible refine e_on (by with_unfolding_all first | (with_reducible exact on_geN) | (with_reducible exact on_geI)) ?_)) | ((with_reducible show On (dAdd _ _ _) _); (with_reducible refine e_on (by with_unfolding_all first | (with_reducible exact on_addII) | (with_reducible refine on_addTS ?_; first | omega | (simp only [List.length_cons, List.length_nil, List.length_map, List.length_append, List.length_singleton, List.length_reverse, List.length_take, List.length_drop]; omega)) | (with_reducible refine on_addLS ?_; first | omega | (simp only [List.length_cons, List.length_nil, List.length_map, List.length_append, List.length_singleton, List.length_reverse, List.length_take, List.length_drop]; omega)) | exact on_addTT (by first | omega | (simp only [List.length_cons, List.length_nil, List.length_map, List.length_append, List.length_singleton, List.length_reverse, List.length_take, List.length_drop]; omega)) | exact on_addLL (by first | omega | (simp only [List.length_cons, List.length_nil, List.length_map, List.length_append, List.length_singleton, List.length_reverse, List.length_take, List.length_drop]; omega))) ?_)) | ((with_reducible show On (dIn _ _ _ _) _); (with_reducible refine e_on (by with_unfolding_all first | (with_reducible exact on_inTS) | (with_reducible exact on_ninTS) | (with_reducible exact on_inLS) | (with_reducible exact on_ninLS)) ?_)) | ((with_reducible show On (dSorted _ _) _); (with_reducible refine e_on (by with_unfolding_all first | exact on_sortLS (by first | omega | (simp only [List.length_cons, List.length_nil, List.length_map, List.length_append, List.length_singleton, List.length_reverse, List.length_take, List.length_drop]; omega)) | exact on_sortTS (by first | omega | (simp only [List.length_cons, List.length_nil, List.length_map, List.length_append, List.length_singleton, List.length_reverse, List.length_take, List.length_drop]; omega))) ?_)) | ((with_reducible show On (dLenSet _ _) _); (with_reducible refine e_on (by with_unfolding_all first | exact on_lenSet (by first | omega | (simp only [List.length_cons, List.length_nil, List.length_map, List.length_append, List.length_singleton, List.length_reverse, List.length_take, List.length_drop]; omega)) | exact on_lenSetT (by first | omega | (simp only [List.length_cons, List.length_nil, List.length_map, List.length_append, List.length_singleton, List.length_reverse, List.length_take, List.length_drop]; omega))) ?_)) | ((with_reducible show On (dSub _ _ _) _); (with_reducible refine e_on (by with_unfolding_all first | (with_reducible exact on_subII)) ?_)) | ((with_reducible show On (dSlice _ _ _ _) _); (with_reducible refine e_on (by with_unfolding_all first | (with_reducible exact on_sliceTm) | (with_reducible exact on_sliceLm) | exact on_sliceT | exact on_sliceL) ?_)) | ((with_reducible show On (dRepL _ _ _) _); (with_reducible refine e_on (by with_unfolding_all first | (with_reducible exact on_rep4) | exact on_repLL ⟨by decide, by decide, by first | omega | (simp only [List.length_cons, List.length_nil, List.length_map, List.length_append, List.length_singleton, List.length_reverse, List.length_take, List.length_drop]; omega)⟩) ?_)) | ((with_reducible show On (dRepT _ _ _) _); (with_reducible refine e_on (by with_unfolding_all first | (with_reducible refine on_repT2m ?_; first | omega | (simp only [List.length_cons, List.length_nil, List.length_map, List.length_append, List.length_singleton, List.length_reverse, List.length_take, List.length_drop]; omega)) | exact on_repT2 (by first | omega | (simp only [List.length_cons, List.length_nil, List.length_map, List.length_append, List.length_singleton, List.length_reverse, List.length_take, List.length_drop]; omega))) ?_)) | ((with_reducible show On (dRevT _ _) _); (with_reducible refine e_on (by with_unfolding_all first | (with_reducible exact on_revTm) | exact rfl) ?_)) | ((with_reducible show On (dNeg _ _) _); (with_reducible refine e_on (by with_unfolding_all first | exact rfl) ?_)) | ((with_reducible show On (dInt1 _ _) _); (with_reducible refine e_on (by with_unfolding_all first | exact rfl) ?_)) | ((with_reducible show On (dAbs _ _) _); (with_reducible refine e_on (by with_unfolding_all first | exact rfl) ?_)) | ((with_reducible show On (dPow _ _ _) _); (with_reducible refine e_on (by with_unfolding_all first | exact rfl) ?_)) | ((with_reducible show On (walkOf _) _); (with_reducible refine e_on (by with_unfolding_all first | exact rfl) ?_)) | ((with_reducible show On (gN _ _ _) _); (with_reducible refine e_on (by with_unfolding_all first | exact rfl) ?_)) | ((with_reducible show On (g2 _ _ _ _) _); (with_reducible refine e_on (by with_unfolding_all first | exact rfl) ?_))))
/-! B5: the law's look for cuts -/
theorem keep_self {b s : List Str} : decide (keepS b s = b) = (lessS b s).isEmpty := by
  rw [Bool.eq_iff_iff, decide_eq_true_eq, less_nilB]
  unfold keepS
  rw [List.filter_eq_self]
  exact ⟨fun h z hz => of_decide_eq_true (h z hz), fun h z hz => decide_eq_true (h z hz)⟩
theorem any_keep {b g : List Str} : ((b.map fun z => decide (z ∈ g)).any id) = !(keepS b g).isEmpty := by
  rw [Bool.eq_iff_iff, Bool.not_eq_true', Bool.eq_false_iff, Ne, keep_nil, List.any_eq_true]
  constructor
  · rintro ⟨x, hx, h⟩ w
    obtain ⟨z, hz, rfl⟩ := List.mem_map.mp hx
    exact w z hz (of_decide_eq_true h)
  · intro h
    refine Classical.byContradiction fun w => h fun z hz hg => w ⟨true, List.mem_map.mpr ⟨z, hz, decide_eq_true hg⟩, rfl⟩
theorem rdL_h {f : Nat} {ds : List D} {mu : Mu} (h : mu[f]? = some (some (.lst ds))) : rdL (.h f) mu = some ds := by
  unfold rdL
  simp only [h]
/-- what is known of the cuts that were found -/
structure Cuts (R : List (List Str)) (es : List Spl) (cs : List Cut) : Prop where
  ok : ∀ x ∈ cs, ∃ b e, R[x.1]? = some b ∧ e ∈ es ∧ cutB e b = true ∧ x.2 = keepS b e.2
def None (R : List (List Str)) (es : List Spl) : Prop := ∀ b ∈ R, ∀ e ∈ es, cutB e b = false
abbrev innerS : WS := (wSeq (wSet 11 (wComp (wIter (wVar 8)) (gN 12) (wB (wBin (dIn false) (wVar 12) (wVar 10))) (wVar 12) [12])) (wIf (wAndT (wB (wBin (dEq true) (wVar 11) (wCall (dDisp D.lst) wNil))) (wAndT (wB (wBin (dEq true) (wVar 11) (wVar 8))) (wNotT (wB (wCall dAny (wCons (wComp (wIter (wVar 8)) (gN 12) wYes (wBin (dIn false) (wVar 12) (wVar 9)) [12]) wNil)))))) (wDrop (wMut gAppend (wVar 6) (wCons (wCall (dDisp D.tup) (wCons (wVar 7) (wCons (wVar 11) wNil))) wNil))) wSkip))
theorem inner_ok {E : DEnds} {mu : Mu} {cs : List Cut} {i : Nat} {b : List Str} {e : Spl} {s0 s1 s2 s3 s4 s5 s11 : Option S} (hb : b.length < 30) (ob : ∀ z ∈ b, PyData.strOk z = true) (l : cs.length < 10000)
    (q : E.nx [s0, s1, s2, s3, s4, s5, some (.h mu.length), some (.d (.int (i : Nat))), some (.d (lS b)), some (.d (tS e.1)), some (.d (tS e.2)), some (.d (lS (keepS b e.2))), none] (mu ++ [some (.lst ((if cutB e b = true then cs ++ [(i, keepS b e.2)] else cs).map cD))])) :
    innerS E [s0, s1, s2, s3, s4, s5, some (.h mu.length), some (.d (.int (i : Nat))), some (.d (lS b)), some (.d (tS e.1)), some (.d (tS e.2)), s11, none] (mu ++ [some (.lst (cs.map cD))]) := by
  unfold innerS
  repeat walk_at "go"
  with_reducible refine comp_if (mk := D.str) (fun z => decide (z ∈ e.2)) D.str (fun z => [s0, s1, s2, s3, s4, s5, some (.h mu.length), some (.d (.int (i : Nat))), some (.d (lS b)), some (.d (tS e.1)), some (.d (tS e.2)), s11, some (.d (.str z))]) b ?_ ?_ ?_ (by omega) ?_
  · exact fun _ _ => rfl
  · intro z _ P p
    repeat walk_at "go"
    exact p
  · intro z _ _ P p
    repeat walk_at "go"
    exact p
  have ok : ∀ z ∈ keepS b e.2, PyData.strOk z = true := fun z hz => ob z (keep_mem.mp hz).1
  have eq : dEq true (.d (.lst ((b.filter fun z => decide (z ∈ e.2)).map D.str))) (.d (lS b)) (mu ++ [some (.lst (cs.map cD))]) = some (.bl (!(lessS b e.2).isEmpty)) := by
    rw [← keep_self]
    exact on_eq_lst (neg := true) ok ob
  repeat walk_at "go"
  have em : (List.map D.str (List.filter (fun z => decide (z ∈ e.2)) b)).isEmpty = (keepS b e.2).isEmpty := by
    show (List.map D.str (keepS b e.2)).isEmpty = _
    cases keepS b e.2 <;> rfl
  have no : cutB e b = false → E.nx [s0, s1, s2, s3, s4, s5, some (.h mu.length), some (.d (.int (i : Nat))), some (.d (lS b)), some (.d (tS e.1)), some (.d (tS e.2)), some (.d (lS (keepS b e.2))), none] (mu ++ [some (.lst (cs.map cD))]) := fun w => by
    rw [w] at q
    exact q
  have yes : cutB e b = true → E.nx [s0, s1, s2, s3, s4, s5, some (.h mu.length), some (.d (.int (i : Nat))), some (.d (lS b)), some (.d (tS e.1)), some (.d (tS e.2)), some (.d (lS (keepS b e.2))), none] (mu ++ [some (.lst (cs.map cD ++ [cD (i, keepS b e.2)]))]) := fun w => by
    rw [w] at q
    rw [if_pos rfl, List.map_append] at q
    exact q
  clear q
  unfold cutB at no yes
  with_reducible refine e_ite (fun h => ?_) fun h => ?_
  · rw [em, Bool.not_eq_true'] at h
    rw [h] at no yes
    repeat walk_at "go"
    with_reducible refine e_on eq ?_
    cases c2 : (lessS b e.2).isEmpty with
    | true =>
      rw [c2] at no
      repeat walk_at "go"
      exact no (by rw [Bool.not_true, Bool.and_false, Bool.and_false])
    | false =>
      rw [c2] at no yes
      repeat walk_at "go"
      with_reducible refine comp_bls (mk := D.str) (fun z => decide (z ∈ e.1)) (fun z => [s0, s1, s2, s3, s4, s5, some (.h mu.length), some (.d (.int (i : Nat))), some (.d (lS b)), some (.d (tS e.1)), some (.d (tS e.2)), some (.d (lS (keepS b e.2))), some (.d (.str z))]) b ?_ ?_ (by omega) ?_
      · exact fun _ _ => rfl
      · intro z _ P p
        repeat walk_at "go"
        exact p
      repeat walk_at "go"
      rw [any_keep]
      cases c1 : (keepS b e.1).isEmpty with
      | false =>
        rw [c1] at no
        repeat walk_at "go"
        exact no rfl
      | true =>
        rw [c1] at yes
        repeat walk_at "go"
        refine e_on (mut_h top_lst) ?_
        repeat walk_at "go"
        refine e_on (mut_h top_lst) ?_
        refine e_on (app_at (by rw [List.length_map]; omega)) ?_
        rw [top_set]
        exact yes rfl
  · rw [em, Bool.not_eq_false'] at h
    rw [h] at no
    repeat walk_at "go"
    exact no (by rw [Bool.not_true, Bool.false_and, Bool.and_false])
end Law
set_option Elab.async false
set_option linter.all false
set_option maxRecDepth 100000
set_option maxHeartbeats 4000000
namespace Law
open PySem PySem.Spec L2 DL
local macro_rules | `(tactic| walk_at "go") => `(tactic| (change _; first | ((with_reducible show wCons _ _ _ _ _); (with_reducible refine e_cons ?_)) | ((with_reducible show wVar _ _ _ _); (with_reducible refine e_var (by with_unfolding_all exact rfl) ?_)) | ((with_reducible show wNil _ _ _); (with_reducible refine e_nil ?_)) | ((with_reducible show wC _ _ _ _); (with_reducible refine e_c ?_)) | ((with_reducible show wFn _ _ _ _ _); (with_reducible refine e_fn ?_)) | ((with_reducible show wCall _ _ _ _ _); (with_reducible refine e_call ?_)) | ((with_reducible show wBin _ _ _ _ _ _); (with_reducible refine e_bin ?_)) | ((with_reducible show wUn _ _ _ _ _); (with_reducible refine e_un ?_)) | ((with_reducible show wSeq (wSet _ _) _ _ _ _); (with_reducible refine e_sset ?_)) | ((with_reducible show wSeq (wIf _ _ wSkip) _ _ _ _); (with_reducible refine e_sif ?_)) | ((with_reducible show wSeq (wDrop _) _ _ _ _); (with_reducible refine e_sdrop ?_)) | ((with_reducible show wSeq (wDput _ _ _) _ _ _ _); (with_reducible refine e_sput ?_)) | ((with_reducible show wSeq (wFor _ _ _) _ _ _ _); (with_reducible refine e_sfor ?_)) | ((with_reducible show wSeq (wForL _ _ _) _ _ _ _); (with_reducible refine e_sforL ?_)) | ((with_reducible show wSeq (wAsg _ _) _ _ _ _); (with_reducible refine e_sasg ?_)) | ((with_reducible show wSeq (wPar _ _ _) _ _ _ _); (with_reducible refine e_spar ?_)) | ((with_reducible show wSeq (wWhile _ _) _ _ _ _); (with_reducible refine e_swhile ?_)) | ((with_reducible show wSeq _ _ _ _ _); (with_reducible refine e_seq ?_)) | ((with_reducible show wRet _ _ _ _); (with_reducible refine e_ret ?_)) | ((with_reducible show wDrop _ _ _ _); (with_reducible refine e_drop ?_)) | ((with_reducible show wSet _ _ _ _ _); (with_reducible refine e_set ?_)) | ((with_reducible show wIf _ _ _ _ _ _); (with_reducible refine e_if ?_)) | ((with_reducible show wSkip _ _ _); (with_reducible refine e_skip ?_)) | ((with_reducible show wFor _ _ _ _ _ _); (with_reducible refine e_for ?_)) | ((with_reducible show wForL _ _ _ _ _ _); (with_reducible refine e_forL ?_)) | ((with_reducible show wDput _ _ _ _ _ _); (with_reducible refine e_dput ?_)) | ((with_reducible show wB _ _ _ _); (with_reducible refine e_B ?_)) | ((with_reducible show wNotT _ _ _ _); (with_reducible refine e_not ?_)) | ((with_reducible show wAndT _ _ _ _ _); (with_reducible refine e_and ?_)) | ((with_reducible show wOrT _ _ _ _ _); (with_reducible refine e_or ?_)) | ((with_reducible show wAndV _ _ _ _ _); (with_reducible refine e_andV ?_)) | ((with_reducible show wOrV _ _ _ _ _); (with_reducible refine e_orV ?_)) | ((with_reducible show wNotV _ _ _ _); (with_reducible refine e_notV ?_)) | ((with_reducible show wIfE _ _ _ _ _ _); (with_reducible refine e_ifE ?_)) | ((with_reducible show wYes _ _ _); (with_reducible refine e_yes ?_)) | ((with_reducible show wIter _ _ _ _); (with_reducible refine e_iter ?_)) | ((with_reducible show wRange1 _ _ _ _); (with_reducible refine e_range ?_)) | ((with_reducible show wRange2 _ _ _ _); (with_reducible refine e_range2 ?_)) | ((with_reducible show wComp _ _ _ _ _ _ _ _); (with_reducible refine e_comp ?_)) | ((with_reducible show wCompL _ _ _ _ _ _ _ _); (with_reducible refine e_compL ?_)) | ((with_reducible show wDget _ _ _ _ _); (with_reducible refine e_dget ?_)) | ((with_reducible show wMut _ _ _ _ _ _); (with_reducible refine e_mut ?_)) | ((with_reducible show wPart _ _ _ _); (with_reducible refine e_part ?_)) | ((with_reducible show wNoPart _ _ _); (with_reducible refine e_nopart ?_)) | ((with_reducible show wSlice _ _ _ _ _ _); (with_reducible refine e_slice ?_)) | ((with_reducible show wListM _ _ _ _); (with_reducible refine e_listM ?_)) | ((with_reducible show wRevM _ _ _ _); (with_reducible refine e_revM ?_)) | ((with_reducible show wNewL _ _ _ _); (with_reducible refine e_newL ?_)) | ((with_reducible show wListRg _ _ _ _); (with_reducible refine e_listRg ?_)) | ((with_reducible show wListRgM _ _ _ _); (with_reducible refine e_listRgM ?_)) | ((with_reducible show wEnT _ _ _ _); (with_reducible refine e_enT ?_)) | ((with_reducible show wDictL _ _ _ _); (with_reducible refine e_dictL ?_)) | ((with_reducible show wCompM _ _ _ _ _ _ _ _ _); (with_reducible refine e_compM ?_)) | ((with_reducible show wIxS _ _ _ _ _); (with_reducible refine e_ixS ?_)) | ((with_reducible show wSortHM _ _ _ _); (with_reducible refine e_sortHM ?_)) | ((with_reducible show wChain _ _ _ _ _ _ _ _); (with_reducible refine e_chain ?_)) | ((with_reducible show wChain3 _ _ _ _ _ _ _ _ _ _); (with_reducible refine e_chain3 ?_)) | ((with_reducible show AsB _ _); (with_reducible refine e_asB ?_)) | ((with_reducible show AsI _ _); (with_reducible refine e_asI ?_)) | ((with_reducible show AsD _ _); (with_reducible refine e_asD ?_)) | ((with_reducible show AsBd _ _); (with_reducible refine e_asBd ?_)) | ((with_reducible show As1 _ _); (with_reducible refine e_as1 ?_)) | ((with_reducible show As2 _ _); (with_reducible refine e_as2 ?_)) | ((with_reducible show AsT _ _); (with_reducible refine e_asT ?_)) | ((with_reducible show AsLs _ _); (with_reducible refine e_asLs ?_)) | ((with_reducible show AsR _ _); (with_reducible refine e_asR ?_); first | refine ⟨by decide, ?_⟩ | refine ⟨in62' (by omega), ?_⟩) | ((with_reducible show ite (true = true) _ _); (with_reducible refine e_true ?_)) | ((with_reducible show ite (false = true) _ _); (with_reducible refine e_false ?_)) | ((with_reducible show ite ((!true) = true) _ _); (with_reducible refine e_nt ?_)) | ((with_reducible show ite ((!false) = true) _ _); (with_reducible refine e_nf ?_)) | ((with_reducible show On (dDisp _ _ _) _); (with_reducible refine e_on (by with_unfolding_all first | exact on_dispC (by repeat (first | exact Ds.nil | apply Ds.cons)) rfl) ?_)) | ((with_reducible show On (dIx _ _ _) _); (with_reducible refine e_on (by with_unfolding_all first | (with_reducible exact on_ixT0) | (with_reducible exact on_ixT1) | (with_reducible exact on_ixL0) | exact on_ixT (by assumption) | exact on_ixL (by assumption)) ?_)) | ((with_reducible show On (dLen _ _) _); (with_reducible refine e_on (by with_unfolding_all first | (with_reducible exact on_lenTm) | (with_reducible exact on_lenLm) | exact on_lenT | exact on_lenL) ?_)) | ((with_reducible show On (dTuple _ _) _); (with_reducible refine e_on (by with_unfolding_all first | exact on_tupleT | exact on_tupleL) ?_)) | ((with_reducible show On (dList _ _) _); (with_reducible refine e_on (by with_unfolding_all first | exact on_listT | exact on_listL) ?_)) | ((with_reducible show On (dEq _ _ _ _) _); (with_reducible refine e_on (by with_unfolding_all first | (with_reducible exact on_sameS) | (with_reducible exact on_eqN) | (with_reducible exact on_neN) | (with_reducible exact on_eqI) | (with_reducible exact on_neI) | (with_reducible exact on_eqS) | (with_reducible exact on_neS) | (with_reducible exact on_nilNe) | (with_reducible exact on_nilEq)) ?_)) | ((with_reducible show On (dIsi _ _) _); (with_reducible refine e_on (by with_unfolding_all first | (show _ = some (D.bl true); exact rfl) | (show _ = some (D.bl false); exact rfl)) ?_)) | ((with_reducible show On (dIs _ _ _ _) _); (with_reducible refine e_on (by with_unfolding_all first | (show _ = some (D.bl true); exact rfl) | (show _ = some (D.bl false); exact rfl)) ?_)) | ((with_reducible show On (dAll _ _) _); (with_reducible refine e_on (by with_unfolding_all first | exact on_all) ?_)) | ((with_reducible show On (dAny _ _) _); (with_reducible refine e_on (by with_unfolding_all first | exact on_any) ?_)) | ((with_reducible show On (dMul _ _ _) _); (with_reducible refine e_on (by with_unfolding_all first | exact on_mul (by decide)) ?_)) | ((with_reducible show On (dMod _ _ _) _); (with_reducible refine e_on (by with_unfolding_all first | exact on_mod (by decide)) ?_)) | ((with_reducible show On (dFdiv _ _ _) _); (with_reducible refine e_on (by with_unfolding_all first | exact on_fdiv (by decide) (by decide)) ?_)) | ((with_reducible show On (dMin2 _ _) _); (with_reducible refine e_on (by with_unfolding_all first | (with_reducible exact on_min2N) | exact rfl) ?_)) | ((with_reducible show On (dMax2 _ _) _); (with_reducible refine e_on (by with_unfolding_all first | (with_reducible exact on_max2N) | exact rfl) ?_)) | ((with_reducible show On (dLt _ _ _) _); (with_reducible refine e_on (by with_unfolding_all first | (with_reducible exact on_ltN) | (with_reducible exact on_ltI) | (with_reducible exact on_ltS)) ?_)) | ((with_reducible show On (dLe _ _ _) _); (with_reducible refine e_on (by with_unfolding_all first | (with_reducible exact on_leN) | (with_reducible exact on_leI)) ?_)) | ((with_reducible show On (dGt _ _ _) _); (with_reducible refine e_on (by with_unfolding_all first | (with_reducible exact on_gtN) | (with_reducible exact on_gtI)) ?_)) | ((with_reducible show On (dGe _ _ _) _); (with_reducible refine e_on (by with_unfolding_all first | (with_reducible exact on_geN) | (with_reducible exact on_geI)) ?_)) | ((with_reducible show On (dAdd _ _ _) _); (with_reducible refine e_on (by with_unfolding_all first | (with_reducible exact on_addII) | (with_reducible refine on_addTS ?_; first | omega | (simp only [List.length_cons, List.length_nil, List.length_map, List.length_append, List.length_singleton, List.length_reverse, List.length_take, List.length_drop]; omega)) | (with_reducible refine on_addLS ?_; first | omega | (simp only [List.length_cons, List.length_nil, List.length_map, List.length_append, List.length_singleton, List.length_reverse, List.length_take, List.length_drop]; omega)) | exact on_addTT (by first | omega | (simp only [List.length_cons, List.length_nil, List.length_map, List.length_append, List.length_singleton, List.length_reverse, List.length_take, List.length_drop]; omega)) | exact on_addLL (by first | omega | (simp only [List.length_cons, List.length_nil, List.length_map, List.length_append, List.length_singleton, List.length_reverse, List.length_take, List.length_drop]; omega))) ?_)) | ((with_reducible show On (dIn _ _ _ _) _); (with_reducible refine e_on (by with_unfolding_all first | (with_reducible exact on_inTS) | (with_reducible exact on_ninTS) | (with_reducible exact on_inLS) | (with_reducible exact on_ninLS)) ?_)) | ((with_reducible show On (dSorted _ _) _); (with_reducible refine e_on (by with_unfolding_all first | exact on_sortLS (by first | omega | (simp only [List.length_cons, List.length_nil, List.length_map, List.length_append, List.length_singleton, List.length_reverse, List.length_take, List.length_drop]; omega)) | exact on_sortTS (by first | omega | (simp only [List.length_cons, List.length_nil, List.length_map, List.length_append, List.length_singleton, List.length_reverse, List.length_take, List.length_drop]; omega))) ?_)) | ((with_reducible show On (dLenSet _ _) _); (with_reducible refine e_on (by with_unfolding_all first | exact on_lenSet (by first | omega | (simp only [List.length_cons, List.length_nil, List.length_map, List.length_append, List.length_singleton, List.length_reverse, List.length_take, List.length_drop]; omega)) | exact on_lenSetT (by first | omega | (simp only [List.length_cons, List.length_nil, List.length_map, List.length_append, List.length_singleton, List.length_reverse, List.length_take, List.length_drop]; omega))) ?_)) | ((with_reducible show On (dSub _ _ _) _); (with_reducible refine e_on (by with_unfolding_all first | (with_reducible exact on_subII)) ?_)) | ((with_reducible show On (dSlice _ _ _ _) _); (with_reducible refine e_on (by with_unfolding_all first | (with_reducible exact on_sliceTm) | (with_reducible exact on_sliceLm) | exact on_sliceT | exact on_sliceL) ?_)) | ((with_reducible show On (dRepL _ _ _) _); (with_reducible refine e_on (by with_unfolding_all first | (with_reducible exact on_rep4) | exact on_repLL ⟨by decide, by decide, by first | omega | (simp only [List.length_cons, List.length_nil, List.length_map, List.length_append, List.length_singleton, List.length_reverse, List.length_take, List.length_drop]; omega)⟩) ?_)) | ((with_reducible show On (dRepT _ _ _) _); (with_reducible refine e_on (by with_unfolding_all first | (with_reducible refine on_repT2m ?_; first | omega | (simp only [List.length_cons, List.length_nil, List.length_map, List.length_append, List.length_singleton, List.length_reverse, List.length_take, List.length_drop]; omega)) | exact on_repT2 (by first | omega | (simp only [List.length_cons, List.length_nil, List.length_map, List.length_append, List.length_singleton, List.length_reverse, List.length_take, List.length_drop]; omega))) ?_)) | ((with_reducible show On (dRevT _ _) _); (with_reducible refine e_on (by with_unfolding_all first | (with_reducible exact on_revTm) | exact rfl) ?_)) | ((with_reducible show On (dNeg _ _) _); (with_reducible refine e_on (by with_unfolding_all first | exact rfl) ?_)) | ((with_reducible show On (dInt1 _ _) _); (with_reducible refine e_on (by with_unfolding_all first | exact rfl) ?_)) | ((with_reducible show On (dAbs _ _) _); (with_reducible refine e_on (by with_unfolding_all first | exact rfl) ?_)) | ((with_reducible show On (dPow _ _ _) _); (with_reducible refine e_on (by with_unfolding_all first | exact rfl) ?_)) | ((with_reducible show On (walkOf _) _); (with_reducible refine e_on (by with_unfolding_all first | exact rfl) ?_)) | ((with_reducible show On (gN _ _ _) _); (with_reducible refine e_on (by with_unfolding_all first | exact rfl) ?_)) | ((with_reducible show On (g2 _ _ _ _) _); (with_reducible refine e_on (by with_unfolding_all first | exact rfl) ?_))))
/-! B6: all cuts that may be made -/
theorem cuts_step {R : List (List Str)} {es : List Spl} {cs : List Cut} {i : Nat} {b : List Str} {e : Spl} (h : Cuts R es cs) (hb : R[i]? = some b) (he : e ∈ es) : Cuts R es (if cutB e b = true then cs ++ [(i, keepS b e.2)] else cs) := by
  split
  · rename_i w
    refine ⟨fun x hx => ?_⟩
    rcases List.mem_append.mp hx with hx | hx
    · exact h.ok x hx
    · rw [List.mem_singleton.mp hx]
      exact ⟨b, e, hb, he, w, rfl⟩
  · exact h
theorem scan_ok {E : DEnds} {mu : Mu} {R : List (List Str)} {es : List Spl} {f : Nat} {s0 s2 s3 s5 s7 s8 s9 s10 s11 : Option S} (hf : mu[f]? = some (some (.lst (R.map lS)))) (hb : ∀ b ∈ R, b.length < 30 ∧ ∀ z ∈ b, PyData.strOk z = true) (lR : R.length < 30) (lE : es.length < 30)
    (q : ∀ cs a b c d e, Cuts R es cs → (cs = [] → None R es) → cs.length ≤ R.length * es.length → E.nx [s0, some (.d (.lst (es.map spD))), s2, s3, some (.h f), s5, some (.h mu.length), a, b, c, d, e, none] (mu ++ [some (.lst (cs.map cD))])) :
    (wForEnL (wCons (wVar 4) wNil) (g2 (gN 7) (gN 8)) (wFor (wIter (wVar 1)) (g2 (gN 9) (gN 10)) innerS)) E [s0, some (.d (.lst (es.map spD))), s2, s3, some (.h f), s5, some (.h mu.length), s7, s8, s9, s10, s11, none] (mu ++ [some (.lst [])]) := by
  have lf : f < mu.length := by
    rcases Nat.lt_or_ge f mu.length with h | h
    · exact h
    · rw [List.getElem?_eq_none h] at hf
      cases hf
  have at_f : ∀ x : List (Option MO), (mu ++ x)[f]? = some (some (.lst (R.map lS))) := fun x => by
    rw [List.getElem?_append_left lf]
    exact hf
  refine e_forEnL ?_
  repeat walk_at "go"
  refine e_on (rdL_h (at_f _)) ?_
  refine forL_inv (fun i sl mu1 => ∃ cs a b c d e, mu1 = mu ++ [some (.lst (cs.map cD))] ∧ Cuts R es cs ∧ (cs = [] → ∀ b ∈ R.take i, ∀ e ∈ es, cutB e b = false) ∧ cs.length ≤ i * es.length ∧ sl = [s0, some (.d (.lst (es.map spD))), s2, s3, some (.h f), s5, some (.h mu.length), a, b, c, d, e, none]) ?_ _ 0 _ _
    ⟨[], s7, s8, s9, s10, s11, rfl, ⟨fun x hx => by cases hx⟩, (fun _ b hb => by rw [List.take_zero] at hb; cases hb), Nat.zero_le _, rfl⟩ ?_ ?_
  · rintro n sl mu1 ⟨cs, a, b, c, d, e, rfl, _⟩
    exact rdL_h (at_f _)
  · rintro i x sl mu1 hx ⟨cs, a, b0, c, d, e0, rfl, ck, cn, cl, rfl⟩ C hC
    rw [Nat.zero_add] at hC cn cl
    have li : i < R.length := by
      have := (List.getElem?_eq_some_iff.mp hx).1
      rw [enumD_len, List.length_map] at this
      exact this
    have hb1 : R[i]? = some R[i] := List.getElem?_eq_getElem li
    have hx2 := enumD_get 0 (R.map lS) i (lS R[i]) (by rw [List.getElem?_map, hb1]; rfl)
    rw [Nat.zero_add] at hx2
    rw [hx2] at hx
    cases hx
    obtain ⟨bl, bo⟩ := hb R[i] (List.getElem_mem li)
    generalize hbb : R[i] = b at *
    repeat walk_at "go"
    refine for_inv (fun j sl mu1 => ∃ cs c d e, mu1 = mu ++ [some (.lst (cs.map cD))] ∧ Cuts R es cs ∧ (cs = [] → (∀ b ∈ R.take i, ∀ e ∈ es, cutB e b = false) ∧ ∀ e ∈ es.take j, cutB e b = false) ∧ cs.length ≤ i * es.length + j ∧ sl = [s0, some (.d (.lst (es.map spD))), s2, s3, some (.h f), s5, some (.h mu.length), some (.d (.int (i : Nat))), some (.d (lS b)), c, d, e, none]) _ 0 _ _
      ⟨cs, c, d, e0, rfl, ck, (fun w => ⟨cn w, fun e he => by rw [List.take_zero] at he; cases he⟩), cl, rfl⟩ ?_ ?_
    · rintro j x sl mu1 hx ⟨cs, c, d, e1, rfl, ck, cn, cl, rfl⟩ C2 hC2
      rw [Nat.zero_add] at hC2 cn cl
      obtain ⟨e, he, rfl⟩ : ∃ e, es[j]? = some e ∧ spD e = x := by
        rw [List.getElem?_map, Option.map_eq_some_iff] at hx
        exact hx
      have lj : j < es.length := (List.getElem?_eq_some_iff.mp he).1
      have me := List.mem_of_getElem? he
      show innerS _ _ _
      have lm : i * es.length ≤ 30 * 30 := Nat.mul_le_mul (by omega) (by omega)
      refine inner_ok bl bo (by omega) ?_
      refine hC2 _ _ ⟨_, _, _, _, rfl, cuts_step ck hb1 me, fun w => ?_, ?_, rfl⟩
      · cases ce : cutB e b with
        | true =>
          rw [ce, if_pos rfl] at w
          have := congrArg List.length w
          rw [List.length_append] at this
          cases this
        | false =>
          rw [ce] at w
          obtain ⟨n1, n2⟩ := cn w
          refine ⟨n1, fun e' he' => ?_⟩
          rw [List.take_succ, he] at he'
          rcases List.mem_append.mp he' with h | h
          · exact n2 e' h
          · rw [List.mem_singleton.mp h]
            exact ce
      · split
        · rw [List.length_append, List.length_singleton]
          omega
        · omega
    · rintro sl mu1 ⟨cs, c, d, e1, rfl, ck, cn, cl, rfl⟩
      rw [Nat.zero_add, List.length_map] at cn cl
      rw [List.take_length] at cn
      refine hC _ _ ⟨cs, _, _, _, _, _, rfl, ck, fun w b' hb' => ?_, by rw [Nat.succ_mul]; omega, rfl⟩
      rw [List.take_succ, hb1] at hb'
      rcases List.mem_append.mp hb' with h | h
      · exact (cn w).1 b' h
      · rw [List.mem_singleton.mp h]
        exact (cn w).2
  · rintro sl mu1 ⟨cs, a, b, c, d, e, rfl, ck, cn, cl, rfl⟩
    rw [Nat.zero_add, enumD_len, List.length_map] at cn cl
    rw [List.take_length] at cn
    exact q _ _ _ _ _ _ ck cn cl
end Law
set_option Elab.async false
set_option linter.all false
set_option maxRecDepth 100000
set_option maxHeartbeats 4000000
namespace Law
open PySem PySem.Spec L2 DL
local macro_rules | `(tactic| walk_at "go") => `(tactic| (change _; first | ((with_reducible show wCons _ _ _ _ _); (with_reducible refine e_cons ?_)) | ((with_reducible show wVar _ _ _ _); (with_reducible refine e_var (by with_unfolding_all exact rfl) ?_)) | ((with_reducible show wNil _ _ _); (with_reducible refine e_nil ?_)) | ((with_reducible show wC _ _ _ _); (with_reducible refine e_c ?_)) | ((with_reducible show wFn _ _ _ _ _); (with_reducible refine e_fn ?_)) | ((with_reducible show wCall _ _ _ _ _); (with_reducible refine e_call ?_)) | ((with_reducible show wBin _ _ _ _ _ _); (with_reducible refine e_bin ?_)) | ((with_reducible show wUn _ _ _ _ _); (with_reducible refine e_un ?_)) | ((with_reducible show wSeq (wSet _ _) _ _ _ _); (with_reducible refine e_sset ?_)) | ((with_reducible show wSeq (wIf _ _ wSkip) _ _ _ _); (with_reducible refine e_sif ?_)) | ((with_reducible show wSeq (wDrop _) _ _ _ _); (with_reducible refine e_sdrop ?_)) | ((with_reducible show wSeq (wDput _ _ _) _ _ _ _); (with_reducible refine e_sput ?_)) | ((with_reducible show wSeq (wFor _ _ _) _ _ _ _); (with_reducible refine e_sfor ?_)) | ((with_reducible show wSeq (wForL _ _ _) _ _ _ _); (with_reducible refine e_sforL ?_)) | ((with_reducible show wSeq (wAsg _ _) _ _ _ _); (with_reducible refine e_sasg ?_)) | ((with_reducible show wSeq (wPar _ _ _) _ _ _ _); (with_reducible refine e_spar ?_)) | ((with_reducible show wSeq (wWhile _ _) _ _ _ _); (with_reducible refine e_swhile ?_)) | ((with_reducible show wSeq _ _ _ _ _); (with_reducible refine e_seq ?_)) | ((with_reducible show wRet _ _ _ _); (with_reducible refine e_ret ?_)) | ((with_reducible show wDrop _ _ _ _); (with_reducible refine e_drop ?_)) | ((with_reducible show wSet _ _ _ _ _); (with_reducible refine e_set ?_)) | ((with_reducible show wIf _ _ _ _ _ _); (with_reducible refine e_if ?_)) | ((with_reducible show wSkip _ _ _); (with_reducible refine e_skip ?_)) | ((with_reducible show wFor _ _ _ _ _ _); (with_reducible refine e_for ?_)) | ((with_reducible show wForL _ _ _ _ _ _); (with_reducible refine e_forL ?_)) | ((with_reducible show wDput _ _ _ _ _ _); (with_reducible refine e_dput ?_)) | ((with_reducible show wB _ _ _ _); (with_reducible refine e_B ?_)) | ((with_reducible show wNotT _ _ _ _); (with_reducible refine e_not ?_)) | ((with_reducible show wAndT _ _ _ _ _); (with_reducible refine e_and ?_)) | ((with_reducible show wOrT _ _ _ _ _); (with_reducible refine e_or ?_)) | ((with_reducible show wAndV _ _ _ _ _); (with_reducible refine e_andV ?_)) | ((with_reducible show wOrV _ _ _ _ _); (with_reducible refine e_orV ?_)) | ((with_reducible show wNotV _ _ _ _); (with_reducible refine e_notV ?_)) | ((with_reducible show wIfE _ _ _ _ _ _); (with_reducible refine e_ifE ?_)) | ((with_reducible show wYes _ _ _); (with_reducible refine e_yes ?_)) | ((with_reducible show wIter _ _ _ _); (with_reducible refine e_iter ?_)) | ((with_reducible show wRange1 _ _ _ _); (with_reducible refine e_range ?_)) | ((with_reducible show wRange2 _ _ _ _); (with_reducible refine e_range2 ?_)) | ((with_reducible show wComp _ _ _ _ _ _ _ _); (with_reducible refine e_comp ?_)) | ((with_reducible show wCompL _ _ _ _ _ _ _ _); (with_reducible refine e_compL ?_)) | ((with_reducible show wDget _ _ _ _ _); (with_reducible refine e_dget ?_)) | ((with_reducible show wMut _ _ _ _ _ _); (with_reducible refine e_mut ?_)) | ((with_reducible show wPart _ _ _ _); (with_reducible refine e_part ?_)) | ((with_reducible show wNoPart _ _ _); (with_reducible refine e_nopart ?_)) | ((with_reducible show wSlice _ _ _ _ _ _); (with_reducible refine e_slice ?_)) | ((with_reducible show wListM _ _ _ _); (with_reducible refine e_listM ?_)) | ((with_reducible show wRevM _ _ _ _); (with_reducible refine e_revM ?_)) | ((with_reducible show wNewL _ _ _ _); (with_reducible refine e_newL ?_)) | ((with_reducible show wListRg _ _ _ _); (with_reducible refine e_listRg ?_)) | ((with_reducible show wListRgM _ _ _ _); (with_reducible refine e_listRgM ?_)) | ((with_reducible show wEnT _ _ _ _); (with_reducible refine e_enT ?_)) | ((with_reducible show wDictL _ _ _ _); (with_reducible refine e_dictL ?_)) | ((with_reducible show wCompM _ _ _ _ _ _ _ _ _); (with_reducible refine e_compM ?_)) | ((with_reducible show wIxS _ _ _ _ _); (with_reducible refine e_ixS ?_)) | ((with_reducible show wSortHM _ _ _ _); (with_reducible refine e_sortHM ?_)) | ((with_reducible show wChain _ _ _ _ _ _ _ _); (with_reducible refine e_chain ?_)) | ((with_reducible show wChain3 _ _ _ _ _ _ _ _ _ _); (with_reducible refine e_chain3 ?_)) | ((with_reducible show AsB _ _); (with_reducible refine e_asB ?_)) | ((with_reducible show AsI _ _); (with_reducible refine e_asI ?_)) | ((with_reducible show AsD _ _); (with_reducible refine e_asD ?_)) | ((with_reducible show AsBd _ _); (with_reducible refine e_asBd ?_)) | ((with_reducible show As1 _ _); (with_reducible refine e_as1 ?_)) | ((with_reducible show As2 _ _); (with_reducible refine e_as2 ?_)) | ((with_reducible show AsT _ _); (with_reducible refine e_asT ?_)) | ((with_reducible show AsLs _ _); (with_reducible refine e_asLs ?_)) | ((with_reducible show AsR _ _); (with_reducible refine e_asR ?_); first | refine ⟨by decide, ?_⟩ | refine ⟨in62' (by omega), ?_⟩) | ((with_reducible show ite (true = true) _ _); (with_reducible refine e_true ?_)) | ((with_reducible show ite (false = true) _ _); (with_reducible refine e_false ?_)) | ((with_reducible show ite ((!true) = true) _ _); (with_reducible refine e_nt ?_)) | ((with_reducible show ite ((!false) = true) _ _); (with_reducible refine e_nf ?_)) | ((with_reducible show On (dDisp _ _ _) _); (with_reducible refine e_on (by with_unfolding_all first | exact on_dispC (by repeat (first | exact Ds.nil | apply Ds.cons)) rfl) ?_)) | ((with_reducible show On (dIx _ _ _) _); (with_reducible refine e_on (by with_unfolding_all first | (with_reducible exact on_ixT0) | (with_reducible exact on_ixT1) | (with_reducible exact on_ixL0) | exact on_ixT (by assumption) | exact on_ixL (by assumption)) ?_)) | ((with_reducible show On (dLen _ _) _); (with_reducible refine e_on (by with_unfolding_all first | (with_reducible exact on_lenTm) | (with_reducible exact on_lenLm) | exact on_lenT | exact on_lenL) ?_)) | ((with_reducible show On (dTuple _ _) _); (with_reducible refine e_on (by with_unfolding_all first | exact on_tupleT | exact on_tupleL) ?_)) | ((with_reducible show On (dList _ _) _); (with_reducible refine e_on (by with_unfolding_all first | exact on_listT | exact on_listL) ?_)) | ((with_reducible show On (dEq _ _ _ _) _); (with_reducible refine e_on (by with_unfolding_all first | (with_reducible exact on_sameS) | (with_reducible exact on_eqN) | (with_reducible exact on_neN) | (with_reducible exact on_eqI) | (with_reducible exact on_neI) | (with_reducible exact on_eqS) | (with_reducible exact on_neS) | (with_reducible exact on_nilNe) | (with_reducible exact on_nilEq)) ?_)) | ((with_reducible show On (dIsi _ _) _); (with_reducible refine e_on (by with_unfolding_all first | (show _ = some (D.bl true); exact rfl) | (show _ = some (D.bl false); exact rfl)) ?_)) | ((with_reducible show On (dIs _ _ _ _) _); (with_reducible refine e_on (by with_unfolding_all first | (show _ = some (D.bl true); exact rfl) | (show _ = some (D.bl false); exact rfl)) ?_)) | ((with_reducible show On (dAll _ _) _); (with_reducible refine e_on (by with_unfolding_all first | exact on_all) ?_)) | ((with_reducible show On (dAny _ _) _); (with_reducible refine e_on (by with_unfolding_all first | exact on_any) ?_)) | ((with_reducible show On (dMul _ _ _) _); (with_reducible refine e_on (by with_unfolding_all first | exact on_mul (by decide)) ?_)) | ((with_reducible show On (dMod _ _ _) _); (with_reducible refine e_on (by with_unfolding_all first | exact on_mod (by decide)) ?_)) | ((with_reducible show On (dFdiv _ _ _) _); (with_reducible refine e_on (by with_unfolding_all first | exact on_fdiv (by decide) (by decide)) ?_)) | ((with_reducible show On (dMin2 _ _) _); (with_reducible refine e_on (by with_unfolding_all first | (with_reducible exact on_min2N) | exact rfl) ?_)) | ((with_reducible show On (dMax2 _ _) _); (with_reducible refine e_on (by with_unfolding_all first | (with_reducible exact on_max2N) | exact rfl) ?_)) | ((with_reducible show On (dLt _ _ _) _); (with_reducible refine e_on (by with_unfolding_all first | (with_reducible exact on_ltN) | (with_reducible exact on_ltI) | (with_reducible exact on_ltS)) ?_)) | ((with_reducible show On (dLe _ _ _) _); (with_reducible refine e_on (by with_unfolding_all first | (with_reducible exact on_leN) | (with_reducible exact on_leI)) ?_)) | ((with_reducible show On (dGt _ _ _) _); (with_reducible refine e_on (by with_unfolding_all first | (with_reducible exact on_gtN) | (with_reducible exact on_gtI)) ?_)) | ((with_reducible show On (dGe _ _ _) _); (with_reducible refine e_on (by with_unfolding_all first | (with_reducible exact on_geN) | (with_reducible exact on_geI)) ?_)) | ((with_reducible show On (dAdd _ _ _) _); (with_reducible refine e_on (by with_unfolding_all first | (with_reducible exact on_addII) | (with_reducible refine on_addTS ?_; first | omega | (simp only [List.length_cons, List.length_nil, List.length_map, List.length_append, List.length_singleton, List.length_reverse, List.length_take, List.length_drop]; omega)) | (with_reducible refine on_addLS ?_; first | omega | (simp only [List.length_cons, List.length_nil, List.length_map, List.length_append, List.length_singleton, List.length_reverse, List.length_take, List.length_drop]; omega)) | exact on_addTT (by first | omega | (simp only [List.length_cons, List.length_nil, List.length_map, List.length_append, List.length_singleton, List.length_reverse, List.length_take, List.length_drop]; omega)) | exact on_addLL (by first | omega | (simp only [List.length_cons, List.length_nil, List.length_map, List.length_append, List.length_singleton, List.length_reverse, List.length_take, List.length_drop]; omega))) ?_)) | ((with_reducible show On (dIn _ _ _ _) _); (with_reducible refine e_on (by with_unfolding_all first | (with_reducible exact on_inTS) | (with_reducible exact on_ninTS) | (with_reducible exact on_inLS) | (with_reducible exact on_ninLS)) ?_)) | ((with_reducible show On (dSorted _ _) _); (with_reducible refine e_on (by with_unfolding_all first | exact on_sortLS (by first | omega | (simp only [List.length_cons, List.length_nil, List.length_map, List.length_append, List.length_singleton, List.length_reverse, List.length_take, List.length_drop]; omega)) | exact on_sortTS (by first | omega | (simp only [List.length_cons, List.length_nil, List.length_map, List.length_append, List.length_singleton, List.length_reverse, List.length_take, List.length_drop]; omega))) ?_)) | ((with_reducible show On (dLenSet _ _) _); (with_reducible refine e_on (by with_unfolding_all first | exact on_lenSet (by first | omega | (simp only [List.length_cons, List.length_nil, List.length_map, List.length_append, List.length_singleton, List.length_reverse, List.length_take, List.length_drop]; omega)) | exact on_lenSetT (by first | omega | (simp only [List.length_cons, List.length_nil, List.length_map, List.length_append, List.length_singleton, List.length_reverse, List.length_take, List.length_drop]; omega))) ?_)) | ((with_reducible show On (dSub _ _ _) _); (with_reducible refine e_on (by with_unfolding_all first | (with_reducible exact on_subII)) ?_)) | ((with_reducible show On (dSlice _ _ _ _) _); (with_reducible refine e_on (by with_unfolding_all first | (with_reducible exact on_sliceTm) | (with_reducible exact on_sliceLm) | exact on_sliceT | exact on_sliceL) ?_)) | ((with_reducible show On (dRepL _ _ _) _); (with_reducible refine e_on (by with_unfolding_all first | (with_reducible exact on_rep4) | exact on_repLL ⟨by decide, by decide, by first | omega | (simp only [List.length_cons, List.length_nil, List.length_map, List.length_append, List.length_singleton, List.length_reverse, List.length_take, List.length_drop]; omega)⟩) ?_)) | ((with_reducible show On (dRepT _ _ _) _); (with_reducible refine e_on (by with_unfolding_all first | (with_reducible refine on_repT2m ?_; first | omega | (simp only [List.length_cons, List.length_nil, List.length_map, List.length_append, List.length_singleton, List.length_reverse, List.length_take, List.length_drop]; omega)) | exact on_repT2 (by first | omega | (simp only [List.length_cons, List.length_nil, List.length_map, List.length_append, List.length_singleton, List.length_reverse, List.length_take, List.length_drop]; omega))) ?_)) | ((with_reducible show On (dRevT _ _) _); (with_reducible refine e_on (by with_unfolding_all first | (with_reducible exact on_revTm) | exact rfl) ?_)) | ((with_reducible show On (dNeg _ _) _); (with_reducible refine e_on (by with_unfolding_all first | exact rfl) ?_)) | ((with_reducible show On (dInt1 _ _) _); (with_reducible refine e_on (by with_unfolding_all first | exact rfl) ?_)) | ((with_reducible show On (dAbs _ _) _); (with_reducible refine e_on (by with_unfolding_all first | exact rfl) ?_)) | ((with_reducible show On (dPow _ _ _) _); (with_reducible refine e_on (by with_unfolding_all first | exact rfl) ?_)) | ((with_reducible show On (walkOf _) _); (with_reducible refine e_on (by with_unfolding_all first | exact rfl) ?_)) | ((with_reducible show On (gN _ _ _) _); (with_reducible refine e_on (by with_unfolding_all first | exact rfl) ?_)) | ((with_reducible show On (g2 _ _ _ _) _); (with_reducible refine e_on (by with_unfolding_all first | exact rfl) ?_))))
/-! B7: the law's blocks -/
theorem e_seqN {g h : WS} {E : DEnds} {sl : Sl} {mu : Mu} (q : g { nx := fun sl' mu' => h E sl' mu', rt := E.rt, bk := E.bk, ct := E.ct } sl mu) : wSeq g h E sl mu := q
theorem compDL_if {α : Type} {mk : α → D} {s : S} {all : List D} {g : WG} {tt : WT} {te : WE} {sl0 : Sl} {Q : S → Mu → Prop} {mu : Mu} (t : α → Bool) (h : α → D) (f : α → Sl) (hs : rdL s mu = some all) : ∀ (xs : List α) (acc : List D), (∀ x ∈ xs, g (mk x) sl0 = some (f x)) →
    (∀ x ∈ xs, ∀ P : Bool → Mu → Prop, P (t x) mu → tt (f x) mu P) → (∀ x ∈ xs, t x = true → ∀ P : S → Mu → Prop, P (.d (h x)) mu → te (f x) mu P) → acc.length + xs.length ≤ sizeLine →
    Q (.d (.lst (acc ++ (xs.filter t).map h))) mu → wCompDL s all g tt te sl0 Q (xs.map mk) acc mu
  | [], acc, _, _, _, _, q => by
    rw [List.filter_nil, List.map_nil, List.append_nil] at q
    exact ⟨hs, q⟩
  | x :: xs, acc, h1, h2, h3, l, q => by
    rw [List.length_cons] at l
    rw [List.map_cons]
    unfold wCompDL
    refine ⟨hs, ?_⟩
    rw [h1 x (List.mem_cons_self ..)]
    refine h2 x (List.mem_cons_self ..) _ ?_
    cases ht : t x with
    | true =>
      rw [List.filter_cons_of_pos (by rw [ht]), List.map_cons] at q
      refine h3 x (List.mem_cons_self ..) ht _ ⟨by omega, ?_⟩
      refine compDL_if t h f hs xs _ (fun y hy => h1 y (List.mem_cons_of_mem _ hy)) (fun y hy => h2 y (List.mem_cons_of_mem _ hy)) (fun y hy => h3 y (List.mem_cons_of_mem _ hy)) (by rw [List.length_append, List.length_singleton]; omega) ?_
      rw [List.append_assoc]
      exact q
    | false =>
      rw [List.filter_cons_of_neg (by rw [ht]; exact Bool.false_ne_true)] at q
      exact compDL_if t h f hs xs acc (fun y hy => h1 y (List.mem_cons_of_mem _ hy)) (fun y hy => h2 y (List.mem_cons_of_mem _ hy)) (fun y hy => h3 y (List.mem_cons_of_mem _ hy)) (by omega) q
def WayL (T : Spl → Prop) (cols : List Str) (R : List (List Str)) : Prop := (cols = [] ∧ R = [[]]) ∨ (cols ≠ [] ∧ Der T cols R)
theorem WayL.blk {T : Spl → Prop} {cols : List Str} {R : List (List Str)} (h : WayL T cols R) : ∀ b ∈ R, b.length ≤ cols.length ∧ ∀ z ∈ b, z ∈ cols := by
  rcases h with ⟨rfl, rfl⟩ | ⟨h1, h2⟩
  · intro b hb
    rw [List.mem_singleton.mp hb]
    exact ⟨Nat.le_refl _, fun z hz => hz⟩
  · intro b hb
    obtain ⟨p, rfl⟩ := h2.sub b hb
    exact ⟨List.length_filter_le _ _, fun z hz => (List.mem_filter.mp hz).1⟩
theorem WayL.len {T : Spl → Prop} {cols : List Str} {R : List (List Str)} (h : WayL T cols R) : R.length ≤ cols.length + 1 := by
  rcases h with ⟨rfl, rfl⟩ | ⟨h1, h2⟩
  · exact Nat.le_refl _
  · have := h2.len
    omega
theorem WayL.cut {T : Spl → Prop} {cols : List Str} {R : List (List Str)} (h : WayL T cols R) {i : Nat} {b : List Str} {e : Spl} (hb : R[i]? = some b) (he : T e) (c : cutB e b = true) : WayL T cols (R.eraseIdx i ++ [keepS b e.2, lessS b e.2]) := by
  rcases h with ⟨rfl, rfl⟩ | ⟨h1, h2⟩
  · have := List.mem_of_getElem? hb
    rw [List.mem_singleton.mp this] at c
    cases c
  · refine .inr ⟨h1, ?_⟩
    obtain ⟨li, e1⟩ := List.getElem?_eq_some_iff.mp hb
    have p : R.Perm (b :: R.eraseIdx i) := by
      have e2 : R = R.take i ++ b :: R.drop (i + 1) := by
        rw [← e1, ← List.drop_eq_getElem_cons li, List.take_append_drop]
      rw [List.eraseIdx_eq_take_drop_succ]
      exact (List.Perm.of_eq e2).trans List.perm_middle
    exact ((h2.perm p).cut he c).perm (List.perm_append_comm (l₁ := [keepS b e.2, lessS b e.2]))
theorem WayL.fin {es : List Spl} {cols : List Str} {R : List (List Str)} (h : WayL (fun e => e ∈ es) cols R) (n : None R es) : End (fun e => e ∈ es) cols (R.filter fun b => !b.isEmpty) := by
  rcases h with ⟨rfl, rfl⟩ | ⟨h1, h2⟩
  · exact ⟨.inl ⟨rfl, rfl⟩, fun b hb => by cases hb⟩
  · have e : (R.filter fun b => !b.isEmpty) = R := List.filter_eq_self.mpr fun b hb => by
      cases b with
      | nil => exact absurd rfl (h2.ne _ hb)
      | cons x l => rfl
    rw [e]
    exact ⟨.inr ⟨h1, h2⟩, fun b hb x hx => n b hb x hx⟩
theorem less_keep {b s : List Str} : lessS b (keepS b s) = lessS b s := by
  unfold lessS
  refine List.filter_congr fun z hz => ?_
  congr 1
  rw [decide_eq_decide, keep_mem]
  exact ⟨fun w => w.2, fun w => ⟨hz, w⟩⟩
theorem cut_end {E : DEnds} {mu mub more : Mu} {k f : Nat} {R : List (List Str)} {es : List Spl} {cols : List Str} {Q : S → Mu → Prop} {s0 s1 s2 s3 s5 s6 s7 s8 s9 s10 s11 s12 : Option S} (g : Gone mu k mub) (hf : (mub ++ more)[f]? = some (some (.lst (R.map lS)))) (w : WayL (fun e => e ∈ es) cols R) (lc : cols.length ≤ 8) (n : None R es)
    (hE : ∀ x mu', retD mu Q x mu' → E.rt x mu') (q : ∀ R mu', End (fun e => e ∈ es) cols R → Gone mu k mu' → Q (.d (.lst ((sortH R).map headT))) mu') :
    (wRet (wCall dSortH (wCons (wCompL (wVar 4) (gN 8) (wB (wBin (dEq true) (wVar 8) (wCall (dDisp D.lst) wNil))) (wCall dTuple (wCons (wVar 8) wNil)) [8]) wNil))) E [s0, s1, s2, s3, some (.h f), s5, s6, s7, s8, s9, s10, s11, s12] (mub ++ more) := by
  have lR := w.len
  repeat walk_at "go"
  refine e_on (rdL_h hf) ?_
  refine compDL_if (mk := lS) (fun b => !b.isEmpty) headT (fun b => [s0, s1, s2, s3, some (.h f), s5, s6, s7, some (.d (lS b)), s9, s10, s11, s12]) (rdL_h hf) R [] (fun _ _ => rfl) (fun b _ P p => ?_) (fun b _ _ P p => ?_) ?_ ?_
  · repeat walk_at "go"
    rw [show (List.map D.str b).isEmpty = b.isEmpty by cases b <;> rfl]
    exact p
  · repeat walk_at "go"
    exact p
  · rw [sizeLine_eq, List.length_nil]
    omega
  rw [List.nil_append]
  have lf : (R.filter fun b => !b.isEmpty).length ≤ R.length := List.length_filter_le _ _
  repeat walk_at "go"
  refine e_on (on_sortH (by omega)) ?_
  refine hE _ _ (retD_top g ?_)
  exact q _ _ (w.fin n) g
def cutBW : WF := fun ss mu Q => ∃ (k : Nat) (es : List Spl) (given h : List Str), ss = [.h k, .d (.lst (es.map spD)), .d (tS given), .d (tS h)] ∧ Src mu k ∧ h.length ≤ 8 ∧ es.length ≤ 8 ∧ given.length < 30 ∧ (∀ z ∈ h, PyData.strOk z = true) ∧
  ∀ R mu', End (fun e => e ∈ es) (lessS h given) R → Gone mu k mu' → Q (.d (.lst ((sortH R).map headT))) mu'
theorem sp_cut_blocks (ss : List S) (mu : Mu) (Q : S → Mu → Prop) (h : cutBW ss mu Q) : wDef 4 13 (w_law_cut_blocks pickW) ss mu Q := by
  obtain ⟨k, es, given, h, rfl, src, h8, e8, g30, ok, q⟩ := h
  refine ⟨rfl, ?_⟩
  unfold w_law_cut_blocks
  repeat walk_at "go"
  with_reducible refine comp_if (mk := D.str) (fun z => !decide (z ∈ given)) D.str (fun z => [some (.h k), some (.d (.lst (es.map spD))), some (.d (tS given)), some (.d (tS h)), none, none, none, none, none, none, none, none, some (.d (.str z))]) h ?_ ?_ ?_ (by omega) ?_
  · exact fun _ _ => rfl
  · intro z _ P p
    repeat walk_at "go"
    exact p
  · intro z _ _ P p
    repeat walk_at "go"
    exact p
  have lc := less_len h given
  have okc : ∀ z ∈ lessS h given, PyData.strOk z = true := fun z hz => ok z (less_mem.mp hz).1
  repeat walk_at "go"
  refine ⟨by rw [sizeLine_eq]; simp, e_on rfl ?_⟩
  repeat walk_at "go"
  refine for_inv (fun i sl mu1 => ∃ (mub more : Mu) (f : Nat) (R : List (List Str)) (x5 x6 x7 x8 x9 x10 x11 : Option S), mu1 = mub ++ more ∧ Gone mu k mub ∧ (mub ++ more)[f]? = some (some (.lst (R.map lS))) ∧ mub.length ≤ f ∧ WayL (fun e => e ∈ es) (lessS h given) R ∧ i + 1 ≤ R.length ∧
    sl = [some (.h k), some (.d (.lst (es.map spD))), some (.d (tS given)), some (.d (tS h)), some (.h f), x5, x6, x7, x8, x9, x10, x11, none]) _ 0 _ _ ⟨mu, [some (.lst [lS (lessS h given)])], mu.length, [lessS h given], none, none, none, none, none, none, none, rfl, src.gone, top_lst, Nat.le_refl _, ?_, Nat.le_refl _, rfl⟩ ?_ ?_
  · by_cases c : lessS h given = []
    · exact .inl ⟨c, by rw [c]⟩
    · exact .inr ⟨c, .start c⟩
  · rintro i x sl mu1 hx ⟨mub, more, f, R, x5, x6, x7, x8, x9, x10, x11, rfl, g, hf, lf, w, li, rfl⟩ C hC
    rw [Nat.zero_add] at hC li
    have lR := w.len
    repeat walk_at "go"
    refine ⟨by rw [sizeLine_eq]; simp, e_on rfl ?_⟩
    refine e_seqN (scan_ok (es := es) hf (fun b hb => ⟨by have := (w.blk b hb).1; omega, fun z hz => okc z ((w.blk b hb).2 z hz)⟩) (by omega) (by omega) fun cs a b c d e ck cn cl => ?_)
    repeat walk_at "go"
    have okz : ∀ x ∈ cs, ∀ z ∈ x.2, PyData.strOk z = true := by
      intro x hx z hz
      obtain ⟨b1, e1, hb1, _, _, ex⟩ := ck.ok x hx
      rw [ex] at hz
      exact okc z ((w.blk b1 (List.mem_of_getElem? hb1)).2 z (keep_mem.mp hz).1)
    refine e_on (cuts_eq top_lst okz) ?_
    cases hcs : cs.isEmpty with
    | true =>
      repeat walk_at "go"
      rw [List.append_assoc]
      have hf2 : (mub ++ (more ++ [some (.lst (cs.map cD))]))[f]? = some (some (.lst (R.map lS))) := by
        rw [← List.append_assoc, List.getElem?_append_left (List.getElem?_eq_some_iff.mp hf).1]
        exact hf
      exact cut_end g hf2 w (by omega) (cn (List.isEmpty_iff.mp hcs)) (fun _ _ z => z) q
    | false =>
      repeat walk_at "go"
      have lm : R.length * es.length ≤ 9 * 8 := Nat.mul_le_mul (by omega) e8
      refine e_on (len_h top_lst) ?_
      rw [List.length_map]
      repeat walk_at "go"
      rw [List.append_assoc]
      refine ⟨k, _, rfl, g.src.app, by omega, fun r mu3 r0 r1 g3 => ?_⟩
      obtain ⟨mub2, rfl, g4⟩ := gone_app g.src g3
      have gg := g.trans g4
      have pos : 0 < cs.length := by
        cases cs with
        | nil => cases hcs
        | cons x l => exact Nat.succ_pos _
      have lb : mub2.length = mub.length := g4.1
      have top2 : (mub2 ++ (more ++ [some (.lst (cs.map cD))]))[(mub ++ more).length]? = some (some (.lst (cs.map cD))) := by
        rw [← List.append_assoc, List.getElem?_append_right (by rw [List.length_append, List.length_append]; omega), List.length_append, List.length_append, show mub.length + more.length - (mub2.length + more.length) = 0 by omega]
        rfl
      have hf2 : (mub2 ++ (more ++ [some (.lst (cs.map cD))]))[f]? = some (some (.lst (R.map lS))) := by
        have l2 := (List.getElem?_eq_some_iff.mp hf).1
        rw [List.getElem?_append_right lf] at hf
        rw [List.length_append] at l2
        rw [List.getElem?_append_right (by omega), lb, List.getElem?_append_left (by omega)]
        exact hf
      obtain ⟨x, ex, mx⟩ := at_int (xs := cs.map cD) r0 (by rw [List.length_map]; omega)
      obtain ⟨⟨j, inn⟩, hx, rfl⟩ := List.mem_map.mp mx
      obtain ⟨b1, e1, hb1, me, ce, ei⟩ := ck.ok _ hx
      dsimp only at hb1 ei
      subst ei
      have ex : atI (cs.map cD) r = some (.tup [.int (j : Nat), lS (keepS b1 e1.2)]) := ex
      refine e_on (x := .tup [.int (j : Nat), lS (keepS b1 e1.2)]) ((ix_h top2).trans ex) ?_
      repeat walk_at "go"
      have lj : j < R.length := (List.getElem?_eq_some_iff.mp hb1).1
      obtain ⟨d1, ed1, ep⟩ := popAt_at (ds := R.map lS) (r := (j : Nat)) (by omega) (by rw [List.length_map]; omega) (by rw [List.length_map]; omega)
      rw [Int.toNat_natCast] at ed1 ep
      rw [List.getElem?_map, hb1] at ed1
      cases ed1
      generalize more ++ [some (.lst (cs.map cD))] = M at *
      refine e_on (mut_h hf2) ?_
      repeat walk_at "go"
      refine e_on (mut_h hf2) ?_
      dsimp only
      with_reducible refine e_on ep ?_
      dsimp only
      have ltf := (List.getElem?_eq_some_iff.mp hf2).1
      have e4 : (mub2 ++ M).set f (some (.lst ((R.map lS).eraseIdx j))) = mub2 ++ M.set (f - mub2.length) (some (.lst ((R.map lS).eraseIdx j))) := List.set_append_right _ _ (by omega)
      have f4 : (mub2 ++ M.set (f - mub2.length) (some (.lst ((R.map lS).eraseIdx j))))[f]? = some (some (.lst ((R.map lS).eraseIdx j))) := by rw [← e4, List.getElem?_set_self ltf]
      rw [e4]
      generalize M.set (f - mub2.length) (some (.lst ((R.map lS).eraseIdx j))) = M4 at f4 ⊢
      repeat walk_at "go"
      refine e_addM ?_
      repeat walk_at "go"
      have lb1 := (w.blk b1 (List.mem_of_getElem? hb1)).1
      with_reducible refine comp_if (mk := D.str) (fun z => !decide (z ∈ keepS b1 e1.2)) D.str (fun z => [some (.h k), some (.d (.lst (es.map spD))), some (.d (tS given)), some (.d (tS h)), some (.h f), some (.d x), some (.h (mub ++ more).length), some (.d (.int (j : Nat))), some (.d (lS b1)), c, d, some (.d (lS (keepS b1 e1.2))), some (.d (.str z))]) b1 ?_ ?_ ?_ (by omega) ?_
      · exact fun _ _ => rfl
      · intro z _ P p
        repeat walk_at "go"
        exact p
      · intro z _ _ P p
        repeat walk_at "go"
        exact p
      repeat walk_at "go"
      refine e_on (rdL_h f4) <| e_on rfl ⟨?_, ?_⟩
      · have : ((R.map lS).eraseIdx j).length ≤ (R.map lS).length := List.length_eraseIdx_le _ _
        rw [List.length_map] at this
        rw [sizeLine_eq]
        show _ + 2 ≤ _
        omega
      have er : (R.map lS).eraseIdx j = (R.eraseIdx j).map lS := by
        rw [List.eraseIdx_eq_take_drop_succ, List.eraseIdx_eq_take_drop_succ, List.map_append, List.map_take, List.map_drop]
      have er2 : (R.map lS).eraseIdx j ++ [.lst ((keepS b1 e1.2).map D.str), .lst ((lessS b1 (keepS b1 e1.2)).map D.str)] = (R.eraseIdx j ++ [keepS b1 e1.2, lessS b1 e1.2]).map lS := by
        rw [er, less_keep, List.map_append]
        rfl
      refine hC _ _ ⟨mub2, M4 ++ [some (.lst ((R.eraseIdx j ++ [keepS b1 e1.2, lessS b1 e1.2]).map lS))], (mub2 ++ M4).length, R.eraseIdx j ++ [keepS b1 e1.2, lessS b1 e1.2], _, _, _, _, _, _, _, ?_, gg, ?_, ?_, w.cut hb1 me ce, ?_, rfl⟩
      · rw [← List.append_assoc, ← er2]
        rfl
      · rw [← List.append_assoc]
        exact top_lst
      · rw [List.length_append]
        omega
      · have := List.length_eraseIdx_of_lt lj
        rw [List.length_append, this]
        show _ ≤ _ + 2
        omega
  · rintro sl mu1 ⟨mub, more, f, R, x5, x6, x7, x8, x9, x10, x11, rfl, g, hf, lf, w, li, rfl⟩
    have lR := w.len
    have : (rangeD 0 20).length = 20 := rfl
    omega
end Law
set_option Elab.async false
set_option linter.all false
set_option maxRecDepth 100000
set_option maxHeartbeats 4000000
namespace Law
open PySem PySem.Spec L2 DL
/-! B8: what is shown and compared; splits turned; a row of splits -/
theorem fit0_up {n n2 m m2 : Nat} {d : D} {p : PyData} (a : Fit0 n m d p) (h : n ≤ n2) (h2 : m ≤ m2) : Fit0 n2 m2 d p := ⟨a.py, a.sh, a.lv, Nat.le_trans a.bk h, Nat.le_trans a.dp h2, a.nd⟩
def Nm (h : List Str) : Prop := (∀ z ∈ h, z ∈ names8) ∧ h.length ≤ 8
theorem fit_head {h : List Str} (H : Nm h) : ∃ p, Fit0 808 1 (headT h) p := ⟨_, fit0_up (Fit0.tup (m := 0) (fits_strs h fun z hz => (names_ok (H.1 z hz)).1)) (by have := H.2; omega) (Nat.le_refl _)⟩
theorem fits_heads : ∀ hs : List (List Str), (∀ h ∈ hs, Nm h) → ∃ ps, Fits (900 * hs.length) 1 (hs.map headT) ps
  | [], _ => ⟨[], Fits.nil⟩
  | h :: hs, H => by
    obtain ⟨ps, fs⟩ := fits_heads hs fun x hx => H x (List.mem_cons_of_mem _ hx)
    obtain ⟨p, f⟩ := fit_head (H h (List.mem_cons_self ..))
    rw [List.map_cons]
    exact ⟨_ :: ps, Fits.cons f fs (by rw [List.length_cons]; omega)⟩
theorem fit_heads {hs : List (List Str)} (H : ∀ h ∈ hs, Nm h) (hl : hs.length < 30) : ∃ p, Fit 30000 (.lst (hs.map headT)) p := by
  obtain ⟨ps, fs⟩ := fits_heads hs H
  exact ⟨_, (fit0_up (Fit0.lst fs) (by omega) (Nat.le_refl _)).fit (by decide)⟩
theorem fits_spls : ∀ es : List Spl, (∀ e ∈ es, Nm e.1 ∧ Nm e.2) → ∃ ps, Fits (2000 * es.length) 2 (es.map spD) ps
  | [], _ => ⟨[], Fits.nil⟩
  | e :: es, H => by
    obtain ⟨ps, fs⟩ := fits_spls es fun x hx => H x (List.mem_cons_of_mem _ hx)
    obtain ⟨h1, h2⟩ := H e (List.mem_cons_self ..)
    obtain ⟨p1, f1⟩ := fit_head h1
    obtain ⟨p2, f2⟩ := fit_head h2
    rw [List.map_cons]
    have f : Fit0 1900 2 (spD e) _ := fit0_up (Fit0.tup (m := 1) (n := 1700) (Fits.cons f1 (Fits.cons (n2 := 0) (n3 := 809) f2 Fits.nil (by omega)) (by omega))) (by omega) (Nat.le_refl _)
    exact ⟨_ :: ps, Fits.cons f fs (by rw [List.length_cons]; omega)⟩
theorem fit_spls {es : List Spl} (H : ∀ e ∈ es, Nm e.1 ∧ Nm e.2) (hl : es.length < 10) : ∃ p, Fit 30000 (.lst (es.map spD)) p := by
  obtain ⟨ps, fs⟩ := fits_spls es H
  exact ⟨_, (fit0_up (Fit0.lst fs) (by omega) (Nat.le_refl _)).fit (by decide)⟩
/-! a list of headings that changes, beside one -/
abbrev pyH (h : List Str) : PyData := .tuple (h.map PyData.str)
theorem pys_H : ∀ hs : List (List Str), toPys (hs.map headT) = some (hs.map pyH)
  | [] => rfl
  | h :: hs => by
    have ih := pys_H hs
    simp only [List.map_cons, toPys, toPy, pys_strs, Option.map_some, ih]
theorem lay_H : ∀ hs : List (List Str), (∀ h ∈ hs, ∀ z ∈ h, PyData.strOk z = true) → PyData.canLayAll0 (hs.map pyH) = true
  | [], _ => rfl
  | c :: cs, h => by
    have e1 : PyData.canLayAll0 (c.map PyData.str) = true := lay_strs c (h c (List.mem_cons_self ..))
    have e2 := lay_H cs fun g hg => h g (List.mem_cons_of_mem _ hg)
    simp only [List.map_cons, PyData.canLayAll0, PyData.canLay0, e1, e2, Bool.and_self]
theorem depth_H : ∀ hs : List (List Str), PyData.depthAll (hs.map pyH) ≤ 1
  | [] => Nat.zero_le _
  | c :: cs => by
    have ih := depth_H cs
    show max (PyData.depthAll (c.map PyData.str) + 1) (PyData.depthAll (cs.map pyH)) ≤ 1
    rw [depth_strs]
    omega
theorem eqv_H : ∀ hs : List (List Str), PyData.eqvAll (hs.map pyH) (hs.map pyH) = true
  | [] => rfl
  | c :: cs => by
    have ih := eqv_H cs
    show (PyData.eqvAll (c.map PyData.str) (c.map PyData.str) && PyData.eqvAll (cs.map pyH) (cs.map pyH)) = true
    rw [eqv_strs, ih, decide_eq_true rfl]
    rfl
theorem ne_H {f : Nat} {hs : List (List Str)} {mu : Mu} (hf : mu[f]? = some (some (.lst (hs.map headT)))) (hn : ∀ h ∈ hs, ∀ z ∈ h, PyData.strOk z = true) : dEq true (.h f) (.d (.lst (hs.map headT))) mu = some (.bl false) := by
  have e1 : pk (.h f) mu = some (.lst (hs.map headT)) := by
    unfold pk
    simp only [hf]
    rfl
  have sh : SeqAt.shaped (.list (hs.map pyH)) = true := by
    unfold SeqAt.shaped
    have d : PyData.depth (.list (hs.map pyH)) ≤ 64 := by
      show PyData.depthAll (hs.map pyH) + 1 ≤ 64
      have := depth_H hs
      omega
    rw [decide_eq_true d, Bool.and_true]
    simpa only [PyData.canLay0] using lay_H hs hn
  show (pk (.h f) mu).bind _ = _
  rw [e1]
  show (toPy (.lst (hs.map headT))).bind _ = _
  have e2 : toPy (.lst (hs.map headT)) = some (.list (hs.map pyH)) := by
    simp only [toPy, pys_H, Option.map_some]
  rw [e2]
  show (if (SeqAt.shaped _ && SeqAt.shaped _) = true then _ else _) = _
  rw [sh]
  show some (D.bl (!PyData.eqvAll (hs.map pyH) (hs.map pyH))) = _
  rw [eqv_H]
  rfl
/-! splits, turned or not -/
def Tw (H : List Str) (e e2 : Spl) : Prop := e2 = e ∨ e2 = (e.1, lessS (lessS H e.1) e.2)
theorem tw_cut {H b : List Str} {e e2 : Spl} (t : Tw H e e2) (hb : ∀ z ∈ b, z ∈ H) : cutB e2 b = cutB e b := by
  rcases t with rfl | rfl
  · rfl
  · rw [Bool.eq_iff_iff, cut_iff, cut_iff]
    have key : (∀ z ∈ b, z ∉ e.1) → ∀ z ∈ b, z ∈ lessS (lessS H e.1) e.2 ↔ z ∉ e.2 := fun g z hz => by
      rw [less_mem, less_mem]
      exact ⟨fun w => w.2, fun w => ⟨⟨hb z hz, g z hz⟩, w⟩⟩
    constructor
    · rintro ⟨g, ⟨z, hz, h1⟩, y, hy, h2⟩
      exact ⟨g, ⟨y, hy, Classical.byContradiction fun w => h2 ((key g y hy).mpr w)⟩, z, hz, (key g z hz).mp h1⟩
    · rintro ⟨g, ⟨z, hz, h1⟩, y, hy, h2⟩
      exact ⟨g, ⟨y, hy, (key g y hy).mpr h2⟩, z, hz, fun w => (key g z hz).mp w h1⟩
theorem end_same {T T' : Spl → Prop} {H cols : List Str} {R R' : List (List Str)} (h : End T cols R) (h' : End T' cols R') (sub : ∀ z ∈ cols, z ∈ H) (t : ∀ e', T' e' → ∃ e, T e ∧ Tw H e e') (t' : ∀ e, T e → ∃ e', T' e' ∧ Tw H e e') : R.Perm R' := by
  rcases h.way with ⟨c, rfl⟩ | ⟨c, d⟩
  · rcases h'.way with ⟨_, rfl⟩ | ⟨c2, _⟩
    · exact .refl _
    · exact absurd c c2
  · rcases h'.way with ⟨c2, _⟩ | ⟨_, d'⟩
    · exact absurd c2 c
    · refine d.uniq d' (fun b hb e' he' => ?_) fun b hb e he => ?_
      · obtain ⟨e, he, tw⟩ := t e' he'
        rw [tw_cut tw fun z hz => sub z (d.mem hb z hz)]
        exact h.stb b hb e he
      · obtain ⟨e', he', tw⟩ := t' e he
        rw [← tw_cut tw fun z hz => sub z (d'.mem hb z hz)]
        exact h'.stb b hb e' he'
theorem end_nil {T : Spl → Prop} {R : List (List Str)} (h : End T [] R) : R = [] := by
  rcases h.way with ⟨_, e⟩ | ⟨c, _⟩
  · exact e
  · exact absurd rfl c
theorem end_none {T : Spl → Prop} {cols : List Str} {R : List (List Str)} (h : End T cols R) (n : ∀ e, ¬ T e) : sortH R = if cols = [] then [] else [cols] := by
  rcases h.way with ⟨c, rfl⟩ | ⟨c, d⟩
  · rw [if_pos c]
    exact List.mergeSort_nil
  · rw [if_neg c]
    have p := d.uniq (Der.start (T := T) c) (fun b hb e he => absurd he (n e)) fun b hb e he => absurd he (n e)
    rw [sortH_same p]
    exact List.mergeSort_singleton _
/-! a row of splits -/
def col8 : List Str := ["a", "b", "c", "d", "e", "f", "g", "h"]
def rows7 : List Spl := [(["a"], ["b"]), (["b"], ["c"]), (["c"], ["d"]), (["d"], ["e"]), (["e"], ["f"]), (["f"], ["g"]), (["g"], ["h"])]
def ones7 : List (List Str) := [["b"], ["c"], ["d"], ["e"], ["f"], ["g"], ["h"]]
theorem rows_turn : turnS [lessS col8 ["a"]] rows7 = ones7 := by decide +kernel
theorem rows_stb : ∀ b ∈ ones7, ∀ e ∈ rows7, cutB e b = false := by decide +kernel
theorem ones_sort : sortH ones7 = ones7 := by
  refine List.mergeSort_of_pairwise ?_
  simp only [leH_eq]
  decide +kernel
theorem rows_end {T : Spl → Prop} {R : List (List Str)} (h : End T (lessS col8 ["a"]) R) (t : ∀ e, T e ↔ e ∈ rows7) : sortH R = ones7 := by
  have c : lessS col8 ["a"] ≠ [] := by decide +kernel
  have w : Way (fun e => e ∈ rows7) (lessS col8 ["a"]) ones7 := by
    rw [← rows_turn]
    exact Way.turn (.inr ⟨c, .start c⟩) fun e he => he
  rcases h.way with ⟨c2, _⟩ | ⟨_, d⟩
  · exact absurd c2 c
  rcases w with ⟨c2, _⟩ | ⟨_, d'⟩
  · exact absurd c2 c
  have p := d.uniq d' (fun b hb e he => h.stb b hb e ((t e).mpr he)) fun b hb e he => rows_stb b hb e ((t e).mp he)
  rw [sortH_same p, ones_sort]
end Law
set_option Elab.async false
set_option linter.all false
set_option maxRecDepth 100000
set_option maxHeartbeats 4000000
namespace Law
open PySem PySem.Spec L2 DL
local macro_rules | `(tactic| walk_at "go") => `(tactic| (change _; first | ((with_reducible show wCons _ _ _ _ _); (with_reducible refine e_cons ?_)) | ((with_reducible show wVar _ _ _ _); (with_reducible refine e_var (by with_unfolding_all exact rfl) ?_)) | ((with_reducible show wNil _ _ _); (with_reducible refine e_nil ?_)) | ((with_reducible show wC _ _ _ _); (with_reducible refine e_c ?_)) | ((with_reducible show wFn _ _ _ _ _); (with_reducible refine e_fn ?_)) | ((with_reducible show wCall _ _ _ _ _); (with_reducible refine e_call ?_)) | ((with_reducible show wBin _ _ _ _ _ _); (with_reducible refine e_bin ?_)) | ((with_reducible show wUn _ _ _ _ _); (with_reducible refine e_un ?_)) | ((with_reducible show wSeq (wSet _ _) _ _ _ _); (with_reducible refine e_sset ?_)) | ((with_reducible show wSeq (wIf _ _ wSkip) _ _ _ _); (with_reducible refine e_sif ?_)) | ((with_reducible show wSeq (wDrop _) _ _ _ _); (with_reducible refine e_sdrop ?_)) | ((with_reducible show wSeq (wDput _ _ _) _ _ _ _); (with_reducible refine e_sput ?_)) | ((with_reducible show wSeq (wFor _ _ _) _ _ _ _); (with_reducible refine e_sfor ?_)) | ((with_reducible show wSeq (wForL _ _ _) _ _ _ _); (with_reducible refine e_sforL ?_)) | ((with_reducible show wSeq (wAsg _ _) _ _ _ _); (with_reducible refine e_sasg ?_)) | ((with_reducible show wSeq (wPar _ _ _) _ _ _ _); (with_reducible refine e_spar ?_)) | ((with_reducible show wSeq (wWhile _ _) _ _ _ _); (with_reducible refine e_swhile ?_)) | ((with_reducible show wSeq _ _ _ _ _); (with_reducible refine e_seq ?_)) | ((with_reducible show wRet _ _ _ _); (with_reducible refine e_ret ?_)) | ((with_reducible show wDrop _ _ _ _); (with_reducible refine e_drop ?_)) | ((with_reducible show wSet _ _ _ _ _); (with_reducible refine e_set ?_)) | ((with_reducible show wIf _ _ _ _ _ _); (with_reducible refine e_if ?_)) | ((with_reducible show wSkip _ _ _); (with_reducible refine e_skip ?_)) | ((with_reducible show wFor _ _ _ _ _ _); (with_reducible refine e_for ?_)) | ((with_reducible show wForL _ _ _ _ _ _); (with_reducible refine e_forL ?_)) | ((with_reducible show wDput _ _ _ _ _ _); (with_reducible refine e_dput ?_)) | ((with_reducible show wB _ _ _ _); (with_reducible refine e_B ?_)) | ((with_reducible show wNotT _ _ _ _); (with_reducible refine e_not ?_)) | ((with_reducible show wAndT _ _ _ _ _); (with_reducible refine e_and ?_)) | ((with_reducible show wOrT _ _ _ _ _); (with_reducible refine e_or ?_)) | ((with_reducible show wAndV _ _ _ _ _); (with_reducible refine e_andV ?_)) | ((with_reducible show wOrV _ _ _ _ _); (with_reducible refine e_orV ?_)) | ((with_reducible show wNotV _ _ _ _); (with_reducible refine e_notV ?_)) | ((with_reducible show wIfE _ _ _ _ _ _); (with_reducible refine e_ifE ?_)) | ((with_reducible show wYes _ _ _); (with_reducible refine e_yes ?_)) | ((with_reducible show wIter _ _ _ _); (with_reducible refine e_iter ?_)) | ((with_reducible show wRange1 _ _ _ _); (with_reducible refine e_range ?_)) | ((with_reducible show wRange2 _ _ _ _); (with_reducible refine e_range2 ?_)) | ((with_reducible show wComp _ _ _ _ _ _ _ _); (with_reducible refine e_comp ?_)) | ((with_reducible show wCompL _ _ _ _ _ _ _ _); (with_reducible refine e_compL ?_)) | ((with_reducible show wDget _ _ _ _ _); (with_reducible refine e_dget ?_)) | ((with_reducible show wMut _ _ _ _ _ _); (with_reducible refine e_mut ?_)) | ((with_reducible show wPart _ _ _ _); (with_reducible refine e_part ?_)) | ((with_reducible show wNoPart _ _ _); (with_reducible refine e_nopart ?_)) | ((with_reducible show wSlice _ _ _ _ _ _); (with_reducible refine e_slice ?_)) | ((with_reducible show wListM _ _ _ _); (with_reducible refine e_listM ?_)) | ((with_reducible show wRevM _ _ _ _); (with_reducible refine e_revM ?_)) | ((with_reducible show wNewL _ _ _ _); (with_reducible refine e_newL ?_)) | ((with_reducible show wListRg _ _ _ _); (with_reducible refine e_listRg ?_)) | ((with_reducible show wListRgM _ _ _ _); (with_reducible refine e_listRgM ?_)) | ((with_reducible show wEnT _ _ _ _); (with_reducible refine e_enT ?_)) | ((with_reducible show wDictL _ _ _ _); (with_reducible refine e_dictL ?_)) | ((with_reducible show wCompM _ _ _ _ _ _ _ _ _); (with_reducible refine e_compM ?_)) | ((with_reducible show wIxS _ _ _ _ _); (with_reducible refine e_ixS ?_)) | ((with_reducible show wSortHM _ _ _ _); (with_reducible refine e_sortHM ?_)) | ((with_reducible show wChain _ _ _ _ _ _ _ _); (with_reducible refine e_chain ?_)) | ((with_reducible show wChain3 _ _ _ _ _ _ _ _ _ _); (with_reducible refine e_chain3 ?_)) | ((with_reducible show AsB _ _); (with_reducible refine e_asB ?_)) | ((with_reducible show AsI _ _); (with_reducible refine e_asI ?_)) | ((with_reducible show AsD _ _); (with_reducible refine e_asD ?_)) | ((with_reducible show AsBd _ _); (with_reducible refine e_asBd ?_)) | ((with_reducible show As1 _ _); (with_reducible refine e_as1 ?_)) | ((with_reducible show As2 _ _); (with_reducible refine e_as2 ?_)) | ((with_reducible show AsT _ _); (with_reducible refine e_asT ?_)) | ((with_reducible show AsLs _ _); (with_reducible refine e_asLs ?_)) | ((with_reducible show AsR _ _); (with_reducible refine e_asR ?_); first | refine ⟨by decide, ?_⟩ | refine ⟨in62' (by omega), ?_⟩) | ((with_reducible show ite (true = true) _ _); (with_reducible refine e_true ?_)) | ((with_reducible show ite (false = true) _ _); (with_reducible refine e_false ?_)) | ((with_reducible show ite ((!true) = true) _ _); (with_reducible refine e_nt ?_)) | ((with_reducible show ite ((!false) = true) _ _); (with_reducible refine e_nf ?_)) | ((with_reducible show On (dDisp _ _ _) _); (with_reducible refine e_on (by with_unfolding_all first | exact on_dispC (by repeat (first | exact Ds.nil | apply Ds.cons)) rfl) ?_)) | ((with_reducible show On (dIx _ _ _) _); (with_reducible refine e_on (by with_unfolding_all first | (with_reducible exact on_ixT0) | (with_reducible exact on_ixT1) | (with_reducible exact on_ixL0) | exact on_ixT (by assumption) | exact on_ixL (by assumption)) ?_)) | ((with_reducible show On (dLen _ _) _); (with_reducible refine e_on (by with_unfolding_all first | (with_reducible exact on_lenTm) | (with_reducible exact on_lenLm) | exact on_lenT | exact on_lenL) ?_)) | ((with_reducible show On (dTuple _ _) _); (with_reducible refine e_on (by with_unfolding_all first | exact on_tupleT | exact on_tupleL) ?_)) | ((with_reducible show On (dList _ _) _); (with_reducible refine e_on (by with_unfolding_all first | exact on_listT | exact on_listL) ?_)) | ((with_reducible show On (dEq _ _ _ _) _); (with_reducible refine e_on (by with_unfolding_all first | (with_reducible exact on_sameS) | (with_reducible exact on_eqN) | (with_reducible exact on_neN) | (with_reducible exact on_eqI) | (with_reducible exact on_neI) | (with_reducible exact on_eqS) | (with_reducible exact on_neS) | (with_reducible exact on_nilNe) | (with_reducible exact on_nilEq)) ?_)) | ((with_reducible show On (dIsi _ _) _); (with_reducible refine e_on (by with_unfolding_all first | (show _ = some (D.bl true); exact rfl) | (show _ = some (D.bl false); exact rfl)) ?_)) | ((with_reducible show On (dIs _ _ _ _) _); (with_reducible refine e_on (by with_unfolding_all first | (show _ = some (D.bl true); exact rfl) | (show _ = some (D.bl false); exact rfl)) ?_)) | ((with_reducible show On (dAll _ _) _); (with_reducible refine e_on (by with_unfolding_all first | exact on_all) ?_)) | ((with_reducible show On (dAny _ _) _); (with_reducible refine e_on (by with_unfolding_all first | exact on_any) ?_)) | ((with_reducible show On (dMul _ _ _) _); (with_reducible refine e_on (by with_unfolding_all first | exact on_mul (by decide)) ?_)) | ((with_reducible show On (dMod _ _ _) _); (with_reducible refine e_on (by with_unfolding_all first | exact on_mod (by decide)) ?_)) | ((with_reducible show On (dFdiv _ _ _) _); (with_reducible refine e_on (by with_unfolding_all first | exact on_fdiv (by decide) (by decide)) ?_)) | ((with_reducible show On (dMin2 _ _) _); (with_reducible refine e_on (by with_unfolding_all first | (with_reducible exact on_min2N) | exact rfl) ?_)) | ((with_reducible show On (dMax2 _ _) _); (with_reducible refine e_on (by with_unfolding_all first | (with_reducible exact on_max2N) | exact rfl) ?_)) | ((with_reducible show On (dLt _ _ _) _); (with_reducible refine e_on (by with_unfolding_all first | (with_reducible exact on_ltN) | (with_reducible exact on_ltI) | (with_reducible exact on_ltS)) ?_)) | ((with_reducible show On (dLe _ _ _) _); (with_reducible refine e_on (by with_unfolding_all first | (with_reducible exact on_leN) | (with_reducible exact on_leI)) ?_)) | ((with_reducible show On (dGt _ _ _) _); (with_reducible refine e_on (by with_unfolding_all first | (with_reducible exact on_gtN) | (with_reducible exact on_gtI)) ?_)) | ((with_reducible show On (dGe _ _ _) _); (with_reducible refine e_on (by with_unfolding_all first | (with_reducible exact on_geN) | (with_reducible exact on_geI)) ?_)) | ((with_reducible show On (dAdd _ _ _) _); (with_reducible refine e_on (by with_unfolding_all first | (with_reducible exact on_addII) | (with_reducible refine on_addTS ?_; first | omega | (simp only [List.length_cons, List.length_nil, List.length_map, List.length_append, List.length_singleton, List.length_reverse, List.length_take, List.length_drop]; omega)) | (with_reducible refine on_addLS ?_; first | omega | (simp only [List.length_cons, List.length_nil, List.length_map, List.length_append, List.length_singleton, List.length_reverse, List.length_take, List.length_drop]; omega)) | exact on_addTT (by first | omega | (simp only [List.length_cons, List.length_nil, List.length_map, List.length_append, List.length_singleton, List.length_reverse, List.length_take, List.length_drop]; omega)) | exact on_addLL (by first | omega | (simp only [List.length_cons, List.length_nil, List.length_map, List.length_append, List.length_singleton, List.length_reverse, List.length_take, List.length_drop]; omega))) ?_)) | ((with_reducible show On (dIn _ _ _ _) _); (with_reducible refine e_on (by with_unfolding_all first | (with_reducible exact on_inTS) | (with_reducible exact on_ninTS) | (with_reducible exact on_inLS) | (with_reducible exact on_ninLS)) ?_)) | ((with_reducible show On (dSorted _ _) _); (with_reducible refine e_on (by with_unfolding_all first | exact on_sortLS (by first | omega | (simp only [List.length_cons, List.length_nil, List.length_map, List.length_append, List.length_singleton, List.length_reverse, List.length_take, List.length_drop]; omega)) | exact on_sortTS (by first | omega | (simp only [List.length_cons, List.length_nil, List.length_map, List.length_append, List.length_singleton, List.length_reverse, List.length_take, List.length_drop]; omega))) ?_)) | ((with_reducible show On (dLenSet _ _) _); (with_reducible refine e_on (by with_unfolding_all first | exact on_lenSet (by first | omega | (simp only [List.length_cons, List.length_nil, List.length_map, List.length_append, List.length_singleton, List.length_reverse, List.length_take, List.length_drop]; omega)) | exact on_lenSetT (by first | omega | (simp only [List.length_cons, List.length_nil, List.length_map, List.length_append, List.length_singleton, List.length_reverse, List.length_take, List.length_drop]; omega))) ?_)) | ((with_reducible show On (dSub _ _ _) _); (with_reducible refine e_on (by with_unfolding_all first | (with_reducible exact on_subII)) ?_)) | ((with_reducible show On (dSlice _ _ _ _) _); (with_reducible refine e_on (by with_unfolding_all first | (with_reducible exact on_sliceTm) | (with_reducible exact on_sliceLm) | exact on_sliceT | exact on_sliceL) ?_)) | ((with_reducible show On (dRepL _ _ _) _); (with_reducible refine e_on (by with_unfolding_all first | (with_reducible exact on_rep4) | exact on_repLL ⟨by decide, by decide, by first | omega | (simp only [List.length_cons, List.length_nil, List.length_map, List.length_append, List.length_singleton, List.length_reverse, List.length_take, List.length_drop]; omega)⟩) ?_)) | ((with_reducible show On (dRepT _ _ _) _); (with_reducible refine e_on (by with_unfolding_all first | (with_reducible refine on_repT2m ?_; first | omega | (simp only [List.length_cons, List.length_nil, List.length_map, List.length_append, List.length_singleton, List.length_reverse, List.length_take, List.length_drop]; omega)) | exact on_repT2 (by first | omega | (simp only [List.length_cons, List.length_nil, List.length_map, List.length_append, List.length_singleton, List.length_reverse, List.length_take, List.length_drop]; omega))) ?_)) | ((with_reducible show On (dRevT _ _) _); (with_reducible refine e_on (by with_unfolding_all first | (with_reducible exact on_revTm) | exact rfl) ?_)) | ((with_reducible show On (dNeg _ _) _); (with_reducible refine e_on (by with_unfolding_all first | exact rfl) ?_)) | ((with_reducible show On (dInt1 _ _) _); (with_reducible refine e_on (by with_unfolding_all first | exact rfl) ?_)) | ((with_reducible show On (dAbs _ _) _); (with_reducible refine e_on (by with_unfolding_all first | exact rfl) ?_)) | ((with_reducible show On (dPow _ _ _) _); (with_reducible refine e_on (by with_unfolding_all first | exact rfl) ?_)) | ((with_reducible show On (walkOf _) _); (with_reducible refine e_on (by with_unfolding_all first | exact rfl) ?_)) | ((with_reducible show On (gN _ _ _) _); (with_reducible refine e_on (by with_unfolding_all first | exact rfl) ?_)) | ((with_reducible show On (g2 _ _ _ _) _); (with_reducible refine e_on (by with_unfolding_all first | exact rfl) ?_))))
/-! B9: the law -/
theorem sp_nm {H : List Str} {e : Spl} (s : Sp H e.1 e.2) (h8 : ∀ z ∈ H, z ∈ names8) (l8 : H.length ≤ 8) : Nm e.1 ∧ Nm e.2 := by
  have := s.few
  exact ⟨⟨fun z hz => h8 z (s.gh z hz), by omega⟩, fun z hz => h8 z (s.sh z hz), by omega⟩
theorem twice {E : DEnds} {mu : Mu} {sl : Sl} {g : WG} {b : WS} (J : Sl → Mu → Prop) (j : J sl mu) (step : ∀ (d : D) (sl : Sl) (mu : Mu), J sl mu → ∀ C : Sl → Mu → Prop, (∀ sl mu, J sl mu → C sl mu) → On (g d sl) fun sl1 => b { nx := C, rt := E.rt, bk := E.nx, ct := C } sl1 mu)
    (fin : ∀ sl mu, J sl mu → E.nx sl mu) (ds : List D) : wForD g b E ds sl mu :=
  for_inv (fun _ sl mu => J sl mu) ds 0 sl mu j (fun _ d sl mu _ h C hC => step d sl mu h C hC) fun sl mu h => fin sl mu h
theorem less_same (H : List Str) : lessS H H = [] := List.filter_eq_nil_iff.mpr fun z hz => by simp [hz]
theorem rows_len : ∀ e ∈ rows7, e.1.length < 30 ∧ e.2.length < 30 := by decide +kernel
def lawW : WF := fun ss mu Q => ∃ ns, ss = [.d (.scr ns)] ∧ ns.length < 1000 ∧ mu = [] ∧ Q (.d (.bl true)) []
theorem sp_law (ss : List S) (mu : Mu) (Q : S → Mu → Prop) (h : lawW ss mu Q) : wDef 1 17 (w_law openW lheadW pickW dsplitW someW cutBW blocksW otherW anyW) ss mu Q := by
  obtain ⟨ns, rfl, hl, rfl, q⟩ := h
  refine ⟨rfl, ?_⟩
  unfold w_law
  repeat walk_at "go"
  refine ⟨ns, rfl, hl, fun mu1 k hs => ?_⟩
  repeat walk_at "go"
  refine for_inv (fun i sl mu3 => Src mu3 k ∧ ∃ a b c d e f g h i j k', sl = [some (.d (.scr ns)), some (.h k), a, b, c, d, e, f, g, h, i, j, k', none, none, none, none]) _ 0 _ mu1 ⟨hs, _, _, _, _, _, _, _, _, _, _, _, rfl⟩ ?_ ?_
  · rintro i d sl mu3 hd ⟨h3, a, b, c, d2, e, f, g, h, i, j, k', rfl⟩ C hC
    have hC : ∀ mu a b c d e f g h i j k', Src mu k → C [some (.d (.scr ns)), some (.h k), a, b, c, d, e, f, g, h, i, j, k', none, none, none, none] mu := fun mu a b c d e f g h i j k' s => hC _ _ ⟨s, _, _, _, _, _, _, _, _, _, _, _, rfl⟩
    repeat walk_at "go"
    refine ⟨k, 2, 8, rfl, by decide, by decide, by decide, h3, fun H mu4 ah h8 l2 l8 g4 => ?_⟩
    have okH : ∀ z ∈ H, PyData.strOk z = true := fun z hz => (names_ok (h8 z hz)).2
    have l2' : 2 ≤ H.length := by omega
    repeat walk_at "go"
    refine ⟨k, 8, rfl, g4.src, by decide, fun r mu5 r0 r1 g5 => ?_⟩
    repeat walk_at "go"
    have lr : (rangeD 0 r).length < 8 := by
      unfold rangeD
      rw [List.length_map, List.length_range]
      omega
    refine comp_inv (fun i acc mu => ∃ es : List Spl, acc = es.map spD ∧ es.length = i ∧ (∀ e ∈ es, Sp H e.1 e.2) ∧ Src mu k) _ [] 0 _ ⟨[], rfl, rfl, (fun e he => by cases he), g5.src⟩ ?_ ?_
    · rintro i x acc mu6 hx ⟨es, rfl, el, eo, s6⟩ C2 hC2
      rw [Nat.zero_add] at hC2 el
      have li := (List.getElem?_eq_some_iff.mp hx).1
      refine e_on rfl ?_
      repeat walk_at "go"
      refine ⟨k, H, rfl, ah.nodup, l2', l8, s6, fun g2 s2 mu7 sp g7 => ⟨?_, hC2 _ _ ⟨es ++ [(g2, s2)], ?_, ?_, ?_, g7.src⟩⟩⟩
      · rw [sizeLine_eq, List.length_map]
        omega
      · rw [List.map_append]
        rfl
      · rw [List.length_append, List.length_singleton, el]
      · intro e he
        rcases List.mem_append.mp he with he | he
        · exact eo e he
        · rw [List.mem_singleton.mp he]
          exact sp
    rintro acc mu6 ⟨es, rfl, el, eo, s6⟩
    rw [Nat.zero_add] at el
    have nm : ∀ e ∈ es, Nm e.1 ∧ Nm e.2 := fun e he => sp_nm (eo e he) h8 l8
    repeat walk_at "go"
    refine ⟨k, _, dS H, 0, rfl, rfl, by decide, s6, by rw [List.length_map]; omega, fun ys zs mu7 pm sub _ g7 => ?_⟩
    obtain ⟨us, vs, rfl, pv, sv⟩ := sub_dS pm sub
    have lu : us.length ≤ 8 := by
      have := sv.length_le
      rw [pv.length_eq] at this
      omega
    repeat walk_at "go"
    have lg : (sortS us).length ≤ 8 := by rw [sortS_length]; exact lu
    generalize sortS us = G at *
    refine ⟨k, es, G, H, rfl, g7.src, l8, by omega, by omega, okH, fun R mu8 en g8 => ?_⟩
    have nR : ∀ b ∈ R, Nm b := fun b hb => ⟨fun z hz => h8 z (less_mem.mp (en.way.mem hb z hz)).1, by have h1 := en.way.blen hb; have h2 := less_len H G; omega⟩
    have lR : R.length ≤ 8 := by
      have h1 := en.way.len
      have h2 := less_len H G
      omega
    obtain ⟨pT, fT⟩ := fit_spls nm (by omega)
    obtain ⟨pR, fR⟩ := fit_heads (hs := sortH R) (fun b hb => nR b ((List.mergeSort_perm R leH).mem_iff.mp hb)) (by rw [sortH_len]; omega)
    repeat walk_at "go"
    refine e_on (on_repr fT (by decide)) ?_
    repeat walk_at "go"
    have lsp : ∀ e ∈ es, e.1.length < 30 ∧ e.2.length < 30 := fun e he => by
      obtain ⟨h1, h2⟩ := nm e he
      exact ⟨by have := h1.2; omega, by have := h2.2; omega⟩
    have cH : ∀ z ∈ lessS H G, z ∈ H := fun z hz => (less_mem.mp hz).1
    refine twice (fun sl mu => Src mu k ∧ ∃ x8 x9, sl = [some (.d (.scr ns)), some (.h k), some (.d d), some (.d (tS H)), some (.d (.lst (es.map spD))), some (.d (tS G)), some (.d (.lst ((sortH R).map headT))), some (.d (.str pT.shown)), x8, x9, i, j, k', none, none, none, none]) ⟨g8.src, _, _, rfl⟩ ?_ ?_ _
    · rintro d3 sl mu9 ⟨s9, x8, x9, rfl⟩ C3 hC3
      repeat walk_at "go"
      refine ⟨H, es, .lst (es.map spD), G, rfl, .inl rfl, by omega, by omega, by omega, okH, lsp, fun R2 en2 => ?_⟩
      have pp : R2.Perm R := end_same en2 en cH (fun e he => ⟨e, he, .inl rfl⟩) fun e he => ⟨e, he, .inl rfl⟩
      rw [sortH_same pp]
      repeat walk_at "go"
      refine e_on (on_repr_h top_lst rfl fR (by decide)) ?_
      repeat walk_at "go"
      refine e_on (on_repr fR (by decide)) ?_
      repeat walk_at "go"
      refine e_on (mut_h top_lst) ?_
      repeat walk_at "go"
      refine e_on (mut_h top_lst) ?_
      refine e_on (app_at (by rw [List.length_map, sortH_len]; omega)) ?_
      rw [top_set]
      exact hC3 _ _ ⟨s9.app, _, _, rfl⟩
    rintro sl mu9 ⟨s9, x8, x9, rfl⟩
    repeat walk_at "go"
    have l1 : (es ++ es.take 1).length ≤ 8 := by
      rw [List.length_append, List.length_take]
      omega
    refine e_on (x := .lst ((es ++ es.take 1).map spD)) ?_ ?_
    · rw [cutD_to _ (by decide), List.map_append]
      refine on_addLL ?_
      rw [List.length_map, List.length_map, List.length_take]
      omega
    repeat walk_at "go"
    refine comp_inv (fun i acc mu => ∃ es2 : List Spl, acc = es2.map spD ∧ es2.length = i ∧ (∀ e2 ∈ es2, ∃ e ∈ es, Tw H e e2) ∧ (∀ e ∈ (es ++ es.take 1).take i, ∃ e2 ∈ es2, Tw H e e2) ∧ (∀ e ∈ es2, e.1.length < 30 ∧ e.2.length < 30) ∧ Src mu k) _ [] 0 _ ⟨[], rfl, rfl, (fun e he => by cases he), (fun e he => by rw [List.take_zero] at he; cases he), (fun e he => by cases he), s9⟩ ?_ ?_
    · rintro n x acc mu10 hx ⟨es2, rfl, el2, t1, t2, t3, s10⟩ C4 hC4
      rw [Nat.zero_add] at hC4 el2 t2
      have ln := (List.getElem?_eq_some_iff.mp hx).1
      rw [List.length_map] at ln
      obtain ⟨e, he, rfl⟩ : ∃ e, (es ++ es.take 1)[n]? = some e ∧ spD e = x := by
        rw [List.getElem?_map, Option.map_eq_some_iff] at hx
        exact hx
      have me : e ∈ es := by
        rcases List.mem_append.mp (List.mem_of_getElem? he) with h | h
        · exact h
        · exact List.mem_of_mem_take h
      have next : ∀ (e2 : Spl) (mu : Mu), Tw H e e2 → e2.1.length < 30 ∧ e2.2.length < 30 → Src mu k → (es2.map spD).length < sizeLine ∧ C4 (es2.map spD ++ [spD e2]) mu := by
        intro e2 mu tw lt s
        refine ⟨by rw [sizeLine_eq, List.length_map]; omega, hC4 _ _ ⟨es2 ++ [e2], by rw [List.map_append]; rfl, by rw [List.length_append, List.length_singleton, el2], fun x hx => ?_, fun x hx => ?_, fun x hx => ?_, s⟩⟩
        · rcases List.mem_append.mp hx with h | h
          · exact t1 x h
          · rw [List.mem_singleton.mp h]
            exact ⟨e, me, tw⟩
        · rw [List.take_succ, he] at hx
          rcases List.mem_append.mp hx with h | h
          · obtain ⟨y, hy, ty⟩ := t2 x h
            exact ⟨y, List.mem_append_left _ hy, ty⟩
          · rw [List.mem_singleton.mp h]
            exact ⟨e2, List.mem_append_right _ (List.mem_singleton.mpr rfl), tw⟩
        · rcases List.mem_append.mp hx with h | h
          · exact t3 x h
          · rw [List.mem_singleton.mp h]
            exact lt
      obtain ⟨le1, le2⟩ := lsp e me
      refine e_on rfl ?_
      repeat walk_at "go"
      refine ⟨k, 2, rfl, s10, by decide, fun r mu11 r0 r1 g11 => ?_⟩
      repeat walk_at "go"
      with_reducible refine e_dec (fun c1 => ?_) fun c1 => ?_
      · repeat walk_at "go"
        refine ⟨H, e.1, e.2, rfl, by omega, le1, le2, ?_⟩
        exact next (e.1, lessS (lessS H e.1) e.2) mu11 (.inr rfl) ⟨le1, by have h1 := less_len (lessS H e.1) e.2; have h2 := less_len H e.1; show (lessS (lessS H e.1) e.2).length < 30; omega⟩ g11.src
      · repeat walk_at "go"
        exact next e mu11 (.inl rfl) ⟨le1, le2⟩ g11.src
    rintro acc mu10 ⟨es2, rfl, el2, t1, t2, t3, s10⟩
    rw [Nat.zero_add, List.length_map] at t2 el2
    rw [List.take_length] at t2
    repeat walk_at "go"
    refine ⟨k, _, es2.map spD, rfl, rfl, s10, by rw [List.length_map]; omega, fun ys mu11 pm g11 => ?_⟩
    obtain ⟨es3, p3, rfl⟩ := perm_map pm
    repeat walk_at "go"
    refine ⟨H, es3, .tup (es3.map spD), G, rfl, .inr rfl, by omega, by rw [p3.length_eq]; omega, by omega, okH, fun e he => t3 e (p3.mem_iff.mp he), fun R3 en3 => ?_⟩
    have p4 : R3.Perm R := by
      refine (end_same en en3 cH (fun e he => ?_) fun e he => ?_).symm
      · exact t1 e (p3.mem_iff.mp he)
      · obtain ⟨y, hy, ty⟩ := t2 e (List.mem_append_left _ he)
        exact ⟨y, p3.mem_iff.mpr hy, ty⟩
    rw [sortH_same p4]
    repeat walk_at "go"
    refine e_on (on_repr_h top_lst rfl fR (by decide)) ?_
    repeat walk_at "go"
    refine e_on (on_repr fR (by decide)) ?_
    repeat walk_at "go"
    with_reducible refine comp_if (mk := D.str) (fun z => !decide (z ∈ G)) D.str (fun z => [some (.d (.scr ns)), some (.h k), some (.d d), some (.d (tS H)), some (.d (.lst (es.map spD))), some (.d (tS G)), some (.d (.lst ((sortH R).map headT))), some (.d (.str pT.shown)), x8, x9, some (.d (.lst (es2.map spD))), j, k', none, none, none, some (.d (.str z))]) H ?_ ?_ ?_ (by omega) ?_
    · exact fun _ _ => rfl
    · intro z _ P p
      repeat walk_at "go"
      exact p
    · intro z _ _ P p
      repeat walk_at "go"
      exact p
    have s11 : Src (mu11 ++ [some (.lst ((sortH R).map headT))]) k := g11.src.app
    generalize mu11 ++ [some (.lst ((sortH R).map headT))] = mu12 at s11 ⊢
    repeat walk_at "go"
    refine ⟨H, [], .lst [], G, rfl, .inl rfl, by omega, by decide, by omega, okH, (fun e he => by cases he), fun R4 en4 => ?_⟩
    have e4 := end_none en4 fun e he => by cases he
    have okc : ∀ z ∈ H.filter (fun z => !decide (z ∈ G)), PyData.strOk z = true := fun z hz => okH z (List.mem_filter.mp hz).1
    cases hc : (H.filter fun z => !decide (z ∈ G)).isEmpty with
    | false =>
      have ne : lessS H G ≠ [] := fun w => by
        have : H.filter (fun z => !decide (z ∈ G)) = [] := w
        rw [this] at hc
        cases hc
      rw [e4, if_neg ne]
      repeat walk_at "go"
      with_reducible refine e_on (on_neT0 okc) ?_
      rw [hc]
      repeat walk_at "go"
      refine e_on (ne_H (hs := [lessS H G]) top_lst (fun h hh z hz => by rw [List.mem_singleton.mp hh] at hz; exact okH z (cH z hz))) ?_
      repeat walk_at "go"
      refine ⟨H, es, .lst (es.map spD), H, rfl, .inl rfl, by omega, by omega, by omega, okH, lsp, fun R5 en5 => ?_⟩
      have e6 : sortH R5 = [] := by
        rw [less_same] at en5
        rw [end_nil en5]
        exact List.mergeSort_nil
      rw [e6]
      repeat walk_at "go"
      refine e_on (ne_H (hs := []) top_lst (fun h hh => by cases hh)) ?_
      repeat walk_at "go"
      refine e_on (on_repr fT (by decide)) ?_
      repeat walk_at "go"
      exact hC _ _ _ _ _ _ _ _ _ _ _ _ s11.app.app
    | true =>
      have em : lessS H G = [] := List.isEmpty_iff.mp hc
      rw [e4, if_pos em]
      repeat walk_at "go"
      with_reducible refine e_on (on_neT0 okc) ?_
      rw [hc]
      repeat walk_at "go"
      refine e_on (ne_H (hs := []) top_lst (fun h hh => by cases hh)) ?_
      repeat walk_at "go"
      refine ⟨H, es, .lst (es.map spD), H, rfl, .inl rfl, by omega, by omega, by omega, okH, lsp, fun R5 en5 => ?_⟩
      have e6 : sortH R5 = [] := by
        rw [less_same] at en5
        rw [end_nil en5]
        exact List.mergeSort_nil
      rw [e6]
      repeat walk_at "go"
      refine e_on (ne_H (hs := []) top_lst (fun h hh => by cases hh)) ?_
      repeat walk_at "go"
      refine e_on (on_repr fT (by decide)) ?_
      repeat walk_at "go"
      exact hC _ _ _ _ _ _ _ _ _ _ _ _ s11.app.app
  · rintro sl mu3 ⟨h3, a, b, c, d2, e, f, g, h, i', j, k', rfl⟩
    repeat walk_at "go"
    rw [show rangeD 0 7 = (List.range 7).map fun (i : Nat) => D.int (i : Nat) from rfl]
    have seven : ∀ i : Nat, i < 7 → i = 0 ∨ i = 1 ∨ i = 2 ∨ i = 3 ∨ i = 4 ∨ i = 5 ∨ i = 6 := fun i h => by omega
    have at1 : ∀ i : Nat, i < 7 → dIx (.d (.str "abcdefg")) (.d (.int (i : Nat))) mu3 = some (.str ((rows7.getD i ([], [])).1.getD 0 "")) := by
      intro i hi
      rcases seven i hi with rfl | rfl | rfl | rfl | rfl | rfl | rfl <;> rfl
    have at2 : ∀ i : Nat, i < 7 → dIx (.d (.str "bcdefgh")) (.d (.int (i : Nat))) mu3 = some (.str ((rows7.getD i ([], [])).2.getD 0 "")) := by
      intro i hi
      rcases seven i hi with rfl | rfl | rfl | rfl | rfl | rfl | rfl <;> rfl
    have eight : ∀ i : Nat, i < 7 → D.tup [.tup [.str ((rows7.getD i ([], [])).1.getD 0 "")], .tup [.str ((rows7.getD i ([], [])).2.getD 0 "")]] = spD (rows7.getD i ([], [])) := by
      intro i hi
      rcases seven i hi with rfl | rfl | rfl | rfl | rfl | rfl | rfl <;> rfl
    refine comp_yes (mk := fun (i : Nat) => D.int (i : Nat)) (fun i => spD (rows7.getD i ([], []))) (fun i => [some (.d (.scr ns)), some (.h k), a, b, c, d2, e, f, g, h, i', j, k', some (.d (.int (i : Nat))), none, none, none]) (List.range 7) (fun _ _ => rfl) (fun i hi P p => ?_) (by decide) ?_
    · have hi := List.mem_range.mp hi
      repeat walk_at "go"
      with_reducible refine e_on (at1 i hi) ?_
      repeat walk_at "go"
      with_reducible refine e_on (at2 i hi) ?_
      repeat walk_at "go"
      rw [eight i hi]
      exact p
    rw [show ((List.range 7).map fun i => spD (rows7.getD i ([], []))) = rows7.map spD from rfl]
    repeat walk_at "go"
    refine e_on (x := .lst (rows7.map spD).reverse) rfl ?_
    repeat walk_at "go"
    refine ⟨k, _, rows7.map spD, rfl, rfl, h3, by decide, fun ys mu4 pm g4 => ?_⟩
    obtain ⟨es4, p4, rfl⟩ := perm_map pm
    repeat walk_at "go"
    refine for_inv (fun _ sl mu => Src mu k ∧ ∃ x4, sl = [some (.d (.scr ns)), some (.h k), a, b, x4, d2, e, f, g, h, i', j, some (.d (.lst (rows7.map spD))), none, none, none, none]) _ 0 _ _ ⟨g4.src, _, rfl⟩ ?_ ?_
    · rintro i x sl mu5 hx ⟨s5, x4, rfl⟩ C hC
      obtain ⟨rs, rfl, pr⟩ : ∃ rs : List Spl, x = .lst (rs.map spD) ∧ rs.Perm rows7 := by
        have mx := List.mem_of_getElem? hx
        simp only [List.mem_cons, List.not_mem_nil, or_false] at mx
        rcases mx with rfl | rfl | rfl
        · exact ⟨rows7, rfl, .refl _⟩
        · exact ⟨rows7.reverse, by rw [List.map_reverse], List.reverse_perm _⟩
        · exact ⟨es4, rfl, p4⟩
      repeat walk_at "go"
      refine e_on (x := tS col8) (by first | rfl | exact col8_tup) ?_
      repeat walk_at "go"
      refine ⟨col8, rs, .lst (rs.map spD), ["a"], rfl, .inl rfl, by decide, by rw [pr.length_eq]; decide, by decide, by decide +kernel, fun e he => rows_len e (pr.mem_iff.mp he), fun R en => ?_⟩
      rw [rows_end en fun e => pr.mem_iff]
      repeat walk_at "go"
      refine comp_yes (mk := fun (c : Nat) => D.str ⟨#[c]⟩) (fun c => D.tup [.str ⟨#[c]⟩]) (fun c => [some (.d (.scr ns)), some (.h k), a, b, some (.d (.lst (rs.map spD))), d2, e, f, g, h, i', j, some (.d (.lst (rows7.map spD))), none, none, none, some (.d (.str ⟨#[c]⟩))]) _ (fun _ _ => rfl) (fun c _ P p => ?_) (by decide +kernel) ?_
      · repeat walk_at "go"
        exact p
      rw [show ((("bcdefgh" : Str).cps.toList.map fun c => D.tup [.str ⟨#[c]⟩])) = ones7.map headT from rfl]
      refine e_on (ne_H (hs := ones7) top_lst (by decide +kernel)) ?_
      repeat walk_at "go"
      exact hC _ _ ⟨s5.app, _, rfl⟩
    · rintro sl mu5 ⟨s5, x4, rfl⟩
      have cut0 : cutOk ([] : Mu).length [] mu5 := fun j mo hj _ => absurd hj (Nat.not_lt_zero j)
      exact ⟨Nat.zero_le _, cut0, q⟩
end Law
set_option Elab.async false
set_option linter.all false
set_option maxRecDepth 100000
set_option maxHeartbeats 4000000
namespace Law
open PySem PySem.Spec L2 DL

theorem all_mk {l : PySem.W.OpenLaw} {w : World} {K : PySem.W.Frag} {h : Heap} {mg : Str → Option Value} {fa f0 f1 f2 f3 f4 f5 f6 f7 f8 f9 f10 f11 f12 f13 f14 : Addr} (X : K.In h) (G : h.Ns mainGlobals mg) (hfa : mg "law" = some (.ref fa))
    {od0 an0 od1 an1 od2 an2 od3 an3 od4 an4 od5 an5 od6 an6 od7 an7 od8 an8 od9 an9 od10 an10 od11 an11 od12 an12 od13 an13 od14 an14 : Option Addr} {sl0 sl1 sl2 sl3 sl4 sl5 sl6 sl7 sl8 sl9 sl10 sl11 sl12 sl13 sl14 : Array (Option Value)} {oc0 kV0 dc0 pm0 cd0 ct0 oc1 kV1 dc1 pm1 cd1 ct1 oc2 kV2 dc2 pm2 cd2 ct2 oc3 kV3 dc3 pm3 cd3 ct3 oc4 kV4 dc4 pm4 cd4 ct4 oc5 kV5 dc5 pm5 cd5 ct5 oc6 kV6 dc6 pm6 cd6 ct6 oc7 kV7 dc7 pm7 cd7 ct7 oc8 kV8 dc8 pm8 cd8 ct8 oc9 kV9 dc9 pm9 cd9 ct9 oc10 kV10 dc10 pm10 cd10 ct10 oc11 kV11 dc11 pm11 cd11 ct11 oc12 kV12 dc12 pm12 cd12 ct12 oc13 kV13 dc13 pm13 cd13 ct13 oc14 kV14 dc14 pm14 cd14 ct14 : Value}
    (a0 : PySem.W.nsIn K mainGlobals "shared" = some (some (.ref f0))) (l0 : K.lookup f0 = some ⟨oc0, od0, .func (PySem.W.fnOf "shared" "shared" (defArgs s_shared) (defBody s_shared) (defScope s_shared) .none kV0 dc0 pm0 an0 cd0 ct0), sl0⟩) (c0 : PySem.W.codeIn K cd0 "shared" = true) (k0 : PySem.W.keepIn K (.ref f0) = true)
    (a1 : PySem.W.nsIn K mainGlobals "beyond" = some (some (.ref f1))) (l1 : K.lookup f1 = some ⟨oc1, od1, .func (PySem.W.fnOf "beyond" "beyond" (defArgs s_beyond) (defBody s_beyond) (defScope s_beyond) .none kV1 dc1 pm1 an1 cd1 ct1), sl1⟩) (c1 : PySem.W.codeIn K cd1 "beyond" = true) (k1 : PySem.W.keepIn K (.ref f1) = true)
    (a2 : PySem.W.nsIn K mainGlobals "fallen" = some (some (.ref f2))) (l2 : K.lookup f2 = some ⟨oc2, od2, .func (PySem.W.fnOf "fallen" "fallen" (defArgs s_fallen) (defBody s_fallen) (defScope s_fallen) .none kV2 dc2 pm2 an2 cd2 ct2), sl2⟩) (c2 : PySem.W.codeIn K cd2 "fallen" = true) (k2 : PySem.W.keepIn K (.ref f2) = true)
    (a3 : PySem.W.nsIn K mainGlobals "blocks" = some (some (.ref f3))) (l3 : K.lookup f3 = some ⟨oc3, od3, .func (PySem.W.fnOf "blocks" "blocks" (defArgs s_blocks) (defBody s_blocks) (defScope s_blocks) .none kV3 dc3 pm3 an3 cd3 ct3), sl3⟩) (c3 : PySem.W.codeIn K cd3 "blocks" = true) (k3 : PySem.W.keepIn K (.ref f3) = true)
    (a4 : PySem.W.nsIn K mainGlobals "rest_of" = some (some (.ref f4))) (l4 : K.lookup f4 = some ⟨oc4, od4, .func (PySem.W.fnOf "rest_of" "rest_of" (defArgs s_rest_of) (defBody s_rest_of) (defScope s_rest_of) .none kV4 dc4 pm4 an4 cd4 ct4), sl4⟩) (c4 : PySem.W.codeIn K cd4 "rest_of" = true) (k4 : PySem.W.keepIn K (.ref f4) = true)
    (a5 : PySem.W.nsIn K mainGlobals "other_side" = some (some (.ref f5))) (l5 : K.lookup f5 = some ⟨oc5, od5, .func (PySem.W.fnOf "other_side" "other_side" (defArgs s_other_side) (defBody s_other_side) (defScope s_other_side) .none kV5 dc5 pm5 an5 cd5 ct5), sl5⟩) (c5 : PySem.W.codeIn K cd5 "other_side" = true) (k5 : PySem.W.keepIn K (.ref f5) = true)
    (a6 : PySem.W.nsIn K mainGlobals "_law_open_cells" = some (some (.ref f6))) (l6 : K.lookup f6 = some ⟨oc6, od6, .func (PySem.W.fnOf "_law_open_cells" "_law_open_cells" (defArgs s_law_open_cells) (defBody s_law_open_cells) (defScope s_law_open_cells) .none kV6 dc6 pm6 an6 cd6 ct6), sl6⟩) (c6 : PySem.W.codeIn K cd6 "_law_open_cells" = true) (k6 : PySem.W.keepIn K (.ref f6) = true)
    (a7 : PySem.W.nsIn K mainGlobals "_law_pick" = some (some (.ref f7))) (l7 : K.lookup f7 = some ⟨oc7, od7, .func (PySem.W.fnOf "_law_pick" "_law_pick" (defArgs s_law_pick) (defBody s_law_pick) (defScope s_law_pick) .none kV7 dc7 pm7 an7 cd7 ct7), sl7⟩) (c7 : PySem.W.codeIn K cd7 "_law_pick" = true) (k7 : PySem.W.keepIn K (.ref f7) = true)
    (a8 : PySem.W.nsIn K mainGlobals "_law_any_order" = some (some (.ref f8))) (l8 : K.lookup f8 = some ⟨oc8, od8, .func (PySem.W.fnOf "_law_any_order" "_law_any_order" (defArgs s_law_any_order) (defBody s_law_any_order) (defScope s_law_any_order) .none kV8 dc8 pm8 an8 cd8 ct8), sl8⟩) (c8 : PySem.W.codeIn K cd8 "_law_any_order" = true) (k8 : PySem.W.keepIn K (.ref f8) = true)
    (a9 : PySem.W.nsIn K mainGlobals "_law_draw_names" = some (some (.ref f9))) (l9 : K.lookup f9 = some ⟨oc9, od9, .func (PySem.W.fnOf "_law_draw_names" "_law_draw_names" (defArgs s_law_draw_names) (defBody s_law_draw_names) (defScope s_law_draw_names) .none kV9 dc9 pm9 an9 cd9 ct9), sl9⟩) (c9 : PySem.W.codeIn K cd9 "_law_draw_names" = true) (k9 : PySem.W.keepIn K (.ref f9) = true)
    (a10 : PySem.W.nsIn K mainGlobals "_law_draw_some" = some (some (.ref f10))) (l10 : K.lookup f10 = some ⟨oc10, od10, .func (PySem.W.fnOf "_law_draw_some" "_law_draw_some" (defArgs s_law_draw_some) (defBody s_law_draw_some) (defScope s_law_draw_some) .none kV10 dc10 pm10 an10 cd10 ct10), sl10⟩) (c10 : PySem.W.codeIn K cd10 "_law_draw_some" = true) (k10 : PySem.W.keepIn K (.ref f10) = true)
    (a11 : PySem.W.nsIn K mainGlobals "_law_heading" = some (some (.ref f11))) (l11 : K.lookup f11 = some ⟨oc11, od11, .func (PySem.W.fnOf "_law_heading" "_law_heading" (defArgs s_law_heading) (defBody s_law_heading) (defScope s_law_heading) .none kV11 dc11 pm11 an11 cd11 ct11), sl11⟩) (c11 : PySem.W.codeIn K cd11 "_law_heading" = true) (k11 : PySem.W.keepIn K (.ref f11) = true)
    (a12 : PySem.W.nsIn K mainGlobals "_law_draw_split" = some (some (.ref f12))) (l12 : K.lookup f12 = some ⟨oc12, od12, .func (PySem.W.fnOf "_law_draw_split" "_law_draw_split" (defArgs s_law_draw_split) (defBody s_law_draw_split) (defScope s_law_draw_split) .none kV12 dc12 pm12 an12 cd12 ct12), sl12⟩) (c12 : PySem.W.codeIn K cd12 "_law_draw_split" = true) (k12 : PySem.W.keepIn K (.ref f12) = true)
    (a13 : PySem.W.nsIn K mainGlobals "_law_cut_blocks" = some (some (.ref f13))) (l13 : K.lookup f13 = some ⟨oc13, od13, .func (PySem.W.fnOf "_law_cut_blocks" "_law_cut_blocks" (defArgs s_law_cut_blocks) (defBody s_law_cut_blocks) (defScope s_law_cut_blocks) .none kV13 dc13 pm13 an13 cd13 ct13), sl13⟩) (c13 : PySem.W.codeIn K cd13 "_law_cut_blocks" = true) (k13 : PySem.W.keepIn K (.ref f13) = true)
    (a14 : PySem.W.nsIn K mainGlobals "law" = some (some (.ref f14))) (l14 : K.lookup f14 = some ⟨oc14, od14, .func (PySem.W.fnOf "law" "law" (defArgs s_law) (defBody s_law) (defScope s_law) .none kV14 dc14 pm14 an14 cd14 ct14), sl14⟩) (c14 : PySem.W.codeIn K cd14 "law" = true) (k14 : PySem.W.keepIn K (.ref f14) = true)
    (z_abs : PySem.W.nsIn K mainGlobals "abs" = some none) (z_any : PySem.W.nsIn K mainGlobals "any" = some none) (z_enumerate : PySem.W.nsIn K mainGlobals "enumerate" = some none) (z_int : PySem.W.nsIn K mainGlobals "int" = some none) (z_len : PySem.W.nsIn K mainGlobals "len" = some none) (z_list : PySem.W.nsIn K mainGlobals "list" = some none) (z_range : PySem.W.nsIn K mainGlobals "range" = some none) (z_repr : PySem.W.nsIn K mainGlobals "repr" = some none) (z_sorted : PySem.W.nsIn K mainGlobals "sorted" = some none) (z_tuple : PySem.W.nsIn K mainGlobals "tuple" = some none) :
    ∃ fd : FuncData, (∀ (s : Shared) (v : Value), BindsTo s fd ⟨[v], []⟩ [("_law_script", v)]) ∧ ∀ base : Heap, K.In base → base.Ns mainGlobals mg → FnG l.prog w K mg base 5 fa fd ["_law_script"] lawW := by
  have e := hfa.symm.trans (PySem.W.mg_of X G a14)
  cases e
  have T : Txt K mg := ⟨PySem.W.mg_none_of X G z_abs, PySem.W.mg_none_of X G z_any, PySem.W.mg_none_of X G z_enumerate, PySem.W.mg_none_of X G z_int, PySem.W.mg_none_of X G z_len, PySem.W.mg_none_of X G z_list, PySem.W.mg_none_of X G z_range, PySem.W.mg_none_of X G z_repr, PySem.W.mg_none_of X G z_sorted, PySem.W.mg_none_of X G z_tuple⟩
  have F0 := fun_mk (st := s_shared) l0 c0 k0
  have B0 := F0.binds (ps := ["one", "other"]) fun _ _ _ _ _ _ us hl => match us, hl with | [_, _], _ => rfl
  have F1 := fun_mk (st := s_beyond) l1 c1 k1
  have B1 := F1.binds (ps := ["one", "other"]) fun _ _ _ _ _ _ us hl => match us, hl with | [_, _], _ => rfl
  have F2 := fun_mk (st := s_fallen) l2 c2 k2
  have B2 := F2.binds (ps := ["block", "split"]) fun _ _ _ _ _ _ us hl => match us, hl with | [_, _], _ => rfl
  have F3 := fun_mk (st := s_blocks) l3 c3 k3
  have B3 := F3.binds (ps := ["heading", "told", "given"]) fun _ _ _ _ _ _ us hl => match us, hl with | [_, _, _], _ => rfl
  have F4 := fun_mk (st := s_rest_of) l4 c4 k4
  have B4 := F4.binds (ps := ["heading", "split"]) fun _ _ _ _ _ _ us hl => match us, hl with | [_, _], _ => rfl
  have F5 := fun_mk (st := s_other_side) l5 c5 k5
  have B5 := F5.binds (ps := ["heading", "split"]) fun _ _ _ _ _ _ us hl => match us, hl with | [_, _], _ => rfl
  have F6 := fun_mk (st := s_law_open_cells) l6 c6 k6
  have B6 := F6.binds (ps := ["_law_script"]) fun _ _ _ _ _ _ us hl => match us, hl with | [_], _ => rfl
  have F7 := fun_mk (st := s_law_pick) l7 c7 k7
  have B7 := F7.binds (ps := ["_law_source", "_law_most"]) fun _ _ _ _ _ _ us hl => match us, hl with | [_, _], _ => rfl
  have F8 := fun_mk (st := s_law_any_order) l8 c8 k8
  have B8 := F8.binds (ps := ["_law_source", "_law_things"]) fun _ _ _ _ _ _ us hl => match us, hl with | [_, _], _ => rfl
  have F9 := fun_mk (st := s_law_draw_names) l9 c9 k9
  have B9 := F9.binds (ps := ["_law_source", "_law_many"]) fun _ _ _ _ _ _ us hl => match us, hl with | [_, _], _ => rfl
  have F10 := fun_mk (st := s_law_draw_some) l10 c10 k10
  have B10 := F10.binds (ps := ["_law_source", "_law_things", "_law_few"]) fun _ _ _ _ _ _ us hl => match us, hl with | [_, _, _], _ => rfl
  have F11 := fun_mk (st := s_law_heading) l11 c11 k11
  have B11 := F11.binds (ps := ["_law_source", "_law_least", "_law_most"]) fun _ _ _ _ _ _ us hl => match us, hl with | [_, _, _], _ => rfl
  have F12 := fun_mk (st := s_law_draw_split) l12 c12 k12
  have B12 := F12.binds (ps := ["_law_source", "_law_heading_here"]) fun _ _ _ _ _ _ us hl => match us, hl with | [_, _], _ => rfl
  have F13 := fun_mk (st := s_law_cut_blocks) l13 c13 k13
  have B13 := F13.binds (ps := ["_law_source", "_law_told", "_law_given", "_law_heading_here"]) fun _ _ _ _ _ _ us hl => match us, hl with | [_, _, _, _], _ => rfl
  have F14 := fun_mk (st := s_law) l14 c14 k14
  refine ⟨PySem.W.fnOf "law" "law" (defArgs s_law) (defBody s_law) (defScope s_law) .none kV14 dc14 pm14 an14 cd14 ct14, fun s v => .of_eq rfl, fun base _ _ => ?_⟩
  have D0 : FnD l.prog w K mg base 1 "shared" (two fun xs ys => tS (keepS xs ys)) := ⟨f0, _, _, PySem.W.mg_of X G a0, k0, B0, (g_shared T F0 ).imp sp_shared⟩
  have D1 : FnD l.prog w K mg base 1 "beyond" (two fun xs ys => tS (lessS xs ys)) := ⟨f1, _, _, PySem.W.mg_of X G a1, k1, B1, (g_beyond T F1 ).imp sp_beyond⟩
  have D2 : FnD l.prog w K mg base 2 "fallen" fallenW := ⟨f2, _, _, PySem.W.mg_of X G a2, k2, B2, (g_fallen T F2 D1 D0).imp sp_fallen⟩
  have D3 : FnD l.prog w K mg base 3 "blocks" blocksW := ⟨f3, _, _, PySem.W.mg_of X G a3, k3, B3, (g_blocks T F3 D1 D2).imp sp_blocks⟩
  have D4 : FnD l.prog w K mg base 2 "rest_of" restW := ⟨f4, _, _, PySem.W.mg_of X G a4, k4, B4, (g_rest_of T F4 D1).imp sp_rest_of⟩
  have D5 : FnD l.prog w K mg base 3 "other_side" otherW := ⟨f5, _, _, PySem.W.mg_of X G a5, k5, B5, (g_other_side T F5 D4).imp sp_other_side⟩
  have D6 : FnD l.prog w K mg base 1 "_law_open_cells" openW := ⟨f6, _, _, PySem.W.mg_of X G a6, k6, B6, (g_law_open_cells T F6 ).imp sp_open⟩
  have D7 : FnD l.prog w K mg base 1 "_law_pick" pickW := ⟨f7, _, _, PySem.W.mg_of X G a7, k7, B7, (g_law_pick T F7 ).imp sp_pick⟩
  have D8 : FnD l.prog w K mg base 2 "_law_any_order" anyW := ⟨f8, _, _, PySem.W.mg_of X G a8, k8, B8, (g_law_any_order T F8 D7).imp sp_any⟩
  have D9 : FnD l.prog w K mg base 3 "_law_draw_names" namesW := ⟨f9, _, _, PySem.W.mg_of X G a9, k9, B9, (g_law_draw_names T F9 D8).imp sp_names⟩
  have D10 : FnD l.prog w K mg base 3 "_law_draw_some" someW := ⟨f10, _, _, PySem.W.mg_of X G a10, k10, B10, (g_law_draw_some T F10 D8 D7).imp sp_some⟩
  have D11 : FnD l.prog w K mg base 4 "_law_heading" lheadW := ⟨f11, _, _, PySem.W.mg_of X G a11, k11, B11, (g_law_heading T F11 D9 D7).imp sp_law_heading⟩
  have D12 : FnD l.prog w K mg base 3 "_law_draw_split" dsplitW := ⟨f12, _, _, PySem.W.mg_of X G a12, k12, B12, (g_law_draw_split T F12 D7 D8).imp sp_draw_split⟩
  have D13 : FnD l.prog w K mg base 2 "_law_cut_blocks" cutBW := ⟨f13, _, _, PySem.W.mg_of X G a13, k13, B13, (g_law_cut_blocks T F13 D7).imp sp_cut_blocks⟩
  exact (g_law T F14 D6 D11 D7 D12 D10 D13 D3 D5 D8).imp sp_law
end Law
open PySem PySem.W PyProof.Rows
set_option maxRecDepth 100000 in
set_option maxHeartbeats 0 in
theorem PySem.Challenge.cw_agreetwo_k58_blocks_holds : PySem.Challenge.rw_agreetwo_k58_blocks.Holds := by
  w_on; o_law; k_head; (case hw => w_witness2)
  k_fill
  refine DL.walk_g (l := PySem.Challenge.rw_agreetwo_k58_blocks) (n := 63) (k := 5) (x := "_law_script") (W := Law.lawW) rfl (by decide) rfl ⟨rfl, by decide, by decide⟩ (fun w h Y => PySem.W.kIn_of Y) ?F (fun is hl Q q => ⟨is, rfl, by omega, rfl, q⟩)
  case F =>
    intro w mg fa h KX G hmg
    refine' Law.all_mk KX G hmg ?a0 ?l0 ?c0 ?k0 ?a1 ?l1 ?c1 ?k1 ?a2 ?l2 ?c2 ?k2 ?a3 ?l3 ?c3 ?k3 ?a4 ?l4 ?c4 ?k4 ?a5 ?l5 ?c5 ?k5 ?a6 ?l6 ?c6 ?k6 ?a7 ?l7 ?c7 ?k7 ?a8 ?l8 ?c8 ?k8 ?a9 ?l9 ?c9 ?k9 ?a10 ?l10 ?c10 ?k10 ?a11 ?l11 ?c11 ?k11 ?a12 ?l12 ?c12 ?k12 ?a13 ?l13 ?c13 ?k13 ?a14 ?l14 ?c14 ?k14 ?z_abs ?z_any ?z_enumerate ?z_int ?z_len ?z_list ?z_range ?z_repr ?z_sorted ?z_tuple
    (case a0 => k_is)
    (case l0 => k_is)
    (case c0 => k_is)
    (case k0 => k_is)
    (case a1 => k_is)
    (case l1 => k_is)
    (case c1 => k_is)
    (case k1 => k_is)
    (case a2 => k_is)
    (case l2 => k_is)
    (case c2 => k_is)
    (case k2 => k_is)
    (case a3 => k_is)
    (case l3 => k_is)
    (case c3 => k_is)
    (case k3 => k_is)
    (case a4 => k_is)
    (case l4 => k_is)
    (case c4 => k_is)
    (case k4 => k_is)
    (case a5 => k_is)
    (case l5 => k_is)
    (case c5 => k_is)
    (case k5 => k_is)
    (case a6 => k_is)
    (case l6 => k_is)
    (case c6 => k_is)
    (case k6 => k_is)
    (case a7 => k_is)
    (case l7 => k_is)
    (case c7 => k_is)
    (case k7 => k_is)
    (case a8 => k_is)
    (case l8 => k_is)
    (case c8 => k_is)
    (case k8 => k_is)
    (case a9 => k_is)
    (case l9 => k_is)
    (case c9 => k_is)
    (case k9 => k_is)
    (case a10 => k_is)
    (case l10 => k_is)
    (case c10 => k_is)
    (case k10 => k_is)
    (case a11 => k_is)
    (case l11 => k_is)
    (case c11 => k_is)
    (case k11 => k_is)
    (case a12 => k_is)
    (case l12 => k_is)
    (case c12 => k_is)
    (case k12 => k_is)
    (case a13 => k_is)
    (case l13 => k_is)
    (case c13 => k_is)
    (case k13 => k_is)
    (case a14 => k_is)
    (case l14 => k_is)
    (case c14 => k_is)
    (case k14 => k_is)
    (case z_abs => k_is)
    (case z_any => k_is)
    (case z_enumerate => k_is)
    (case z_int => k_is)
    (case z_len => k_is)
    (case z_list => k_is)
    (case z_range => k_is)
    (case z_repr => k_is)
    (case z_sorted => k_is)
    (case z_tuple => k_is)
