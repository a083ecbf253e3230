import PyProof.Rows.All
import Wide.All
import OpenK.AllK
import Wide.FinOn
import HandS.ForMost
import HandS.TupAny
import HandS.TupMul
import HandS.Wide
import HandS.Deep
import HandS.SortInts
import HandS.Zip
import HandS.Strs
import HandS.SetKeys
import HandS.TupLen
import HandS.More
import KE.DataCmp
import HandS.Style
import HandS.IsInst
import HandS.NoneIn
import HandS.DictComp
import HandS.SetFor
import PySem.Challenge.RW_leastlearnt_k03_placings
set_option Elab.async false
set_option linter.all false
set_option maxRecDepth 100000
set_option maxHeartbeats 4000000
/-! VM1 -/
namespace VM
open PySem PySem.Spec PyProof.Rows L2
abbrev St := L2.St

/-- data, by value -/
inductive D where
  | non | bl (b : Bool) | int (i : Int) | str (x : Str) | tup (xs : List D) | lst (xs : List D)
  | ro (xs : List D) | tpd (xs : List D) | dK (kvs : List (Key × D)) | dT (kvs : List (List Key × D)) | ins (C : Nat) (fs : List (Str × D))

mutual
/-- v stands for d, by what the heap F holds -/
inductive Rep (K : PySem.W.Frag) (F : Hp) : V → D → Prop
  | non : Rep K F .non .non
  | bl (b : Bool) : Rep K F (.bl b) (.bl b)
  | int (i : Int) : Rep K F (.int i) (.int i)
  | str (x : Str) : Rep K F (.str x) (.str x)
  | tup {a : Addr} {xs : List V} {ds : List D} : F a = some (.tup xs) → Reps K F xs ds → Rep K F (.ref a) (.tup ds)
  | lst {a : Addr} {xs : List V} {ds : List D} : F a = some (.lst xs) → Reps K F xs ds → Rep K F (.ref a) (.lst ds)
  | ro {a : Addr} {xs : List V} {ds : List D} : SqL K F a xs → Reps K F xs ds → Rep K F (.ref a) (.ro ds)
  | tpd {a : Addr} {o : Obj} {xs : List V} {ds : List D} : F a = some (.frz o (.tup xs)) → o.dict = none → Reps K F xs ds → Rep K F (.ref a) (.tpd ds)
  | dK {a : Addr} {kvs : List (Key × V)} {ds : List (Key × D)} : F a = some (.dK kvs) → RepP K F kvs ds → Rep K F (.ref a) (.dK ds)
  | dT {a : Addr} {kvs : List (List Key × V)} {ds : List (List Key × D)} : F a = some (.dT kvs) → RepP K F kvs ds → Rep K F (.ref a) (.dT ds)
  | ins {a C dx : Addr} {fs : List (Str × V)} {gs : List (Str × D)} : F a = some (.ins C dx fs) → RepP K F fs gs → Rep K F (.ref a) (.ins C gs)
inductive Reps (K : PySem.W.Frag) (F : Hp) : List V → List D → Prop
  | nil : Reps K F [] []
  | cons {v : V} {vs : List V} {d : D} {ds : List D} : Rep K F v d → Reps K F vs ds → Reps K F (v :: vs) (d :: ds)
inductive RepP (K : PySem.W.Frag) (F : Hp) : {κ : Type} → List (κ × V) → List (κ × D) → Prop
  | nil {κ : Type} : RepP K F (κ := κ) [] []
  | cons {κ : Type} {k : κ} {v : V} {vs : List (κ × V)} {d : D} {ds : List (κ × D)} : Rep K F v d → RepP K F vs ds → RepP K F ((k, v) :: vs) ((k, d) :: ds)
end

section
variable {K : PySem.W.Frag} {F F' G H H' H'' : Hp}
mutual
theorem Rep.mono (s : Same F F') : ∀ {v : V} {d : D}, Rep K F v d → Rep K F' v d
  | _, _, .non => .non
  | _, _, .bl b => .bl b
  | _, _, .int i => .int i
  | _, _, .str x => .str x
  | _, _, .tup h r => .tup (s _ _ h) (Reps.mono s r)
  | _, _, .lst h r => .lst (s _ _ h) (Reps.mono s r)
  | _, _, .ro h r => .ro (s.seq h) (Reps.mono s r)
  | _, _, .tpd h n r => .tpd (s _ _ h) n (Reps.mono s r)
  | _, _, .dK h r => .dK (s _ _ h) (RepP.mono s r)
  | _, _, .dT h r => .dT (s _ _ h) (RepP.mono s r)
  | _, _, .ins h r => .ins (s _ _ h) (RepP.mono s r)
theorem Reps.mono (s : Same F F') : ∀ {v : List V} {d : List D}, Reps K F v d → Reps K F' v d
  | _, _, .nil => .nil
  | _, _, .cons h r => .cons (Rep.mono s h) (Reps.mono s r)
theorem RepP.mono (s : Same F F') : ∀ {κ : Type} {v : List (κ × V)} {d : List (κ × D)}, RepP K F v d → RepP K F' v d
  | _, _, _, .nil => .nil
  | _, _, _, .cons h r => .cons (Rep.mono s h) (RepP.mono s r)
end
theorem Reps.length : ∀ {vs : List V} {ds : List D}, Reps K F vs ds → vs.length = ds.length
  | _, _, .nil => rfl
  | _, _, .cons _ r => by rw [List.length_cons, List.length_cons, Reps.length r]
theorem Reps.get : ∀ {vs : List V} {ds : List D} {i : Nat} {d : D}, Reps K F vs ds → ds[i]? = some d → ∃ v, vs[i]? = some v ∧ Rep K F v d
  | _, _, _, _, .nil, e => by simp at e
  | _, _, 0, _, .cons h _, e => by simp at e; subst e; exact ⟨_, rfl, h⟩
  | _, _, i + 1, d, .cons _ r, e => by
    obtain ⟨v, h1, h2⟩ := Reps.get (i := i) (d := d) r (by simpa using e)
    exact ⟨v, by simpa using h1, h2⟩
theorem Reps.get' {vs : List V} {ds : List D} {i : Nat} {v : V} (r : Reps K F vs ds) (e : vs[i]? = some v) : ∃ d, ds[i]? = some d ∧ Rep K F v d := by
  have hi : i < ds.length := by
    rw [← r.length]
    exact (List.getElem?_eq_some_iff.mp e).1
  obtain ⟨v', e', h⟩ := r.get (List.getElem?_eq_getElem hi)
  rw [e] at e'
  cases e'
  exact ⟨_, List.getElem?_eq_getElem hi, h⟩
theorem Reps.append : ∀ {vs ws : List V} {ds es : List D}, Reps K F vs ds → Reps K F ws es → Reps K F (vs ++ ws) (ds ++ es)
  | _, _, _, _, .nil, r => r
  | _, _, _, _, .cons h r, r' => .cons h (Reps.append r r')
theorem Reps.drop : ∀ {vs : List V} {ds : List D} (n : Nat), Reps K F vs ds → Reps K F (vs.drop n) (ds.drop n)
  | _, _, 0, r => r
  | _, _, _ + 1, .nil => .nil
  | _, _, n + 1, .cons _ r => Reps.drop n r
theorem Reps.take : ∀ {vs : List V} {ds : List D} (n : Nat), Reps K F vs ds → Reps K F (vs.take n) (ds.take n)
  | _, _, 0, _ => .nil
  | _, _, _ + 1, .nil => .nil
  | _, _, n + 1, .cons h r => .cons h (Reps.take n r)
theorem Reps.set {v : V} {d : D} (h : Rep K F v d) : ∀ {vs : List V} {ds : List D} (i : Nat), Reps K F vs ds → Reps K F (vs.set i v) (ds.set i d)
  | _, _, _, .nil => .nil
  | _, _, 0, .cons _ r => .cons h r
  | _, _, i + 1, .cons q r => .cons q (Reps.set h i r)
theorem Reps.rev : ∀ {vs : List V} {ds : List D}, Reps K F vs ds → Reps K F vs.reverse ds.reverse
  | _, _, .nil => .nil
  | _, _, .cons h r => by
    rw [List.reverse_cons, List.reverse_cons]
    exact (Reps.rev r).append (.cons h .nil)

/-- what a step may do: nothing that was tracked is changed; F grows by new things alone -/
structure Ext (F H F' H' : Hp) : Prop where
  f : Same F F'
  h : Same H H'
  s : Same F' H'
  n : ∀ a, F a = none → H a ≠ none → F' a = none
theorem Ext.refl (s : Same F H) : Ext F H F H := ⟨Same.refl _, Same.refl _, s, fun _ h _ => h⟩
theorem Ext.trans {F1 H1 F2 H2 : Hp} (a : Ext F H F1 H1) (b : Ext F1 H1 F2 H2) : Ext F H F2 H2 :=
  ⟨a.f.trans b.f, a.h.trans b.h, b.s, fun x h1 h2 => b.n x (a.n x h1 h2) (by
    cases e : H x with
    | none => exact absurd e h2
    | some o =>
      rw [a.h x o e]
      exact fun z => nomatch z)⟩
theorem Ext.grow {F1 H1 : Hp} (a : Ext F H F1 H1) (s : Same H1 H') : Ext F H F1 H' :=
  ⟨a.f, a.h.trans s, a.s.trans s, a.n⟩
theorem same_new {p : Addr} {o : HO} (h : H p = none) : Same H (upd H p o) := fun b x e => by
  rw [upd_ne (ne_of_none e h)]
  exact e
theorem Same.none_of (s : Same F H) {p : Addr} (h : H p = none) : F p = none := Same.free s h
theorem same_upd2 (s : Same F H) {p : Addr} {o : HO} : Same (upd F p o) (upd H p o) := fun b x e => by
  by_cases hb : b = p
  · subst hb
    rw [upd_same] at e ⊢
    exact e
  · rw [upd_ne hb] at e ⊢
    exact s b x e
theorem Ext.new (s : Same F H) {p : Addr} {o : HO} (h : H p = none) : Ext F H (upd F p o) (upd H p o) :=
  ⟨same_new (Same.none_of s h), same_new h, same_upd2 s, fun a h1 h2 => by
    rw [upd_ne (fun e => h2 (by rw [e]; exact h))]
    exact h1⟩

/-! ### expressions' readings -/
abbrev Env := List (Option D)
structure EnvOk (K : PySem.W.Frag) (F : Hp) (σ : St) (ρ : Env) : Prop where
  len : σ.length = ρ.length
  get : ∀ (i : Nat) (d : D), ρ[i]? = some (some d) → ∃ v, σ[i]? = some (some v) ∧ Rep K F v d
theorem EnvOk.mono {σ : St} {ρ : Env} (h : EnvOk K F σ ρ) (s : Same F F') : EnvOk K F' σ ρ :=
  ⟨h.len, fun i d e => by
    obtain ⟨v, h1, h2⟩ := h.get i d e
    exact ⟨v, h1, h2.mono s⟩⟩
theorem EnvOk.set {σ : St} {ρ : Env} {v : V} {d : D} (h : EnvOk K F σ ρ) (i : Nat) (r : Rep K F v d) : EnvOk K F (σ.set i (some v)) (ρ.set i (some d)) := by
  refine ⟨by rw [List.length_set, List.length_set, h.len], fun j e hj => ?_⟩
  rw [List.getElem?_set] at hj ⊢
  by_cases hij : i = j
  · subst hij
    rw [if_pos rfl] at hj ⊢
    rw [h.len]
    by_cases hl : i < ρ.length
    · rw [if_pos hl] at hj ⊢
      cases hj
      exact ⟨v, rfl, r⟩
    · rw [if_neg hl] at hj
      cases hj
  · rw [if_neg hij] at hj ⊢
    exact h.get j e hj
theorem EnvOk.forget {σ : St} {ρ : Env} (h : EnvOk K F σ ρ) (i : Nat) : EnvOk K F (σ.set i none) (ρ.set i none) := by
  refine ⟨by rw [List.length_set, List.length_set, h.len], fun j e hj => ?_⟩
  rw [List.getElem?_set] at hj ⊢
  by_cases hij : i = j
  · subst hij
    rw [if_pos rfl] at hj
    split at hj <;> cases hj
  · rw [if_neg hij] at hj ⊢
    exact h.get j e hj

/-- it runs, and stands for d behind -/
def After (K : PySem.W.Frag) (F H : Hp) (d : D) (Q : VK) : Prop := ∀ v F' H', Ext F H F' H' → Rep K F' v d → Q v H'
def tEv (K : PySem.W.Frag) (f : Env → Option D) : TE := fun σ H Q => ∃ F ρ d, Same F H ∧ EnvOk K F σ ρ ∧ f ρ = some d ∧ After K F H d Q
def tTv (K : PySem.W.Frag) (f : Env → Option Bool) : TT := fun σ H Q => ∃ F ρ b, Same F H ∧ EnvOk K F σ ρ ∧ f ρ = some b ∧ ∀ H', Same H H' → Q b H'
def tAv (K : PySem.W.Frag) (f : Env → Option (List D)) : TA := fun σ H Q => ∃ F ρ ds, Same F H ∧ EnvOk K F σ ρ ∧ f ρ = some ds ∧ ∀ vs F' H', Ext F H F' H' → Reps K F' vs ds → Q vs H'
end

theorem PE.imp {X : Cx} {e : Expr} {t t' : TE} (h : PE X e t) (i : ∀ σ H Q, t' σ H Q → t σ H Q) : PE X e t' := ⟨fun pins s σ H Q I q => h.run pins s σ H Q I (i σ H Q q)⟩
theorem PT.imp {X : Cx} {e : Expr} {t t' : TT} (h : PT X e t) (i : ∀ σ H Q, t' σ H Q → t σ H Q) : PT X e t' := ⟨fun pins s σ H Q I q => h.run pins s σ H Q I (i σ H Q q)⟩
theorem PW.imp {X : Cx} {e : Expr} {t t' : TT} (h : PW X e t) (i : ∀ σ H Q, t' σ H Q → t σ H Q) : PW X e t' := ⟨fun wh pins s σ H Q I q => h.run wh pins s σ H Q I (i σ H Q q)⟩
theorem PA.imp {X : Cx} {e : List Expr} {t t' : TA} (h : PA X e t) (i : ∀ σ H Q, t' σ H Q → t σ H Q) : PA X e t' := ⟨fun pos pins s σ H Q I q => h.run pos pins s σ H Q I (i σ H Q q)⟩
theorem PS.imp {X : Cx} {e : Stmt} {t t' : TS} (h : PS X e t) (i : ∀ D σ H, t' D σ H → t D σ H) : PS X e t' := ⟨fun pins s σ H D I q => h.run pins s σ H D I (i D σ H q)⟩
theorem PSs.imp {X : Cx} {e : List Stmt} {t t' : TS} (h : PSs X e t) (i : ∀ D σ H, t' D σ H → t D σ H) : PSs X e t' := ⟨fun pins s σ H D I q => h.run pins s σ H D I (i D σ H q)⟩

/-! ### where one stands -/
structure Ctx where
  P : Program
  w : World
  K : PySem.W.Frag
  mg : Str → Option Value
  base : Heap
structure Static extends Ctx where
  N : List Str
  sc : Scope
  k : Nat
structure Good (S : Static) (X : Cx) : Prop where
  P : X.prog = S.P
  w : X.w = S.w
  K : X.K = S.K
  mg : X.mg = S.mg
  base : X.base = S.base
  N : X.N = S.N
  nd : S.N.Nodup
  sc : ∀ x k, S.sc.names.lookup x = some k → ∃ k', X.env.scope.names.lookup x = some k' ∧ (k' = k ∨ (k = .free ∧ k' = .cell))
  calm : X.calm = true
  room : Room S.k X.A
  fn : ∀ x, S.sc.names.lookup x = some .cell → X.fn x = true
  kind : X.env.scope.kind = .function
theorem Good.gl {S : Static} {X : Cx} (G : Good S X) {x : Str} (h : S.sc.names.lookup x = some .globalImplicit) : Gl X x := by
  obtain ⟨k', h1, h2⟩ := G.sc x _ h
  rcases h2 with h2 | ⟨h2, _⟩
  · subst h2
    exact h1
  · cases h2
def visB (k : Option NameKind) : Bool := match k with
  | some .local => true
  | some .cell => true
  | some .free => true
  | _ => false
theorem Good.vis {S : Static} {X : Cx} (G : Good S X) {x : Str} (h : visB (S.sc.names.lookup x) = true) : Vis X.env.scope x := by
  cases e : S.sc.names.lookup x with
  | none => rw [e] at h; cases h
  | some k =>
    rw [e] at h
    obtain ⟨k', h1, h2⟩ := G.sc x k e
    rcases h2 with h2 | ⟨h2, h3⟩
    · subst h2
      cases k' <;> first | exact .inl h1 | exact .inr (.inl h1) | exact .inr (.inr h1) | cases h
    · subst h3
      exact .inr (.inl h1)
def locB (k : Option NameKind) : Bool := match k with
  | some .local => true
  | some .cell => true
  | _ => false
theorem Good.loc {S : Static} {X : Cx} (G : Good S X) {x : Str} (h : locB (S.sc.names.lookup x) = true) : Loc X.env.scope x ∧ (X.fn x = true ∨ X.env.scope.names.lookup x = some .local) := by
  cases e : S.sc.names.lookup x with
  | none => rw [e] at h; cases h
  | some k =>
    rw [e] at h
    obtain ⟨k', h1, h2⟩ := G.sc x k e
    rcases h2 with h2 | ⟨h2, h3⟩
    · subst h2
      cases k' <;> first | exact ⟨.inl h1, .inr h1⟩ | exact ⟨.inr h1, .inl (G.fn x e)⟩ | cases h
    · subst h2
      cases h

def ME (S : Static) (e : Expr) (f : Env → Option D) : Prop := ∀ X, Good S X → PE X e (tEv S.K f)
def MT (S : Static) (e : Expr) (f : Env → Option Bool) : Prop := ∀ X, Good S X → PT X e (tTv S.K f)
def MA (S : Static) (es : List Expr) (f : Env → Option (List D)) : Prop := ∀ X, Good S X → PA X es (tAv S.K f)

section
variable {S : Static} {e a b c : Expr} {es : List Expr} {pos p : Pos} {f fa fb fc : Env → Option D} {fs : Env → Option (List D)}

/-! ### names, constants -/
def fVar (i : Nat) : Env → Option D := fun ρ => (ρ[i]?).getD none
theorem me_var (i : Nat) {x : Str} (hN : S.N[i]? = some x) (hv : visB (S.sc.names.lookup x) = true) (hd : (x == ("__debug__" : Str)) = false := by decide) (hcd : (x == ("__classdict__" : Str)) = false := by decide) : ME S (.Name x pos) (fVar i) := fun X G =>
  PE.imp (pe_var (i := i) (by rw [G.N]; exact hN) (G.vis hv) hd hcd) fun σ H Q ⟨F, ρ, d, s, ok, e, q⟩ => by
    unfold fVar at e
    cases h : ρ[i]? with
    | none => rw [h] at e; cases e
    | some o =>
      rw [h] at e
      have e : o = some d := e
      subst e
      obtain ⟨v, h1, h2⟩ := ok.get i d h
      exact ⟨v, h1, q v F H (Ext.refl s) h2⟩
def fC (d : D) : Env → Option D := fun _ => some d
theorem me_c {v : V} {d : D} (h : ∀ X, PE X e (tC v)) (r : ∀ F, Rep S.K F v d) : ME S e (fC d) := fun X G =>
  PE.imp (h X) fun σ H Q ⟨F, ρ, d', s, ok, e, q⟩ => by
    cases e
    exact q v F H (Ext.refl s) (r F)
theorem me_int {i : Int} {j} : ME S (.Constant (.int i) j pos) (fC (.int i)) := me_c (fun X => pe_int) fun F => .int i
theorem me_bl {i : Bool} {j} : ME S (.Constant (.bool i) j pos) (fC (.bl i)) := me_c (fun X => pe_bl) fun F => .bl i
theorem me_non {j} : ME S (.Constant .none j pos) (fC .non) := me_c (fun X => pe_non) fun F => .non
theorem me_str {x : Str} {j} : ME S (.Constant (.str x) j pos) (fC (.str x)) := me_c (fun X => pe_str) fun F => .str x

/-! ### operators -/
def f2 (g : D → D → Option D) (fa fb : Env → Option D) : Env → Option D := fun ρ => (fa ρ).bind fun x => (fb ρ).bind fun y => g x y
theorem f2_some {g : D → D → Option D} {ρ : Env} {d : D} (h : f2 g fa fb ρ = some d) : ∃ x y, fa ρ = some x ∧ fb ρ = some y ∧ g x y = some d := by
  unfold f2 at h
  obtain ⟨x, h1, h⟩ := Option.bind_eq_some_iff.mp h
  obtain ⟨y, h2, h⟩ := Option.bind_eq_some_iff.mp h
  exact ⟨x, y, h1, h2, h⟩
/-- an operation of two data -/
def rD2 (K : PySem.W.Frag) (g : D → D → Option D) : R2 := fun x y H Q => ∃ F dx dy d, Same F H ∧ Rep K F x dx ∧ Rep K F y dy ∧ g dx dy = some d ∧ After K F H d Q
theorem two {K : PySem.W.Frag} {g : D → D → Option D} {σ : St} {H : Hp} {Q : VK} (h : tEv K (f2 g fa fb) σ H Q) : tOp (rD2 K g) (tEv K fa) (tEv K fb) σ H Q := by
  obtain ⟨F, ρ, d, s, ok, e, q⟩ := h
  obtain ⟨x, y, h1, h2, h3⟩ := f2_some e
  refine ⟨F, ρ, x, s, ok, h1, fun v F1 H1 x1 r1 => ⟨F1, ρ, y, x1.s, ok.mono x1.f, h2, fun u F2 H2 x2 r2 => ⟨F2, x, y, d, x2.s, r1.mono x2.f, r2, h3, fun z F3 H3 x3 r3 => q z F3 H3 ((x1.trans x2).trans x3) r3⟩⟩⟩
theorem me_op {op : Operator} {g : D → D → Option D} (ho : ∀ X, Good S X → OpR X (binaryOp op) (rD2 S.K g)) (ha : ME S a fa) (hb : ME S b fb) : ME S (.BinOp a op b pos) (f2 g fa fb) := fun X G =>
  PE.imp (pe_op (ho X G) (ha X G) (hb X G)) fun _ _ _ => two
theorem me_cmp {op : CmpOp} {g : D → D → Option D} (ho : ∀ X, Good S X → OpR X (compareOp op) (rD2 S.K g)) (hm : behindInMarks op b = false) (ha : ME S a fa) (hb : ME S b fb) : ME S (.Compare a [op] [b] pos) (f2 g fa fb) := fun X G =>
  PE.imp (pe_cmpR (ho X G) (ha X G) (hb X G) hm) fun _ _ _ => two

def dAdd : D → D → Option D
  | .int i, .int j => some (.int (i + j))
  | .str x, .str y => if x.length + y.length ≤ sizeLine then some (.str (x ++ y)) else none
  | .lst xs, .lst ys => if xs.length + ys.length ≤ sizeLine then some (.lst (xs ++ ys)) else none
  | .tup xs, .tup ys => if xs.length + ys.length ≤ sizeLine then some (.tup (xs ++ ys)) else none
  | _, _ => none
theorem opD_add {X : Cx} : OpR X (binaryOp .Add) (rD2 X.K dAdd) := by
  intro pins s σ H x y v u Q I rx ry h
  obtain ⟨F, dx, dy, d, sm, h1, h2, e, q⟩ := h
  cases h1 <;> cases h2 <;> simp only [dAdd] at e <;> try (cases e)
  case int.int.refl => exact op_add pins s σ H _ _ v u Q I rx ry ⟨_, _, rfl, rfl, q _ F H (Ext.refl sm) (.int _)⟩
  case str.str =>
    split at e <;> cases e
    rename_i hz
    exact op_add_str pins s σ H _ _ v u Q I rx ry ⟨_, _, rfl, rfl, hz, q _ F H (Ext.refl sm) (.str _)⟩
  case lst.lst a xs ds h r b ys es h' r' =>
    split at e <;> cases e
    rename_i hz
    refine op_cat pins s σ H _ _ v u Q I rx ry ⟨_, _, _, _, rfl, rfl, sm _ _ h, sm _ _ h', by rw [r.length, r'.length]; exact hz, fun p hp => ?_⟩
    have x := Ext.new sm (o := .lst (xs ++ ys)) hp
    exact q _ _ _ x (.lst upd_same ((r.append r').mono x.f))
  case tup.tup a xs ds h r b ys es h' r' =>
    split at e <;> cases e
    rename_i hz
    refine op_catA pins s σ H _ _ v u Q I rx ry ⟨_, _, _, _, rfl, rfl, SqT.of (sm _ _ h), SqT.of (sm _ _ h'), by rw [r.length, r'.length]; exact hz, fun z => ?_, fun z1 z2 => ?_, fun z1 z2 p hp => ?_⟩
    · subst z
      cases r
      exact q _ F H (Ext.refl sm) (.tup h' r')
    · subst z2
      cases r'
      rw [List.append_nil] at q
      exact q _ F H (Ext.refl sm) (.tup h r)
    · have x := Ext.new sm (o := .tup (xs ++ ys)) hp
      exact q _ _ _ x (.tup upd_same ((r.append r').mono x.f))
def dSub : D → D → Option D
  | .int i, .int j => some (.int (i - j))
  | _, _ => none
theorem opD_sub {X : Cx} : OpR X (binaryOp .Sub) (rD2 X.K dSub) := by
  intro pins s σ H x y v u Q I rx ry h
  obtain ⟨F, dx, dy, d, sm, h1, h2, e, q⟩ := h
  cases h1 <;> cases h2 <;> simp only [dSub] at e <;> cases e
  exact op_sub pins s σ H _ _ v u Q I rx ry ⟨_, _, rfl, rfl, q _ F H (Ext.refl sm) (.int _)⟩
def dMul : D → D → Option D
  | .int i, .int j => if ((-(2 ^ 64) < i ∧ i < 2 ^ 64) ∨ (-(2 ^ 64) < j ∧ j < 2 ^ 64)) ∨ i.natAbs.log2 + j.natAbs.log2 < 1000000 then some (.int (i * j)) else none
  | .lst xs, .int k => if -(2 ^ 63) ≤ k ∧ k < 2 ^ 63 ∧ xs.length * k.toNat ≤ sizeLine then some (.lst (List.replicate k.toNat xs).flatten) else none
  | _, _ => none
theorem reps_rep {K : PySem.W.Frag} {F : Hp} {xs : List V} {ds : List D} (r : Reps K F xs ds) : ∀ n : Nat, Reps K F (List.replicate n xs).flatten (List.replicate n ds).flatten
  | 0 => .nil
  | n + 1 => by
    rw [List.replicate_succ, List.replicate_succ, List.flatten_cons, List.flatten_cons]
    exact r.append (reps_rep r n)
theorem opD_mul {X : Cx} : OpR X (binaryOp .Mult) (rD2 X.K dMul) := by
  intro pins s σ H x y v u Q I rx ry h
  obtain ⟨F, dx, dy, d, sm, h1, h2, e, q⟩ := h
  cases h1 <;> cases h2 <;> simp only [dMul] at e <;> try (cases e)
  case int.int =>
    split at e <;> cases e
    rename_i hz
    rcases hz with hz | hz
    · exact op_mul pins s σ H _ _ v u Q I rx ry ⟨_, _, rfl, rfl, hz, q _ F H (Ext.refl sm) (.int _)⟩
    · exact op_mulW pins s σ H _ _ v u Q I rx ry ⟨_, _, rfl, rfl, hz, q _ F H (Ext.refl sm) (.int _)⟩
  case lst.int a xs ds h r k =>
    split at e <;> cases e
    rename_i hz
    refine op_rep pins s σ H _ _ v u Q I rx ry ⟨_, _, _, rfl, rfl, sm _ _ h, hz.1, hz.2.1, by rw [r.length]; exact hz.2.2, fun p hp => ?_⟩
    have x := Ext.new sm (o := .lst (List.replicate k.toNat xs).flatten) hp
    exact q _ _ _ x (.lst upd_same ((reps_rep r _).mono x.f))
def dDiv : D → D → Option D
  | .int i, .int j => if j ≠ 0 ∧ j.natAbs < 1073741824 then some (.int (i.fdiv j)) else none
  | _, _ => none
theorem opD_div {X : Cx} : OpR X (binaryOp .FloorDiv) (rD2 X.K dDiv) := by
  intro pins s σ H x y v u Q I rx ry h
  obtain ⟨F, dx, dy, d, sm, h1, h2, e, q⟩ := h
  cases h1 <;> cases h2 <;> simp only [dDiv] at e <;> try (cases e)
  split at e <;> cases e
  rename_i hz
  exact op_fdivN pins s σ H _ _ v u Q I rx ry ⟨_, _, rfl, rfl, hz, q _ F H (Ext.refl sm) (.int _)⟩
def dMod : D → D → Option D
  | .int i, .int j => if j ≠ 0 then some (.int (i.fmod j)) else none
  | _, _ => none
theorem opD_mod {X : Cx} : OpR X (binaryOp .Mod) (rD2 X.K dMod) := by
  intro pins s σ H x y v u Q I rx ry h
  obtain ⟨F, dx, dy, d, sm, h1, h2, e, q⟩ := h
  cases h1 <;> cases h2 <;> simp only [dMod] at e <;> try (cases e)
  split at e <;> cases e
  rename_i hz
  exact op_modN pins s σ H _ _ v u Q I rx ry ⟨_, _, rfl, rfl, hz, q _ F H (Ext.refl sm) (.int _)⟩
def dPow : D → D → Option D
  | .int i, .int j => if 0 ≤ j ∧ j ≤ 1000000 ∧ i.natAbs < 2 ^ 64 then some (.int (i ^ j.toNat)) else none
  | _, _ => none
theorem opD_pow {X : Cx} : OpR X (binaryOp .Pow) (rD2 X.K dPow) := by
  intro pins s σ H x y v u Q I rx ry h
  obtain ⟨F, dx, dy, d, sm, h1, h2, e, q⟩ := h
  cases h1 <;> cases h2 <;> simp only [dPow] at e <;> try (cases e)
  split at e <;> cases e
  rename_i hz
  exact op_pow pins s σ H _ _ v u Q I rx ry ⟨_, _, rfl, rfl, hz, q _ F H (Ext.refl sm) (.int _)⟩
theorem me_add (ha : ME S a fa) (hb : ME S b fb) : ME S (.BinOp a .Add b pos) (f2 dAdd fa fb) := me_op (fun X G => G.K ▸ opD_add) ha hb
theorem me_sub (ha : ME S a fa) (hb : ME S b fb) : ME S (.BinOp a .Sub b pos) (f2 dSub fa fb) := me_op (fun X G => G.K ▸ opD_sub) ha hb
theorem me_mul (ha : ME S a fa) (hb : ME S b fb) : ME S (.BinOp a .Mult b pos) (f2 dMul fa fb) := me_op (fun X G => G.K ▸ opD_mul) ha hb
theorem me_div (ha : ME S a fa) (hb : ME S b fb) : ME S (.BinOp a .FloorDiv b pos) (f2 dDiv fa fb) := me_op (fun X G => G.K ▸ opD_div) ha hb
theorem me_mod (ha : ME S a fa) (hb : ME S b fb) : ME S (.BinOp a .Mod b pos) (f2 dMod fa fb) := me_op (fun X G => G.K ▸ opD_mod) ha hb
theorem me_pow (ha : ME S a fa) (hb : ME S b fb) : ME S (.BinOp a .Pow b pos) (f2 dPow fa fb) := me_op (fun X G => G.K ▸ opD_pow) ha hb
def f1 (g : D → Option D) (fa : Env → Option D) : Env → Option D := fun ρ => (fa ρ).bind g
def rD1 (K : PySem.W.Frag) (g : D → Option D) : V → Hp → VK → Prop := fun x H Q => ∃ F dx d, Same F H ∧ Rep K F x dx ∧ g dx = some d ∧ After K F H d Q
theorem one {K : PySem.W.Frag} {g : D → Option D} {σ : St} {H : Hp} {Q : VK} (h : tEv K (f1 g fa) σ H Q) : tEv K fa σ H fun x H1 => rD1 K g x H1 Q := by
  obtain ⟨F, ρ, d, s, ok, e, q⟩ := h
  obtain ⟨x, h1, h3⟩ := Option.bind_eq_some_iff.mp e
  exact ⟨F, ρ, x, s, ok, h1, fun v F1 H1 x1 r1 => ⟨F1, x, d, x1.s, r1, h3, fun z F3 H3 x3 r3 => q z F3 H3 (x1.trans x3) r3⟩⟩
def dNeg : D → Option D
  | .int i => some (.int (-i))
  | _ => none
theorem me_neg (ha : ME S a fa) : ME S (.UnaryOp .USub a pos) (f1 dNeg fa) := fun X G =>
  PE.imp (pe_un un_neg (ha X G)) fun σ H Q h => by
    obtain ⟨F, ρ, d, s, ok, h1, k⟩ := one h
    refine ⟨F, ρ, d, s, ok, h1, fun v F1 H1 x1 r1 => ?_⟩
    obtain ⟨F2, dx, d2, s2, r2, e2, q⟩ := k v F1 H1 x1 r1
    cases r2 <;> simp only [dNeg] at e2 <;> cases e2
    exact ⟨_, rfl, q _ F2 H1 (Ext.refl s2) (.int _)⟩
end
end VM
/-! VM2 -/
namespace VM
open PySem PySem.Spec PyProof.Rows L2

/-! ### data that can be compared -/
mutual
def toPy : D → PyData
  | .non => .none
  | .bl b => .bool b
  | .int i => .int i
  | .str x => .str x
  | .tup xs => .tuple (toPys xs)
  | .lst xs => .list (toPys xs)
  | .ro xs => .list (toPys xs)
  | .tpd xs => .tuple (toPys xs)
  | .dK _ => .none
  | .dT _ => .none
  | .ins _ _ => .none
def toPys : List D → List PyData
  | [] => []
  | x :: xs => toPy x :: toPys xs
end
mutual
def isData : D → Bool
  | .non => true
  | .bl _ => true
  | .int _ => true
  | .str _ => true
  | .tup xs => isDatas xs
  | .lst xs => isDatas xs
  | .ro xs => isDatas xs
  | .tpd xs => isDatas xs
  | .dK _ => false
  | .dT _ => false
  | .ins _ _ => false
def isDatas : List D → Bool
  | [] => true
  | x :: xs => isData x && isDatas xs
end
theorem toPys_map : ∀ xs : List D, toPys xs = xs.map toPy
  | [] => by rw [toPys, List.map_nil]
  | x :: xs => by rw [toPys, toPys_map xs, List.map_cons]
theorem isDatas_all : ∀ xs : List D, isDatas xs = xs.all isData
  | [] => by rw [isDatas, List.all_nil]
  | x :: xs => by rw [isDatas, isDatas_all xs, List.all_cons]
def okD (d : D) : Bool := isData d && SeqAt.shaped (toPy d)
section
variable {K : PySem.W.Frag} {F H : Hp}
mutual
theorem Rep.dp (sm : Same F H) : ∀ {v : V} {d : D}, Rep K F v d → isData d = true → Dp K H v (toPy d)
  | _, _, .non, _ => by rw [toPy]; exact .non
  | _, _, .bl b, _ => by rw [toPy]; exact .bl b
  | _, _, .int i, _ => by rw [toPy]; exact .int i
  | _, _, .str x, _ => by rw [toPy]; exact .str x
  | _, _, .tup h r, e => by
    rw [isData] at e
    rw [toPy]
    exact .tup (SqT.of (sm _ _ h)) (Reps.dp sm r e)
  | _, _, .lst h r, e => by
    rw [isData] at e
    rw [toPy]
    exact .lst (SqL.of (sm _ _ h)) (Reps.dp sm r e)
  | _, _, .ro h r, e => by
    rw [isData] at e
    rw [toPy]
    exact .lst (sm.seq h) (Reps.dp sm r e)
  | _, _, .tpd h n r, e => by
    rw [isData] at e
    rw [toPy]
    exact .tup (.inl (.inr ⟨_, sm _ _ h⟩)) (Reps.dp sm r e)
  | _, _, .dK _ _, e => by rw [isData] at e; cases e
  | _, _, .dT _ _, e => by rw [isData] at e; cases e
  | _, _, .ins _ _, e => by rw [isData] at e; cases e
theorem Reps.dp (sm : Same F H) : ∀ {v : List V} {d : List D}, Reps K F v d → isDatas d = true → DpAll K H v (toPys d)
  | _, _, .nil, _ => by rw [toPys]; exact .nil
  | _, _, .cons h r, e => by
    rw [isDatas, Bool.and_eq_true] at e
    rw [toPys]
    exact .cons (Rep.dp sm h e.1) (Reps.dp sm r e.2)
end
end

/-- == of data -/
def dEq : D → D → Option D := fun x y => if okD x = true ∧ okD y = true then some (.bl (PyData.eqv (toPy x) (toPy y))) else none
def dNe : D → D → Option D := fun x y => if okD x = true ∧ okD y = true then some (.bl (!PyData.eqv (toPy x) (toPy y))) else none
theorem okD.two {d : D} (h : okD d = true) : isData d = true ∧ SeqAt.shaped (toPy d) = true := Bool.and_eq_true_iff.mp h
theorem opD_eq {X : Cx} (hu : X.A.units + 64 < cLine) : OpR X (compareOp .Eq) (rD2 X.K dEq) := by
  intro pins s σ H x y v u Q I rx ry h
  obtain ⟨F, dx, dy, d, sm, h1, h2, e, q⟩ := h
  unfold dEq at e
  split at e <;> cases e
  rename_i hz
  exact op_eqD hu pins s σ H _ _ v u Q I rx ry ⟨_, _, h1.dp sm (okD.two hz.1).1, h2.dp sm (okD.two hz.2).1, (okD.two hz.1).2, (okD.two hz.2).2, q _ F H (Ext.refl sm) (.bl _)⟩
theorem opD_ne {X : Cx} (hu : X.A.units + 64 < cLine) : OpR X (compareOp .NotEq) (rD2 X.K dNe) := by
  intro pins s σ H x y v u Q I rx ry h
  obtain ⟨F, dx, dy, d, sm, h1, h2, e, q⟩ := h
  unfold dNe at e
  split at e <;> cases e
  rename_i hz
  exact op_neD hu pins s σ H _ _ v u Q I rx ry ⟨_, _, h1.dp sm (okD.two hz.1).1, h2.dp sm (okD.two hz.2).1, (okD.two hz.1).2, (okD.two hz.2).2, q _ F H (Ext.refl sm) (.bl _)⟩

/-! ### order -/
def isSome_ : PyData → Bool
  | .none => false
  | _ => true
theorem isSome_ne {d : PyData} (h : isSome_ d = true) : d ≠ .none := fun e => by rw [e] at h; cases h
/-- data that are alike, place by place -/
def dLtD (x y : D) : Option D := if okD x = true ∧ okD y = true ∧ PySem.W.alike (toPy x) (toPy y) = true ∧ isSome_ (toPy x) = true then some (.bl (PySem.W.dataLt (toPy x) (toPy y))) else none
def dLt : D → D → Option D
  | .int i, .int j => some (.bl (decide (i < j)))
  | .str x, .str y => some (.bl (decide (x.cps.toList < y.cps.toList)))
  | .tup x, .tup y => dLtD (.tup x) (.tup y)
  | _, _ => none
def dLe : D → D → Option D
  | .int i, .int j => some (.bl (decide (i ≤ j)))
  | .str x, .str y => some (.bl (!decide (y.cps.toList < x.cps.toList)))
  | _, _ => none
def dGt : D → D → Option D
  | .int i, .int j => some (.bl (decide (j < i)))
  | _, _ => none
def dGe : D → D → Option D
  | .int i, .int j => some (.bl (decide (j ≤ i)))
  | _, _ => none
section
variable {X : Cx}
theorem opD_ltD (hu : X.A.units + 64 < cLine) : OpR X (compareOp .Lt) (rD2 X.K dLtD) := by
  intro pins s σ H x y v u Q I rx ry h
  obtain ⟨F, dx, dy, d, sm, h1, h2, e, q⟩ := h
  unfold dLtD at e
  split at e <;> cases e
  rename_i hz
  obtain ⟨as, r1⟩ := Dp.reads I _ x v (h1.dp sm (okD.two hz.1).1) rx
  obtain ⟨bs, r2⟩ := Dp.reads I _ y u (h2.dp sm (okD.two hz.2.1).1) ry
  exact PySem.W.lt_data r1 r2 hz.2.2.1 (isSome_ne hz.2.2.2) (SeqAt.room_of_shaped (okD.two hz.1).2 hu) ⟨.bl _, H, I, rfl, q _ F H (Ext.refl sm) (.bl _)⟩
theorem opD_lt (hu : X.A.units + 64 < cLine) : OpR X (compareOp .Lt) (rD2 X.K dLt) := by
  intro pins s σ H x y v u Q I rx ry h
  obtain ⟨F, dx, dy, d, sm, h1, h2, e, q⟩ := h
  cases h1 <;> cases h2 <;> simp only [dLt] at e <;> try (cases e)
  · exact op_lt pins s σ H _ _ v u Q I rx ry ⟨_, _, rfl, rfl, q _ F H (Ext.refl sm) (.bl _)⟩
  · exact op_lt_str pins s σ H _ _ v u Q I rx ry ⟨_, _, rfl, rfl, q _ F H (Ext.refl sm) (.bl _)⟩
  · rename_i ha ra _ _ _ hb rb
    exact opD_ltD hu pins s σ H _ _ v u Q I rx ry ⟨F, _, _, d, sm, .tup ha ra, .tup hb rb, e, q⟩
theorem opD_le : OpR X (compareOp .LtE) (rD2 X.K dLe) := by
  intro pins s σ H x y v u Q I rx ry h
  obtain ⟨F, dx, dy, d, sm, h1, h2, e, q⟩ := h
  cases h1 <;> cases h2 <;> simp only [dLe] at e <;> try (cases e)
  · exact op_le pins s σ H _ _ v u Q I rx ry ⟨_, _, rfl, rfl, q _ F H (Ext.refl sm) (.bl _)⟩
  · exact op_le_str pins s σ H _ _ v u Q I rx ry ⟨_, _, rfl, rfl, q _ F H (Ext.refl sm) (.bl _)⟩
theorem opD_gt : OpR X (compareOp .Gt) (rD2 X.K dGt) := by
  intro pins s σ H x y v u Q I rx ry h
  obtain ⟨F, dx, dy, d, sm, h1, h2, e, q⟩ := h
  cases h1 <;> cases h2 <;> simp only [dGt] at e <;> try (cases e)
  · exact op_gt pins s σ H _ _ v u Q I rx ry ⟨_, _, rfl, rfl, q _ F H (Ext.refl sm) (.bl _)⟩
theorem opD_ge : OpR X (compareOp .GtE) (rD2 X.K dGe) := by
  intro pins s σ H x y v u Q I rx ry h
  obtain ⟨F, dx, dy, d, sm, h1, h2, e, q⟩ := h
  cases h1 <;> cases h2 <;> simp only [dGe] at e <;> try (cases e)
  · exact op_ge pins s σ H _ _ v u Q I rx ry ⟨_, _, rfl, rfl, q _ F H (Ext.refl sm) (.bl _)⟩
end

/-! ### in -/
def flatD : D → Bool
  | .non => true
  | .bl _ => true
  | .int _ => true
  | .str _ => true
  | _ => false
def eqD : D → D → Bool
  | .non, .non => true
  | .bl a, .bl b => a == b
  | .bl a, .int b => (if a then 1 else 0) == b
  | .int a, .bl b => a == (if b then 1 else 0)
  | .int a, .int b => a == b
  | .str a, .str b => a == b
  | _, _ => false
def inD (x : D) (xs : List D) : Bool := xs.any fun y => eqD y x
section
variable {K : PySem.W.Frag} {F H : Hp}
theorem flat_V {v : V} {d : D} (r : Rep K F v d) (h : flatD d = true) : flatV v = true := by
  cases r <;> first | rfl | cases h
theorem eq_V {v w : V} {d e : D} (r : Rep K F v d) (q : Rep K F w e) (h : flatD d = true) (h' : flatD e = true) : eqV v w = eqD d e := by
  cases r <;> cases q <;> first | rfl | (cases h; done) | (cases h'; done)
theorem flats_V : ∀ {vs : List V} {ds : List D}, Reps K F vs ds → ds.all flatD = true → vs.all flatV = true
  | _, _, .nil, _ => rfl
  | _, _, .cons h r, e => by
    rw [List.all_cons, Bool.and_eq_true] at e
    rw [List.all_cons, flat_V h e.1, flats_V r e.2]
    rfl
theorem in_V {v : V} {d : D} (q : Rep K F v d) (hf : flatD d = true) : ∀ {vs : List V} {ds : List D}, Reps K F vs ds → ds.all flatD = true → inV v vs = inD d ds
  | _, _, .nil, _ => rfl
  | _, _, .cons h r, e => by
    rw [List.all_cons, Bool.and_eq_true] at e
    have ih := in_V q hf r e.2
    unfold inV inD at ih ⊢
    rw [List.any_cons, List.any_cons, ih, eq_V h q e.1 hf]
end
/-- x in ys: flat things by ==; any data in a list -/
def dInB (x : D) : D → Option Bool
  | .tpd ys => if flatD x = true ∧ ys.all flatD = true then some (inD x ys) else none
  | .tup ys => if flatD x = true ∧ ys.all flatD = true then some (inD x ys) else none
  | .lst ys => if flatD x = true ∧ ys.all flatD = true then some (inD x ys) else
      if okD x = true ∧ okD (.lst ys) = true then some ((toPys ys).any fun z => PyData.eqv z (toPy x)) else none
  | _ => none
def dIn (x y : D) : Option D := (dInB x y).map .bl
def dNotIn (x y : D) : Option D := (dInB x y).map fun b => .bl (!b)
theorem opD_in {X : Cx} (hu : X.A.units + 65 < cLine) : OpR X (compareOp .In) (rD2 X.K dIn) := by
  intro pins s σ H x y v u Q I rx ry h
  obtain ⟨F, dx, dy, d, sm, h1, h2, e, q⟩ := h
  obtain ⟨b, e', rfl⟩ := Option.map_eq_some_iff.mp e
  clear e
  have e := e'
  clear e'
  cases h2 <;> simp only [dInB] at e <;> try (cases e)
  case tup a xs ds h r =>
    split at e <;> cases e
    rename_i hz
    refine op_in_seq pins s σ H _ _ v u Q I rx ry ⟨_, _, rfl, .inr (SqT.of (sm _ _ h)), flat_V h1 hz.1, flats_V r hz.2, ?_⟩
    rw [if_neg Bool.false_ne_true, in_V h1 hz.1 r hz.2]
    exact q _ F H (Ext.refl sm) (.bl _)
  case tpd a ob xs ds h nd r =>
    split at e <;> cases e
    rename_i hz
    refine op_in_seq pins s σ H _ _ v u Q I rx ry ⟨_, _, rfl, .inr (.inl (.inr ⟨_, sm _ _ h⟩)), flat_V h1 hz.1, flats_V r hz.2, ?_⟩
    rw [if_neg Bool.false_ne_true, in_V h1 hz.1 r hz.2]
    exact q _ F H (Ext.refl sm) (.bl _)
  case lst a xs ds h r =>
    split at e
    · cases e
      rename_i hz
      refine op_in_seq pins s σ H _ _ v u Q I rx ry ⟨_, _, rfl, .inl (SqL.of (sm _ _ h)), flat_V h1 hz.1, flats_V r hz.2, ?_⟩
      rw [if_neg Bool.false_ne_true, in_V h1 hz.1 r hz.2]
      exact q _ F H (Ext.refl sm) (.bl _)
    · split at e <;> cases e
      rename_i hz
      have hd := (Rep.lst h r).dp sm (okD.two hz.2).1
      have hs := (okD.two hz.2).2
      rw [toPy] at hd hs
      exact op_inD hu pins s σ H _ _ v u Q I rx ry ⟨_, _, h1.dp sm (okD.two hz.1).1, hd, (okD.two hz.1).2, hs, q _ F H (Ext.refl sm) (.bl _)⟩
theorem opD_notIn {X : Cx} (hu : X.A.units + 65 < cLine) : OpR X (compareOp .NotIn) (rD2 X.K dNotIn) := by
  intro pins s σ H x y v u Q I rx ry h
  obtain ⟨F, dx, dy, d, sm, h1, h2, e, q⟩ := h
  obtain ⟨b, e', rfl⟩ := Option.map_eq_some_iff.mp e
  clear e
  have e := e'
  clear e'
  cases h2 <;> simp only [dInB] at e <;> try (cases e)
  case tup a xs ds h r =>
    split at e <;> cases e
    rename_i hz
    refine op_notIn_seq pins s σ H _ _ v u Q I rx ry ⟨_, _, rfl, .inr (SqT.of (sm _ _ h)), flat_V h1 hz.1, flats_V r hz.2, ?_⟩
    rw [if_pos rfl, in_V h1 hz.1 r hz.2]
    exact q _ F H (Ext.refl sm) (.bl _)
  case tpd a ob xs ds h nd r =>
    split at e <;> cases e
    rename_i hz
    refine op_notIn_seq pins s σ H _ _ v u Q I rx ry ⟨_, _, rfl, .inr (.inl (.inr ⟨_, sm _ _ h⟩)), flat_V h1 hz.1, flats_V r hz.2, ?_⟩
    rw [if_pos rfl, in_V h1 hz.1 r hz.2]
    exact q _ F H (Ext.refl sm) (.bl _)
  case lst a xs ds h r =>
    split at e
    · cases e
      rename_i hz
      refine op_notIn_seq pins s σ H _ _ v u Q I rx ry ⟨_, _, rfl, .inl (SqL.of (sm _ _ h)), flat_V h1 hz.1, flats_V r hz.2, ?_⟩
      rw [if_pos rfl, in_V h1 hz.1 r hz.2]
      exact q _ F H (Ext.refl sm) (.bl _)
    · split at e <;> cases e
      rename_i hz
      have hd := (Rep.lst h r).dp sm (okD.two hz.2).1
      have hs := (okD.two hz.2).2
      rw [toPy] at hd hs
      exact op_notInD hu pins s σ H _ _ v u Q I rx ry ⟨_, _, h1.dp sm (okD.two hz.1).1, hd, (okD.two hz.1).2, hs, q _ F H (Ext.refl sm) (.bl _)⟩

/-! ### comparisons as expressions, as tests -/
theorem Good.units {S : Static} {X : Cx} (G : Good S X) : X.A.units + 200 < cLine := by
  have := G.room.un
  omega
section
variable {S : Static} {e a b c : Expr} {es rest : List Expr} {pos p : Pos} {f fa fb fc : Env → Option D} {fs : Env → Option (List D)} {h ha' hb' : Env → Option Bool}
/-- which comparison -/
inductive CmpIs (S : Static) : CmpOp → (D → D → Option D) → Prop
  | eq : CmpIs S .Eq dEq
  | ne : CmpIs S .NotEq dNe
  | lt : CmpIs S .Lt dLt
  | le : CmpIs S .LtE dLe
  | gt : CmpIs S .Gt dGt
  | ge : CmpIs S .GtE dGe
  | isin : CmpIs S .In dIn
  | notin : CmpIs S .NotIn dNotIn
theorem CmpIs.op {op : CmpOp} {g : D → D → Option D} (h : CmpIs S op g) (X : Cx) (G : Good S X) : OpR X (compareOp op) (rD2 S.K g) := by
  have hu := G.units
  rw [← G.K]
  cases h
  · exact opD_eq (by omega)
  · exact opD_ne (by omega)
  · exact opD_lt (by omega)
  · exact opD_le
  · exact opD_gt
  · exact opD_ge
  · exact opD_in (by omega)
  · exact opD_notIn (by omega)
def fT (f : Env → Option D) : Env → Option Bool := fun ρ => (f ρ).bind fun x => match x with
  | .bl b => some b
  | _ => none
theorem fT_some {f : Env → Option D} {ρ : Env} {b : Bool} (h : fT f ρ = some b) : f ρ = some (.bl b) := by
  unfold fT at h
  obtain ⟨x, h1, h2⟩ := Option.bind_eq_some_iff.mp h
  split at h2 <;> cases h2
  exact h1
theorem me_cmp1 {op : CmpOp} {g : D → D → Option D} (h : CmpIs S op g) (ha : ME S a fa) (hb : ME S b fb) (hm : behindInMarks op b = false := by with_unfolding_all rfl) : ME S (.Compare a [op] [b] pos) (f2 g fa fb) :=
  me_cmp (h.op) hm ha hb
theorem asT {K : PySem.W.Frag} {σ : St} {H : Hp} {Q : Bool → Hp → Prop} (hq : tTv K (fT f) σ H Q) : tEv K f σ H fun x H' => ∃ k, x = .bl k ∧ Q k H' := by
  obtain ⟨F, ρ, b, s, ok, e, q⟩ := hq
  refine ⟨F, ρ, _, s, ok, fT_some e, fun v F' H' x r => ?_⟩
  cases r
  exact ⟨b, rfl, q H' x.h⟩
theorem mt_cmp1 {op : CmpOp} {g : D → D → Option D} (h : CmpIs S op g) (ha : ME S a fa) (hb : ME S b fb) (hm : behindInMarks op b = false := by with_unfolding_all rfl) : MT S (.Compare a [op] [b] pos) (fT (f2 g fa fb)) := fun X G =>
  PT.imp (pt_cmpR (h.op X G) (ha X G) (hb X G) hm) fun σ H Q hq => two (asT hq)
def plainT : Expr → Bool
  | .UnaryOp .Not _ _ => false
  | .BoolOp .. => false
  | .IfExp .. => false
  | .Compare .. => false
  | _ => true
theorem plainT_is {env : PySem.Env} : ∀ {e : Expr}, plainT e = true → ∀ whole, isTrue e env whole = (do let v ← whole; standAt e.pos; holding [v] (truthy v)) := by
  intro e h whole
  cases e <;> first | rfl | (cases h; done) | skip
  case UnaryOp op x p => cases op <;> first | rfl | (cases h; done)
theorem mt_val (ha : ME S a fa) (hp : plainT a = true := by rfl) : MT S a (fT fa) := fun X G =>
  PT.imp (pt_val (ha X G) (plainT_is hp)) fun σ H Q hq => asT hq
def fNotT (h : Env → Option Bool) : Env → Option Bool := fun ρ => (h ρ).map (!·)
theorem mt_not (ha : MT S a ha') : MT S (.UnaryOp .Not a pos) (fNotT ha') := fun X G =>
  PT.imp (pt_not (ha X G)) fun σ H Q ⟨F, ρ, b, s, ok, e, q⟩ => by
    obtain ⟨c, h1, rfl⟩ := Option.map_eq_some_iff.mp e
    exact ⟨F, ρ, c, s, ok, h1, fun H' x => q H' x⟩
def MW (S : Static) (e : Expr) (f : Env → Option Bool) : Prop := ∀ X, Good S X → PW X e (tTv S.K f)
theorem mt_w (hw : MW S e h) : MT S e h := fun X G => (hw X G).pt
theorem mw_and1 (ha : MT S a ha') : MW S (.BoolOp .And [a] pos) ha' := fun X G => pw_and1 (ha X G)
theorem mw_or1 (ha : MT S a ha') : MW S (.BoolOp .Or [a] pos) ha' := fun X G => pw_or1 (ha X G)
def fAndT (h k : Env → Option Bool) : Env → Option Bool := fun ρ => (h ρ).bind fun b => if b = true then k ρ else some false
def fOrT (h k : Env → Option Bool) : Env → Option Bool := fun ρ => (h ρ).bind fun b => if b = true then some true else k ρ
theorem mw_and (ha : MT S a ha') (hb : MW S (.BoolOp .And (b :: rest) pos) hb') : MW S (.BoolOp .And (a :: b :: rest) pos) (fAndT ha' hb') := fun X G =>
  PW.imp (pw_and (ha X G) (hb X G)) fun σ H Q ⟨F, ρ, b, s, ok, e, q⟩ => by
    obtain ⟨c, h1, h2⟩ := Option.bind_eq_some_iff.mp e
    refine ⟨F, ρ, c, s, ok, h1, fun H' x => ?_⟩
    cases c with
    | true =>
      rw [if_pos rfl] at h2 ⊢
      exact ⟨F, ρ, b, s.trans x, ok, h2, fun H'' x' => q H'' (x.trans x')⟩
    | false =>
      rw [if_neg Bool.false_ne_true] at h2 ⊢
      cases h2
      exact q H' x
theorem mw_or (ha : MT S a ha') (hb : MW S (.BoolOp .Or (b :: rest) pos) hb') : MW S (.BoolOp .Or (a :: b :: rest) pos) (fOrT ha' hb') := fun X G =>
  PW.imp (pw_or (ha X G) (hb X G)) fun σ H Q ⟨F, ρ, b, s, ok, e, q⟩ => by
    obtain ⟨c, h1, h2⟩ := Option.bind_eq_some_iff.mp e
    refine ⟨F, ρ, c, s, ok, h1, fun H' x => ?_⟩
    cases c with
    | false =>
      rw [if_neg Bool.false_ne_true] at h2 ⊢
      exact ⟨F, ρ, b, s.trans x, ok, h2, fun H'' x' => q H'' (x.trans x')⟩
    | true =>
      rw [if_pos rfl] at h2 ⊢
      cases h2
      exact q H' x
/-- and, or, not as values -/
theorem me_one {op} (h : ME S a fa) : ME S (.BoolOp op [a] pos) fa := fun X G => pe_one (h X G)
def fAnd (fa fb : Env → Option D) : Env → Option D := fun ρ => (fa ρ).bind fun x => match x with
  | .bl true => fb ρ
  | .bl false => some (.bl false)
  | _ => none
def fOr (fa fb : Env → Option D) : Env → Option D := fun ρ => (fa ρ).bind fun x => match x with
  | .bl false => fb ρ
  | .bl true => some (.bl true)
  | _ => none
theorem me_and (ha : ME S a fa) (hb : ME S (.BoolOp .And (b :: rest) pos) fb) : ME S (.BoolOp .And (a :: b :: rest) pos) (fAnd fa fb) := fun X G =>
  PE.imp (pe_and (ha X G) (hb X G)) fun σ H Q ⟨F, ρ, d, s, ok, e, q⟩ => by
    obtain ⟨c, h1, h2⟩ := Option.bind_eq_some_iff.mp e
    refine ⟨F, ρ, c, s, ok, h1, fun v F' H' x r => ?_⟩
    split at h2
    · cases r
      exact ⟨true, rfl, by rw [if_pos rfl]; exact ⟨F', ρ, d, x.s, ok.mono x.f, h2, fun v F'' H'' x' r' => q v F'' H'' (x.trans x') r'⟩⟩
    · cases r
      cases h2
      exact ⟨false, rfl, by rw [if_neg Bool.false_ne_true]; exact q _ F' H' x (.bl _)⟩
    · cases h2
theorem me_or (ha : ME S a fa) (hb : ME S (.BoolOp .Or (b :: rest) pos) fb) : ME S (.BoolOp .Or (a :: b :: rest) pos) (fOr fa fb) := fun X G =>
  PE.imp (pe_or (ha X G) (hb X G)) fun σ H Q ⟨F, ρ, d, s, ok, e, q⟩ => by
    obtain ⟨c, h1, h2⟩ := Option.bind_eq_some_iff.mp e
    refine ⟨F, ρ, c, s, ok, h1, fun v F' H' x r => ?_⟩
    split at h2
    · cases r
      exact ⟨false, rfl, by rw [if_neg Bool.false_ne_true]; exact ⟨F', ρ, d, x.s, ok.mono x.f, h2, fun v F'' H'' x' r' => q v F'' H'' (x.trans x') r'⟩⟩
    · cases r
      cases h2
      exact ⟨true, rfl, by rw [if_pos rfl]; exact q _ F' H' x (.bl _)⟩
    · cases h2
def dNot : D → Option D
  | .bl b => some (.bl (!b))
  | _ => none
theorem me_not (ha : ME S a fa) : ME S (.UnaryOp .Not a pos) (f1 dNot fa) := fun X G =>
  PE.imp (pe_not (ha X G)) fun σ H Q h => by
    obtain ⟨F, ρ, d, s, ok, h1, k⟩ := one h
    refine ⟨F, ρ, d, s, ok, h1, fun v F1 H1 x1 r1 => ?_⟩
    obtain ⟨F2, dx, d2, s2, r2, e2, q⟩ := k v F1 H1 x1 r1
    cases r2 <;> simp only [dNot] at e2 <;> cases e2
    exact ⟨_, rfl, q _ F2 H1 (Ext.refl s2) (.bl _)⟩
def fIte (h : Env → Option Bool) (fa fb : Env → Option D) : Env → Option D := fun ρ => (h ρ).bind fun b => if b = true then fa ρ else fb ρ
theorem me_ite (hc : MT S c h) (ha : ME S a fa) (hb : ME S b fb) : ME S (.IfExp c a b pos) (fIte h fa fb) := fun X G =>
  PE.imp (pe_ifExp (hc X G) (ha X G) (hb X G)) fun σ H Q ⟨F, ρ, d, s, ok, e, q⟩ => by
    obtain ⟨k, h1, h2⟩ := Option.bind_eq_some_iff.mp e
    refine ⟨F, ρ, k, s, ok, h1, fun H' x => ?_⟩
    have e' : Ext F H F H' := ⟨Same.refl _, x, s.trans x, fun _ h _ => h⟩
    dsimp only
    cases k with
    | true =>
      rw [if_pos rfl] at h2 ⊢
      exact ⟨F, ρ, d, s.trans x, ok, h2, fun v F'' H'' x' r' => q v F'' H'' (e'.trans x') r'⟩
    | false =>
      rw [if_neg Bool.false_ne_true] at h2 ⊢
      exact ⟨F, ρ, d, s.trans x, ok, h2, fun v F'' H'' x' r' => q v F'' H'' (e'.trans x') r'⟩

/-! ### argument lists, displays -/
def notStar : Expr → Bool
  | .Starred .. => false
  | _ => true
theorem star_cons {env : PySem.Env} {e : Expr} {es : List Expr} (h : notStar e = true) : starEach (e :: es) env = (false, eval e env) :: starEach es env := by
  cases e <;> first | rfl | (cases h; done)
def fNil : Env → Option (List D) := fun _ => some []
def fCons (f : Env → Option D) (fs : Env → Option (List D)) : Env → Option (List D) := fun ρ => (f ρ).bind fun x => (fs ρ).bind fun xs => some (x :: xs)
theorem ma_nil : MA S [] fNil := fun X G => PA.imp pa_nil fun σ H Q ⟨F, ρ, ds, s, ok, e, q⟩ => by
  cases e
  exact q [] F H (Ext.refl s) .nil
theorem ma_cons (ha : ME S e f) (hr : MA S es fs) (hs : notStar e = true := by rfl) : MA S (e :: es) (fCons f fs) := fun X G =>
  PA.imp (pa_cons (ha X G) (hr X G) (star_cons hs)) fun σ H Q ⟨F, ρ, ds, s, ok, e, q⟩ => by
    obtain ⟨x, h1, e⟩ := Option.bind_eq_some_iff.mp e
    obtain ⟨xs, h2, e⟩ := Option.bind_eq_some_iff.mp e
    cases e
    refine ⟨F, ρ, x, s, ok, h1, fun v F1 H1 x1 r1 => ⟨F1, ρ, xs, x1.s, ok.mono x1.f, h2, fun vs F2 H2 x2 r2 => q _ F2 H2 (x1.trans x2) (.cons (r1.mono x2.f) r2)⟩⟩
def fTup (fs : Env → Option (List D)) : Env → Option D := fun ρ => (fs ρ).bind fun ds => if ds.length ≤ sizeLine then some (.tup ds) else none
def fLst (fs : Env → Option (List D)) : Env → Option D := fun ρ => (fs ρ).bind fun ds => if ds.length ≤ sizeLine then some (.lst ds) else none
theorem me_tup {k} (ha : MA S es fs) : ME S (.Tuple es k pos) (fTup fs) := fun X G =>
  PE.imp (pe_tup (ha X G)) fun σ H Q ⟨F, ρ, d, s, ok, e, q⟩ => by
    obtain ⟨ds, h1, e⟩ := Option.bind_eq_some_iff.mp e
    split at e <;> cases e
    rename_i hz
    refine ⟨F, ρ, ds, s, ok, h1, fun vs F1 H1 x1 r1 => ⟨by rw [r1.length]; exact hz, fun p hp => ?_⟩⟩
    have x := Ext.new x1.s (o := .tup vs) hp
    exact q _ _ _ (x1.trans x) (.tup upd_same (r1.mono x.f))
theorem me_lst (ha : MA S es fs) : ME S (.List es pos) (fLst fs) := fun X G =>
  PE.imp (pe_lst (ha X G)) fun σ H Q ⟨F, ρ, d, s, ok, e, q⟩ => by
    obtain ⟨ds, h1, e⟩ := Option.bind_eq_some_iff.mp e
    split at e <;> cases e
    rename_i hz
    refine ⟨F, ρ, ds, s, ok, h1, fun vs F1 H1 x1 r1 => ⟨by rw [r1.length]; exact hz, fun p hp => ?_⟩⟩
    have x := Ext.new x1.s (o := .lst vs) hp
    exact q _ _ _ (x1.trans x) (.lst upd_same (r1.mono x.f))

/-! ### subscripts -/
def dIx : D → D → Option D
  | .tpd xs, .int i => atI xs i
  | .lst xs, .int i => atI xs i
  | .tup xs, .int i => atI xs i
  | .ro xs, .int i => atI xs i
  | .str z, .int i => if z.length ≤ sizeLine then (atI z.cps.toList i).map fun c => .str ⟨#[c]⟩ else none
  | _, _ => none
theorem atI_reps {K : PySem.W.Frag} {F : Hp} {vs : List V} {ds : List D} {i : Int} {d : D} (r : Reps K F vs ds) (h : atI ds i = some d) : ∃ v, atI vs i = some v ∧ Rep K F v d := by
  unfold atI at h ⊢
  rw [r.length]
  cases e : ixN ds.length i with
  | none => rw [e] at h; cases h
  | some j =>
    rw [e] at h
    exact r.get h
theorem ixD {X : Cx} : IxR X (rD2 X.K dIx) := by
  intro value slice pins s σ H x y v u Q I rx ry h hs
  obtain ⟨F, dx, dy, d, sm, h1, h2, e, q⟩ := h
  cases h1 <;> cases h2 <;> simp only [dIx] at e <;> try (cases e)
  case str.int =>
    split at e
    · rename_i hz
      obtain ⟨c, hc, rfl⟩ := Option.map_eq_some_iff.mp e
      exact ix_str value slice pins s σ H _ _ v u Q I rx ry ⟨_, _, _, rfl, rfl, hz, hc, q _ F H (Ext.refl sm) (.str _)⟩ hs
    · cases e
  case tup.int a xs ds h r i =>
    obtain ⟨v', hv, rv⟩ := atI_reps r e
    exact ix_tup value slice pins s σ H _ _ v u Q I rx ry ⟨_, _, _, _, rfl, rfl, SqT.of (sm _ _ h), hv, q _ F H (Ext.refl sm) rv⟩ hs
  case lst.int a xs ds h r i =>
    obtain ⟨v', hv, rv⟩ := atI_reps r e
    exact ix_list value slice pins s σ H _ _ v u Q I rx ry ⟨_, _, _, _, rfl, rfl, SqL.of (sm _ _ h), hv, q _ F H (Ext.refl sm) rv⟩ hs
  case tpd.int a ob xs ds h nd r i =>
    obtain ⟨v', hv, rv⟩ := atI_reps r e
    exact ix_tup value slice pins s σ H _ _ v u Q I rx ry ⟨_, _, _, _, rfl, rfl, .inl (.inr ⟨_, sm _ _ h⟩), hv, q _ F H (Ext.refl sm) rv⟩ hs
  case ro.int a xs ds h r i =>
    obtain ⟨v', hv, rv⟩ := atI_reps r e
    exact ix_list value slice pins s σ H _ _ v u Q I rx ry ⟨_, _, _, _, rfl, rfl, sm.seq h, hv, q _ F H (Ext.refl sm) rv⟩ hs
def notSlice : Expr → Bool
  | .Slice .. => false
  | _ => true
theorem plainIx {b : Expr} (h : notSlice b = true) : PlainIx b := by
  intro o i
  cases b <;> first | rfl | (cases h; done)
theorem me_ix (ha : ME S a fa) (hb : ME S b fb) (hs : notSlice b = true := by rfl) : ME S (.Subscript a b pos) (f2 dIx fa fb) := fun X G =>
  PE.imp (pe_ix (G.K ▸ ixD : IxR X (rD2 S.K dIx)) (ha X G) (hb X G) (plainIx hs)) fun _ _ _ => two
/-- slices -/
def dCut (xs : List D) (lo hi : Option Int) : List D := (xs.drop (HT.sIx xs.length 0 lo)).take (HT.sIx xs.length xs.length hi - HT.sIx xs.length 0 lo)
def dSl (x : D) (lo hi : Option Int) : Option D := match x with
  | .lst xs => some (.lst (dCut xs lo hi))
  | .ro xs => some (.lst (dCut xs lo hi))
  | .tup xs => some (.tup (dCut xs lo hi))
  | .tpd xs => if HT.sIx xs.length 0 lo = 0 ∧ HT.sIx xs.length xs.length hi = xs.length then some (.tpd xs) else some (.tup (dCut xs lo hi))
  | .str z => if z.length ≤ sizeLine then some (.str (cutS z lo hi)) else none
  | _ => none
def MO (S : Static) (o : Option Expr) (f : Env → Option (Option Int)) : Prop :=
  ∀ X, Good S X → PO X o (fun σ H Q => ∃ F ρ i, Same F H ∧ EnvOk S.K F σ ρ ∧ f ρ = some i ∧ ∀ H', Same H H' → Q i H')
def fNo : Env → Option (Option Int) := fun _ => some none
def fYes (f : Env → Option D) : Env → Option (Option Int) := fun ρ => (f ρ).bind fun x => match x with
  | .int i => some (some i)
  | _ => none
theorem mo_none : MO S none fNo := fun X G => ⟨fun pins s σ H Q I ⟨F, ρ, i, sm, ok, e, q⟩ => by
  cases e
  exact po_none.run pins s σ H Q I (q H (Same.refl _))⟩
theorem mo_some (ha : ME S a fa) : MO S (some a) (fYes fa) := fun X G => ⟨fun pins s σ H Q I ⟨F, ρ, i, sm, ok, e, q⟩ => by
  obtain ⟨x, h1, h2⟩ := Option.bind_eq_some_iff.mp e
  refine (po_some (ha X G)).run pins s σ H Q I ⟨F, ρ, x, sm, ok, h1, fun v F' H' x' r => ?_⟩
  cases r <;> simp only at h2 <;> cases h2
  exact ⟨_, rfl, q H' x'.h⟩⟩
def fSl (fa : Env → Option D) (l h : Env → Option (Option Int)) : Env → Option D := fun ρ => (fa ρ).bind fun x => (l ρ).bind fun i => (h ρ).bind fun j => dSl x i j
def rSl (K : PySem.W.Frag) : V → Option Int → Option Int → Hp → VK → Prop := fun x lo hi H Q => ∃ F dx d, Same F H ∧ Rep K F x dx ∧ dSl dx lo hi = some d ∧ After K F H d Q
theorem cut_reps {K : PySem.W.Frag} {F : Hp} {vs : List V} {ds : List D} (r : Reps K F vs ds) (lo hi : Option Int) : Reps K F (cutV vs lo hi) (dCut ds lo hi) := by
  unfold cutV dCut
  rw [r.length]
  exact (r.drop _).take _
theorem cut_whole {xs : List D} {lo hi : Option Int} (h : HT.sIx xs.length 0 lo = 0 ∧ HT.sIx xs.length xs.length hi = xs.length) : dCut xs lo hi = xs := by
  unfold dCut
  rw [h.1, h.2, List.drop_zero, Nat.sub_zero, List.take_length]
theorem slD {X : Cx} : SlR X (rSl X.K) := by
  intro pins s σ H x v vl vu lo hi sl Q I rx hs pl pu h
  obtain ⟨F, dx, d, sm, h1, e, q⟩ := h
  cases h1 <;> simp only [dSl] at e <;> try (cases e)
  case str =>
    split at e <;> cases e
    rename_i hz
    exact sl_str pins s σ H _ v vl vu lo hi sl Q I rx hs pl pu ⟨_, rfl, hz, q _ F H (Ext.refl sm) (.str _)⟩
  case tup.refl a xs ds h r =>
    refine sl_tupA pins s σ H _ v vl vu lo hi sl Q I rx hs pl pu ⟨_, _, rfl, SqT.of (sm _ _ h), fun z => ?_, fun z p hp => ?_⟩
    · rw [r.length] at z
      rw [cut_whole z] at q
      exact q _ F H (Ext.refl sm) (.tup h r)
    · have x := Ext.new sm (o := .tup (cutV xs lo hi)) hp
      exact q _ _ _ x (.tup upd_same ((cut_reps r lo hi).mono x.f))
  case tpd a ob xs ds h nd r =>
    refine sl_tupA pins s σ H _ v vl vu lo hi sl Q I rx hs pl pu ⟨_, _, rfl, .inl (.inr ⟨_, sm _ _ h⟩), fun z => ?_, fun z p hp => ?_⟩
    · rw [r.length] at z
      rw [if_pos z] at e
      cases e
      exact q _ F H (Ext.refl sm) (.tpd h nd r)
    · rw [r.length] at z
      rw [if_neg z] at e
      cases e
      have x := Ext.new sm (o := .tup (cutV xs lo hi)) hp
      exact q _ _ _ x (.tup upd_same ((cut_reps r lo hi).mono x.f))
  case lst.refl a xs ds h r =>
    refine sl_list pins s σ H _ v vl vu lo hi sl Q I rx hs pl pu ⟨_, _, rfl, SqL.of (sm _ _ h), fun p hp => ?_⟩
    have x := Ext.new sm (o := .lst (cutV xs lo hi)) hp
    exact q _ _ _ x (.lst upd_same ((cut_reps r lo hi).mono x.f))
  case ro.refl a xs ds h r =>
    refine sl_list pins s σ H _ v vl vu lo hi sl Q I rx hs pl pu ⟨_, _, rfl, sm.seq h, fun p hp => ?_⟩
    have x := Ext.new sm (o := .lst (cutV xs lo hi)) hp
    exact q _ _ _ x (.lst upd_same ((cut_reps r lo hi).mono x.f))
theorem me_sl {lo hi : Option Expr} {l h : Env → Option (Option Int)} {p2 : Pos} (ha : ME S a fa) (hl : MO S lo l) (hh : MO S hi h) : ME S (.Subscript a (.Slice lo hi none p2) pos) (fSl fa l h) := fun X G =>
  PE.imp (pe_slice (G.K ▸ slD : SlR X (rSl S.K)) (ha X G) (hl X G) (hh X G)) fun σ H Q ⟨F, ρ, d, s, ok, e, q⟩ => by
    obtain ⟨x, h1, e⟩ := Option.bind_eq_some_iff.mp e
    obtain ⟨i, h2, e⟩ := Option.bind_eq_some_iff.mp e
    obtain ⟨j, h3, e⟩ := Option.bind_eq_some_iff.mp e
    refine ⟨F, ρ, x, s, ok, h1, fun v F1 H1 x1 r1 => ⟨F1, ρ, i, x1.s, ok.mono x1.f, h2, fun H2 x2 => ⟨F1, ρ, j, x1.s.trans x2, ok.mono x1.f, h3, fun H3 x3 => ?_⟩⟩⟩
    have x13 := x1.grow (x2.trans x3)
    exact ⟨F1, x, d, x13.s, r1, e, fun z F4 H4 x4 r4 => q z F4 H4 (x13.trans x4) r4⟩

/-! ### built-ins, calls -/
def fN (g : List D → Option D) (fs : Env → Option (List D)) : Env → Option D := fun ρ => (fs ρ).bind g
def rDn (K : PySem.W.Frag) (g : List D → Option D) : List V → Hp → VK → Prop := fun xs H Q => ∃ F ds d, Same F H ∧ Reps K F xs ds ∧ g ds = some d ∧ After K F H d Q
theorem many {K : PySem.W.Frag} {g : List D → Option D} {σ : St} {H : Hp} {Q : VK} (h : tEv K (fN g fs) σ H Q) : tAv K fs σ H fun xs H1 => rDn K g xs H1 Q := by
  obtain ⟨F, ρ, d, s, ok, e, q⟩ := h
  obtain ⟨x, h1, h3⟩ := Option.bind_eq_some_iff.mp e
  exact ⟨F, ρ, x, s, ok, h1, fun v F1 H1 x1 r1 => ⟨F1, x, d, x1.s, r1, h3, fun z F3 H3 x3 r3 => q z F3 H3 (x1.trans x3) r3⟩⟩
theorem star_any {env : PySem.Env} {pos : Pos} : ∀ {es : List Expr}, es.all notStar = true → (backTo pos (starEach es env)).any (·.1) = false
  | [], _ => rfl
  | e :: es, h => by
    rw [List.all_cons, Bool.and_eq_true] at h
    rw [star_cons h.1]
    show (false || (backTo pos (starEach es env)).any (·.1)) = false
    rw [star_any h.2]
    rfl
theorem me_blt {x : Str} {id : String} {g : List D → Option D} (hc : ∀ X, Good S X → CallR X (.builtin id) (rDn S.K g)) (hm : S.mg x = none) (ha : MA S (e :: es) fs) (hg : S.sc.names.lookup x = some .globalImplicit) (hv : bootBuiltins x = some (.builtin id))
    (hn : x ≠ "__name__" := by decide) (hdb : (x == ("__debug__" : Str)) = false := by decide) (h1 : notStar e = true := by rfl) (h2 : es.all notStar = true := by rfl) : ME S (.Call (.Name x p) (e :: es) [] pos) (fN g fs) := fun X G =>
  PE.imp (pe_callB (hc X G) (G.gl hg) (by rw [G.mg]; exact hm) hv (ha X G) hn hdb (star_cons h1) (star_any h2)) fun _ _ _ => many
theorem me_bty {x : Str} {T : String} {g : List D → Option D} (hc : ∀ X, Good S X → CallR X (.type T) (rDn S.K g)) (hm : S.mg x = none) (ha : MA S (e :: es) fs) (hg : S.sc.names.lookup x = some .globalImplicit) (hv : bootBuiltins x = some (.type T))
    (hn : x ≠ "__name__" := by decide) (hdb : (x == ("__debug__" : Str)) = false := by decide) (h1 : notStar e = true := by rfl) (h2 : es.all notStar = true := by rfl) : ME S (.Call (.Name x p) (e :: es) [] pos) (fN g fs) := fun X G =>
  PE.imp (pe_callTy (hc X G) (G.gl hg) (by rw [G.mg]; exact hm) hv (ha X G) hn hdb (star_cons h1) (star_any h2)) fun _ _ _ => many
end
section
variable {X : Cx}
theorem Reps.one {K : PySem.W.Frag} {F : Hp} {xs : List V} {d : D} (r : Reps K F xs [d]) : ∃ v, xs = [v] ∧ Rep K F v d := by
  cases r with
  | cons h t =>
    cases t
    exact ⟨_, rfl, h⟩
def dLen : List D → Option D
  | [.lst xs] => some (.int xs.length)
  | [.tup xs] => some (.int xs.length)
  | [.ro xs] => some (.int xs.length)
  | [.tpd xs] => some (.int xs.length)
  | [.str z] => if z.length ≤ sizeLine then some (.int z.length) else none
  | [.dK xs] => some (.int xs.length)
  | [.dT xs] => some (.int xs.length)
  | _ => none
theorem RepP.length {K : PySem.W.Frag} {F : Hp} : ∀ {κ : Type} {vs : List (κ × V)} {ds : List (κ × D)}, RepP K F vs ds → vs.length = ds.length
  | _, _, _, .nil => rfl
  | _, _, _, .cons _ r => by rw [List.length_cons, List.length_cons, RepP.length r]
theorem blt_len : CallR X (.builtin "len") (rDn X.K dLen) := by
  intro pins s σ H xs us Q I r h
  obtain ⟨F, ds, d, sm, rs, e, q⟩ := h
  unfold dLen at e
  split at e <;> try (cases e; done)
  · cases e
    obtain ⟨v, rfl, rv⟩ := rs.one
    cases rv with
    | lst h r' => exact call_len_seq pins s σ H _ us Q I r ⟨_, _, rfl, .inl (SqL.of (sm _ _ h)), q _ F H (Ext.refl sm) (by rw [r'.length]; exact .int _)⟩
  · cases e
    obtain ⟨v, rfl, rv⟩ := rs.one
    cases rv with
    | tup h r' => exact call_len_seq pins s σ H _ us Q I r ⟨_, _, rfl, .inr (SqT.of (sm _ _ h)), q _ F H (Ext.refl sm) (by rw [r'.length]; exact .int _)⟩
  · cases e
    obtain ⟨v, rfl, rv⟩ := rs.one
    cases rv with
    | ro h r' => exact call_len_seq pins s σ H _ us Q I r ⟨_, _, rfl, .inl (sm.seq h), q _ F H (Ext.refl sm) (by rw [r'.length]; exact .int _)⟩
  · cases e
    obtain ⟨v, rfl, rv⟩ := rs.one
    cases rv with
    | tpd h nd r' => exact call_len_seq pins s σ H _ us Q I r ⟨_, _, rfl, .inr (.inl (.inr ⟨_, sm _ _ h⟩)), q _ F H (Ext.refl sm) (by rw [r'.length]; exact .int _)⟩
  · obtain ⟨v, rfl, rv⟩ := rs.one
    split at e <;> cases e
    rename_i hz
    cases rv
    exact call_len_str pins s σ H _ us Q I r ⟨_, rfl, hz, q _ F H (Ext.refl sm) (.int _)⟩
  · cases e
    obtain ⟨v, rfl, rv⟩ := rs.one
    cases rv with
    | dK h r' => exact call_lenD pins s σ H _ us Q I r ⟨_, _, rfl, sm _ _ h, q _ F H (Ext.refl sm) (by rw [r'.length]; exact .int _)⟩
  · cases e
    obtain ⟨v, rfl, rv⟩ := rs.one
    cases rv with
    | dT h r' => exact call_len_dT pins s σ H _ us Q I r ⟨_, _, rfl, sm _ _ h, q _ F H (Ext.refl sm) (by rw [r'.length]; exact .int _)⟩
def dInt : List D → Option D
  | [.int i] => some (.int i)
  | [.bl b] => some (.int (if b then 1 else 0))
  | _ => none
theorem blt_int : CallR X (.type "int") (rDn X.K dInt) := by
  intro pins s σ H xs us Q I r h
  obtain ⟨F, ds, d, sm, rs, e, q⟩ := h
  unfold dInt at e
  split at e <;> cases e
  · obtain ⟨v, rfl, rv⟩ := rs.one
    cases rv
    exact call_int1 pins s σ H _ us Q I r (.inl ⟨_, rfl, q _ F H (Ext.refl sm) (.int _)⟩)
  · obtain ⟨v, rfl, rv⟩ := rs.one
    cases rv
    exact call_int1 pins s σ H _ us Q I r (.inr ⟨_, rfl, q _ F H (Ext.refl sm) (.int _)⟩)
/-- a tuple made of a list: it is known to have no dict -/
theorem call_tuple_new : CallR X (.type "tuple") (fun xs H Q => ∃ p ys, xs = [.ref p] ∧ SqL X.K H p ys ∧ ∀ (l : Addr) (o : Obj), H l = none → o.dict = none → Q (.ref l) (upd H l (.frz o (.tup ys)))) := by
  intro pins s σ H xs us Q I r h
  obtain ⟨p, ys, rfl, listAt, q⟩ := h
  obtain ⟨u, rfl, rx⟩ := vals1 r
  cases rx
  obtain ⟨its, r', pl, fits⟩ := I.list listAt
  have many := r'.length
  refine call_tuple_list pl.isList (fun h' kp => ?_) (by simp only [List.size_toArray]; omega)
  have I1 : Inv X pins σ H { s with heap := h' } := I.kept (t' := s.toks) kp
  have I2 : Inv X pins σ (upd H h'.objs.size (.frz { cls := .type "tuple", data := .seq its.toArray } (.tup ys))) { s with heap := h'.push { cls := .type "tuple", data := .seq its.toArray } } :=
    I1.laid (t' := s.toks) (fun b o e => Heap.get?_push_of_some _ e) (Nat.le_refl _) (show ObjOk X.prog X.w _ _ _ (.frz _ (.tup ys)) from ⟨Heap.get?_push_size _ rfl, fits, its, r', IsTup.new _ _⟩)
  exact ⟨.ref h'.objs.size, _, I2, rfl, q _ _ (I1.hok.fresh (Nat.le_refl _)) rfl⟩
def dTuple : List D → Option D
  | [.lst xs] => some (.tpd xs)
  | [.tup xs] => some (.tup xs)
  | [.tpd xs] => some (.tpd xs)
  | [.ro xs] => some (.tpd xs)
  | _ => none
theorem blt_tuple : CallR X (.type "tuple") (rDn X.K dTuple) := by
  intro pins s σ H xs us Q I r h
  obtain ⟨F, ds, d, sm, rs, e, q⟩ := h
  unfold dTuple at e
  split at e <;> cases e
  · obtain ⟨v, rfl, rv⟩ := rs.one
    cases rv with
    | lst h r' =>
      refine call_tuple_new pins s σ H _ us Q I r ⟨_, _, rfl, SqL.of (sm _ _ h), fun p ob hp nd => ?_⟩
      exact q _ _ _ (Ext.new sm hp) (.tpd upd_same nd (r'.mono (same_new (Same.none_of sm hp))))
  · obtain ⟨v, rfl, rv⟩ := rs.one
    cases rv with
    | tup h r' => exact call_tuple_of pins s σ H _ us Q I r ⟨_, _, rfl, .inr ⟨SqT.of (sm _ _ h), q _ F H (Ext.refl sm) (.tup h r')⟩⟩
  · obtain ⟨v, rfl, rv⟩ := rs.one
    cases rv with
    | tpd h nd r' => exact call_tuple_of pins s σ H _ us Q I r ⟨_, _, rfl, .inr ⟨.inl (.inr ⟨_, sm _ _ h⟩), q _ F H (Ext.refl sm) (.tpd h nd r')⟩⟩
  · obtain ⟨v, rfl, rv⟩ := rs.one
    cases rv with
    | ro h r' =>
      refine call_tuple_new pins s σ H _ us Q I r ⟨_, _, rfl, sm.seq h, fun p ob hp nd => ?_⟩
      exact q _ _ _ (Ext.new sm hp) (.tpd upd_same nd (r'.mono (same_new (Same.none_of sm hp))))
def dList : List D → Option D
  | [.lst xs] => some (.lst xs)
  | [.tup xs] => some (.lst xs)
  | [.tpd xs] => some (.lst xs)
  | [.ro xs] => some (.lst xs)
  | _ => none
theorem blt_list : CallR X (.type "list") (rDn X.K dList) := by
  intro pins s σ H xs us Q I r h
  obtain ⟨F, ds, d, sm, rs, e, q⟩ := h
  unfold dList at e
  split at e <;> cases e
  · obtain ⟨v, rfl, rv⟩ := rs.one
    cases rv with
    | lst h r' =>
      refine call_list_of pins s σ H _ us Q I r ⟨_, _, rfl, .inl (SqL.of (sm _ _ h)), fun p hp => ?_⟩
      exact q _ _ _ (Ext.new sm hp) (.lst upd_same (r'.mono (same_new (Same.none_of sm hp))))
  · obtain ⟨v, rfl, rv⟩ := rs.one
    cases rv with
    | tup h r' =>
      refine call_list_of pins s σ H _ us Q I r ⟨_, _, rfl, .inr (SqT.of (sm _ _ h)), fun p hp => ?_⟩
      exact q _ _ _ (Ext.new sm hp) (.lst upd_same (r'.mono (same_new (Same.none_of sm hp))))
  · obtain ⟨v, rfl, rv⟩ := rs.one
    cases rv with
    | tpd h nd r' =>
      refine call_list_of pins s σ H _ us Q I r ⟨_, _, rfl, .inr (.inl (.inr ⟨_, sm _ _ h⟩)), fun p hp => ?_⟩
      exact q _ _ _ (Ext.new sm hp) (.lst upd_same (r'.mono (same_new (Same.none_of sm hp))))
  · obtain ⟨v, rfl, rv⟩ := rs.one
    cases rv with
    | ro h r' =>
      refine call_list_of pins s σ H _ us Q I r ⟨_, _, rfl, .inl (sm.seq h), fun p hp => ?_⟩
      exact q _ _ _ (Ext.new sm hp) (.lst upd_same (r'.mono (same_new (Same.none_of sm hp))))
end
section
variable {S : Static} {e a b c : Expr} {es rest : List Expr} {pos p : Pos} {fs : Env → Option (List D)}
theorem me_len (hm : S.mg "len" = none) (ha : MA S (e :: es) fs) (hg : S.sc.names.lookup ("len" : Str) = some .globalImplicit := by rfl) (h1 : notStar e = true := by rfl) (h2 : es.all notStar = true := by rfl) : ME S (.Call (.Name "len" p) (e :: es) [] pos) (fN dLen fs) :=
  me_blt (fun X G => G.K ▸ blt_len) hm ha hg PySem.boot_len (by decide) (by decide) h1 h2
theorem me_intc (hm : S.mg "int" = none) (ha : MA S (e :: es) fs) (hg : S.sc.names.lookup ("int" : Str) = some .globalImplicit := by rfl) (h1 : notStar e = true := by rfl) (h2 : es.all notStar = true := by rfl) : ME S (.Call (.Name "int" p) (e :: es) [] pos) (fN dInt fs) :=
  me_bty (fun X G => G.K ▸ blt_int) hm ha hg PyProof.Rows.boot_int (by decide) (by decide) h1 h2
theorem me_tuplec (hm : S.mg "tuple" = none) (ha : MA S (e :: es) fs) (hg : S.sc.names.lookup ("tuple" : Str) = some .globalImplicit := by rfl) (h1 : notStar e = true := by rfl) (h2 : es.all notStar = true := by rfl) : ME S (.Call (.Name "tuple" p) (e :: es) [] pos) (fN dTuple fs) :=
  me_bty (fun X G => G.K ▸ blt_tuple) hm ha hg PyProof.Rows.boot_tuple (by decide) (by decide) h1 h2
theorem me_listc (hm : S.mg "list" = none) (ha : MA S (e :: es) fs) (hg : S.sc.names.lookup ("list" : Str) = some .globalImplicit := by rfl) (h1 : notStar e = true := by rfl) (h2 : es.all notStar = true := by rfl) : ME S (.Call (.Name "list" p) (e :: es) [] pos) (fN dList fs) :=
  me_bty (fun X G => G.K ▸ blt_list) hm ha hg PyProof.Rows.boot_list (by decide) (by decide) h1 h2

/-! ### a def's promise over data -/
def spD (K : PySem.W.Frag) (n : Nat) (m : List D → Option D) : Sp := fun vs H Q _ => vs.length = n ∧ rDn K m vs H Q
/-- the def of that name, as it may be called: x its name, m what it is -/
structure Def (C : Ctx) (k : Nat) (x : Str) (n : Nat) (m : List D → Option D) : Prop where
  ex : ∃ (f : Addr) (fd : FuncData) (ps : List Str), FnOk C.P C.w C.K C.mg C.base CX0 k f fd ps (spD C.K n m) ∧ C.mg x = some (.ref f) ∧ PySem.W.keepIn C.K (.ref f) = true ∧ Binds C.K fd ps []
theorem Def.mono {C : Ctx} {j k : Nat} {x : Str} {n : Nat} {m : List D → Option D} (d : Def C j x n m) (h : j ≤ k) : Def C k x n m := by
  obtain ⟨f, fd, ps, F, r⟩ := d.ex
  exact ⟨f, fd, ps, F.mono h, r⟩
def fNl (n : Nat) (g : List D → Option D) (fs : Env → Option (List D)) : Env → Option D := fun ρ => (fs ρ).bind fun ds => if ds.length = n then g ds else none
theorem me_call {x : Str} {n : Nat} {m : List D → Option D} (d : Def S.toCtx S.k x n m) (ha : MA S (e :: es) fs) (hg : S.sc.names.lookup x = some .globalImplicit := by rfl) (hdb : (x == ("__debug__" : Str)) = false := by decide) (h1 : notStar e = true := by rfl) (h2 : es.all notStar = true := by rfl) :
    ME S (.Call (.Name x p) (e :: es) [] pos) (fNl n m fs) := fun X G => by
  obtain ⟨f, fd, ps, F, hm, hk, hb⟩ := d.ex
  refine PE.imp (pe_call (ds := []) (dvs := []) (E := E0) (by rw [G.P, G.w, G.K, G.mg, G.base]; exact F) G.room (G.gl hg) (by rw [G.mg]; exact hm) (by rw [G.K]; exact hk) (by rw [G.K]; exact hb) .nil pass0 (ha X G) hdb (star_cons h1) (star_any h2)) fun σ H Q ⟨F, ρ, d, s, ok, e, q⟩ => ?_
  obtain ⟨ds, h1, h3⟩ := Option.bind_eq_some_iff.mp e
  split at h3
  · rename_i hl
    refine ⟨F, ρ, ds, s, ok, h1, fun v F1 H1 x1 r1 => ⟨by rw [List.append_nil, r1.length]; exact hl, F1, ds, d, x1.s, by rw [List.append_nil]; exact r1, h3, fun z F3 H3 x3 r3 => q z F3 H3 (x1.trans x3) r3⟩⟩
  · cases h3
end
end VM
/-! VM3 -/
namespace VM
open PySem PySem.Spec PyProof.Rows L2

/-! ### what is walked -/
structure Yields (K : PySem.W.Frag) (F : Hp) (J : It) (ds : List D) : Prop where
  go : ∀ (i : Nat) (H : Hp), Same F H → i < ds.length → J.go i H
  yld : ∀ (i : Nat) (H : Hp) (x : V) (H' : Hp) (d : D), Same F H → ds[i]? = some d → J.yld i H x H' → Same H H' ∧ ∀ F1, Same F F1 → Same F1 H → ∃ F2, Ext F1 H F2 H' ∧ Rep K F2 x d
  stop : ∀ (i : Nat) (H : Hp), Same F H → i = ds.length → J.stop i H
def tIv (K : PySem.W.Frag) (f : Env → Option (List D)) : TI := fun σ H R => ∃ F ρ ds, Same F H ∧ EnvOk K F σ ρ ∧ f ρ = some ds ∧ ∀ F' H' J, Ext F H F' H' → Yields K F' J ds → R J H'
def MI (S : Static) (tg e : Expr) (f : Env → Option (List D)) : Prop := ∀ X, Good S X → PI X tg e (tIv S.K f)
theorem PI.imp {X : Cx} {tg e : Expr} {t t' : TI} (h : PI X tg e t) (i : ∀ σ H R, t' σ H R → t σ H R) : PI X tg e t' := ⟨fun pins s σ H R I q => h.run pins s σ H R I (i σ H R q)⟩
section
variable {K : PySem.W.Frag} {F : Hp} {a b : Addr} {xs ys : List V} {ds es : List D}
theorem sql_inj {H : Hp} {zs : List V} (h : H a = some (.lst xs)) (q : SqL K H a zs) (hK : K.lookup a = none) : zs = xs := by
  rcases q with (q | ⟨o, q⟩) | ⟨o, its, n, hk, _⟩
  · rw [h] at q; cases q; rfl
  · rw [h] at q; cases q
  · rw [hK] at hk; cases hk
theorem yields_l (h : SqL K F a xs) (r : Reps K F xs ds) : Yields K F (Itl K a) ds where
  go := fun i H sm hi => by
    obtain ⟨v, e, _⟩ := r.get (List.getElem?_eq_getElem hi)
    exact ⟨xs, v, sm.seq h, e⟩
  yld := fun i H x H' d sm hd hy => by
    obtain ⟨rfl, hy⟩ := hy
    have hx := hy xs (sm.seq h)
    obtain ⟨v, e, rv⟩ := r.get hd
    rw [hx] at e
    cases e
    exact ⟨Same.refl _, fun F1 s1 s2 => ⟨F1, Ext.refl s2, rv.mono s1⟩⟩
  stop := fun i H sm e => ⟨xs, sm.seq h, by rw [r.length, e]; exact Nat.le_refl _⟩
theorem seqT {H H' : Hp} (e : Same H H') (h : SqT K H a xs) : SqT K H' a xs := by
  rcases h with (h | ⟨o, h⟩) | h
  · exact .inl (.inl (e _ _ h))
  · exact .inl (.inr ⟨o, e _ _ h⟩)
  · exact .inr h
theorem yields_t (h : SqT K F a xs) (r : Reps K F xs ds) : Yields K F (Itt K a) ds where
  go := fun i H sm hi => by
    obtain ⟨v, e, _⟩ := r.get (List.getElem?_eq_getElem hi)
    exact ⟨xs, v, seqT sm h, e⟩
  yld := fun i H x H' d sm hd hy => by
    obtain ⟨rfl, hy⟩ := hy
    have hx := hy xs (seqT sm h)
    obtain ⟨v, e, rv⟩ := r.get hd
    rw [hx] at e
    cases e
    exact ⟨Same.refl _, fun F1 s1 s2 => ⟨F1, Ext.refl s2, rv.mono s1⟩⟩
  stop := fun i H sm e => ⟨xs, seqT sm h, by rw [r.length, e]; exact Nat.le_refl _⟩
def rngD (lo : Int) (n : Nat) : List D := (List.range n).map fun i => .int (lo + (i : Nat))
theorem yields_r (lo : Int) (n : Nat) : Yields K F (Itr lo n) (rngD lo n) where
  go := fun i H sm hi => by
    unfold rngD at hi
    rw [List.length_map, List.length_range] at hi
    exact hi
  yld := fun i H x H' d sm hd hy => by
    obtain ⟨rfl, rfl⟩ := hy
    unfold rngD at hd
    rw [List.getElem?_map] at hd
    obtain ⟨j, hj, rfl⟩ := Option.map_eq_some_iff.mp hd
    have e := List.getElem?_eq_some_iff.mp hj
    obtain ⟨h1, h2⟩ := e
    rw [List.getElem_range] at h2
    subst h2
    exact ⟨Same.refl _, fun F1 s1 s2 => ⟨F1, Ext.refl s2, .int _⟩⟩
  stop := fun i H sm e => by
    unfold rngD at e
    rw [List.length_map, List.length_range] at e
    show n ≤ i
    omega
def enumD (ds : List D) : List D := ds.mapIdx fun i d => .tup [.int (i : Nat), d]
theorem yields_e (h : SqL K F a xs) (r : Reps K F xs ds) : Yields K F (Ite K a) (enumD ds) where
  go := fun i H sm hi => by
    unfold enumD at hi
    rw [List.length_mapIdx] at hi
    obtain ⟨v, e, _⟩ := r.get (List.getElem?_eq_getElem hi)
    exact ⟨xs, v, sm.seq h, e⟩
  yld := fun i H x H' d sm hd hy => by
    obtain ⟨T, v, rfl, hT, rfl, hy⟩ := hy
    unfold enumD at hd
    rw [List.getElem?_mapIdx] at hd
    obtain ⟨d', hd', rfl⟩ := Option.map_eq_some_iff.mp hd
    have hx := hy xs (sm.seq h)
    obtain ⟨w, e, rw'⟩ := r.get hd'
    rw [hx] at e
    cases e
    refine ⟨same_new hT, fun F1 s1 s2 => ⟨_, Ext.new s2 hT, .tup upd_same (.cons (.int _) (.cons ?_ .nil))⟩⟩
    exact (rw'.mono s1).mono (same_new (Same.none_of s2 hT))
  stop := fun i H sm e => ⟨xs, sm.seq h, by
    unfold enumD at e
    rw [List.length_mapIdx] at e
    rw [r.length, e]
    exact Nat.le_refl _⟩
def zipD (ds es : List D) : List D := (ds.zip es).map fun p => .tup [p.1, p.2]
theorem yields_z (h : SqL K F a xs) (r : Reps K F xs ds) (h' : SqL K F b ys) (r' : Reps K F ys es) : Yields K F (Itz K a b) (zipD ds es) where
  go := fun i H sm hi => by
    unfold zipD at hi
    rw [List.length_map, List.length_zip] at hi
    obtain ⟨v, e, _⟩ := r.get (List.getElem?_eq_getElem (show i < ds.length by omega))
    obtain ⟨w, e2, _⟩ := r'.get (List.getElem?_eq_getElem (show i < es.length by omega))
    exact ⟨xs, ys, v, w, sm.seq h, sm.seq h', e, e2⟩
  yld := fun i H x H' d sm hd hy => by
    obtain ⟨T, v, w, rfl, hT, rfl, hy1, hy2⟩ := hy
    unfold zipD at hd
    rw [List.getElem?_map] at hd
    obtain ⟨⟨d1, d2⟩, hd', rfl⟩ := Option.map_eq_some_iff.mp hd
    obtain ⟨hd1, hd2⟩ := List.getElem?_zip_eq_some.mp hd'
    have hx := hy1 xs (sm.seq h)
    have hx2 := hy2 ys (sm.seq h')
    obtain ⟨v', e, rv⟩ := r.get hd1
    obtain ⟨w', e2, rw'⟩ := r'.get hd2
    rw [hx] at e
    rw [hx2] at e2
    cases e
    cases e2
    refine ⟨same_new hT, fun F1 s1 s2 => ⟨_, Ext.new s2 hT, .tup upd_same (.cons ?_ (.cons ?_ .nil))⟩⟩
    · exact (rv.mono s1).mono (same_new (Same.none_of s2 hT))
    · exact (rw'.mono s1).mono (same_new (Same.none_of s2 hT))
  stop := fun i H sm e => ⟨xs, ys, sm.seq h, sm.seq h', by
    unfold zipD at e
    rw [List.length_map, List.length_zip] at e
    rw [r.length, r'.length]
    omega⟩
end
section
variable {S : Static} {tg e e2 : Expr} {pos p tpos : Pos} {f f' : Env → Option D} {fs : Env → Option (List D)}
def dSeq : D → Option (List D)
  | .tpd xs => some xs
  | .lst xs => some xs
  | .tup xs => some xs
  | .ro xs => some xs
  | _ => none
def iSeq (f : Env → Option D) : Env → Option (List D) := fun ρ => (f ρ).bind dSeq
theorem mi_seq (ha : ME S e f) : MI S tg e (iSeq f) := fun X G => by
  refine ⟨fun pins s σ H R I ⟨F, ρ, ds, sm, ok, e, q⟩ => ?_⟩
  obtain ⟨d, h1, h2⟩ := Option.bind_eq_some_iff.mp e
  refine thn ((ha X G).run pins s σ H (fun v H' => ∃ F', Ext F H F' H' ∧ Rep S.K F' v d) I ⟨F, ρ, d, sm, ok, h1, fun v F' H' x r => ⟨F', x, r⟩⟩) fun v s1 ⟨y, H1, I1, r1, F1, x1, rp⟩ => ?_
  rw [← G.K] at rp q
  have fin : ∀ {b : Addr}, b ∈ [s1.heap.objs.size] → FpOk X pins H1 b := fun {b} hb => by
    have e : b = s1.heap.objs.size := by simpa using hb
    subst e
    exact I1.fpOk (Nat.le_refl _) (I1.hok.fresh (Nat.le_refl _))
  cases rp <;> simp only [dSeq] at h2 <;> try (cases h2)
  case tup.refl a xs hh rr yy =>
    cases r1
    obtain ⟨its, rv, p, hz⟩ := I1.tuple (SqT.of (x1.s _ _ hh))
    refine wpAny_pyIter_tuple (show s1.heap.IsTuple a its.toArray from p) ?_
    exact ⟨s1.heap.objs.size, [s1.heap.objs.size], _, _, H1, rfl, I1.kept (t' := s1.toks) fun b o e => Heap.get?_push_of_some _ e, turn_tuple a _, ⟨_, Heap.get?_push_size _ rfl, rfl, rfl⟩, fun b hb => fin hb, q F1 H1 _ x1 (yields_t (SqT.of hh) rr)⟩
  case tpd.refl a ob xs hh nd rr yy =>
    cases r1
    obtain ⟨its, rv, p, hz⟩ := I1.tuple (.inl (.inr ⟨_, x1.s _ _ hh⟩))
    refine wpAny_pyIter_tuple (show s1.heap.IsTuple a its.toArray from p) ?_
    exact ⟨s1.heap.objs.size, [s1.heap.objs.size], _, _, H1, rfl, I1.kept (t' := s1.toks) fun b o e => Heap.get?_push_of_some _ e, turn_tuple a _, ⟨_, Heap.get?_push_size _ rfl, rfl, rfl⟩, fun b hb => fin hb, q F1 H1 _ x1 (yields_t (.inl (.inr ⟨_, hh⟩)) rr)⟩
  case lst.refl a xs hh rr yy =>
    cases r1
    obtain ⟨its, rv, p, hz⟩ := I1.list (SqL.of (x1.s _ _ hh))
    refine wpAny_pyIter_list p.isList ?_
    exact ⟨s1.heap.objs.size, [s1.heap.objs.size], _, _, H1, rfl, I1.kept (t' := s1.toks) fun b o e => Heap.get?_push_of_some _ e, turn_list a _, ⟨_, Heap.get?_push_size _ rfl, rfl, rfl⟩, fun b hb => fin hb, q F1 H1 _ x1 (yields_l (SqL.of hh) rr)⟩
  case ro.refl a xs hh rr yy =>
    cases r1
    obtain ⟨its, rv, p, hz⟩ := I1.list (x1.s.seq hh)
    refine wpAny_pyIter_list p.isList ?_
    exact ⟨s1.heap.objs.size, [s1.heap.objs.size], _, _, H1, rfl, I1.kept (t' := s1.toks) fun b o e => Heap.get?_push_of_some _ e, turn_list a _, ⟨_, Heap.get?_push_size _ rfl, rfl, rfl⟩, fun b hb => fin hb, q F1 H1 _ x1 (yields_l hh rr)⟩
theorem star_one {env : PySem.Env} {e : Expr} (h : notStar e = true) : starEach [e] env = [(false, eval e env)] := star_cons (es := []) h
def dRng1 : List D → Option (List D)
  | [.int j] => if -(2 ^ 62) ≤ j ∧ j < 2 ^ 62 then some (rngD 0 j.toNat) else none
  | _ => none
def iRn1 (fs : Env → Option (List D)) : Env → Option (List D) := fun ρ => (fs ρ).bind dRng1
theorem mi_rng1 (hm : S.mg "range" = none) (ha : MA S [e] fs) (hg : S.sc.names.lookup ("range" : Str) = some .globalImplicit := by rfl) (h1 : notStar e = true := by rfl) : MI S tg (.Call (.Name "range" p) [e] [] pos) (iRn1 fs) := fun X G =>
  PI.imp (pi_range1 (G.gl hg) (by rw [G.mg]; exact hm) (ha X G) (star_one h1)) fun σ H R ⟨F, ρ, ds, sm, ok, e, q⟩ => by
    obtain ⟨xs, h1, h2⟩ := Option.bind_eq_some_iff.mp e
    refine ⟨F, ρ, xs, sm, ok, h1, fun vs F' H' x r => ?_⟩
    unfold dRng1 at h2
    split at h2
    · split at h2 <;> cases h2
      rename_i hz
      obtain ⟨v, rfl, rv⟩ := r.one
      cases rv
      exact ⟨_, rfl, hz.1, hz.2, q F' H' _ x (yields_r _ _)⟩
    · cases h2
theorem Reps.two {K : PySem.W.Frag} {F : Hp} {xs : List V} {d d' : D} (r : Reps K F xs [d, d']) : ∃ v v', xs = [v, v'] ∧ Rep K F v d ∧ Rep K F v' d' := by
  cases r with
  | cons h t =>
    cases t with
    | cons h' t =>
      cases t
      exact ⟨_, _, rfl, h, h'⟩
def dRng2 : List D → Option (List D)
  | [.int i, .int j] => if -(2 ^ 62) ≤ i ∧ i < 2 ^ 62 ∧ -(2 ^ 62) ≤ j ∧ j < 2 ^ 62 then some (rngD i (j - i).toNat) else none
  | _ => none
def iRn2 (fs : Env → Option (List D)) : Env → Option (List D) := fun ρ => (fs ρ).bind dRng2
theorem mi_rng2 (hm : S.mg "range" = none) (ha : MA S [e, e2] fs) (hg : S.sc.names.lookup ("range" : Str) = some .globalImplicit := by rfl) (h1 : notStar e = true := by rfl) (h2 : notStar e2 = true := by rfl) : MI S tg (.Call (.Name "range" p) [e, e2] [] pos) (iRn2 fs) := fun X G =>
  PI.imp (pi_range2 (G.gl hg) (by rw [G.mg]; exact hm) (ha X G) (by rw [star_cons h1, star_one h2]) (star_one h2)) fun σ H R ⟨F, ρ, ds, sm, ok, e, q⟩ => by
    obtain ⟨xs, h1, h2⟩ := Option.bind_eq_some_iff.mp e
    refine ⟨F, ρ, xs, sm, ok, h1, fun vs F' H' x r => ?_⟩
    unfold dRng2 at h2
    split at h2
    · split at h2 <;> cases h2
      rename_i hz
      obtain ⟨v, w, rfl, rv, rw'⟩ := r.two
      cases rv
      cases rw'
      exact ⟨_, _, rfl, hz, q F' H' _ x (yields_r _ _)⟩
    · cases h2
def dEnum : List D → Option (List D)
  | [.lst xs] => some (enumD xs)
  | [.ro xs] => some (enumD xs)
  | _ => none
def iEn (fs : Env → Option (List D)) : Env → Option (List D) := fun ρ => (fs ρ).bind dEnum
theorem mi_enum {elts : List Expr} {kk : Nat} (hm : S.mg "enumerate" = none) (ha : MA S [e] fs) (hg : S.sc.names.lookup ("enumerate" : Str) = some .globalImplicit := by rfl) (h1 : notStar e = true := by rfl) : MI S (.Tuple elts kk tpos) (.Call (.Name "enumerate" p) [e] [] pos) (iEn fs) := fun X G =>
  PI.imp (pi_enum (G.gl hg) (by rw [G.mg]; exact hm) (ha X G) (star_one h1)) fun σ H R ⟨F, ρ, ds, sm, ok, e, q⟩ => by
    obtain ⟨xs, h1, h2⟩ := Option.bind_eq_some_iff.mp e
    refine ⟨F, ρ, xs, sm, ok, h1, fun vs F' H' x r => ?_⟩
    unfold dEnum at h2
    split at h2 <;> cases h2
    · obtain ⟨v, rfl, rv⟩ := r.one
      cases rv with
      | lst hh rr => exact ⟨_, _, rfl, by rw [G.K]; exact SqL.of (x.s _ _ hh), by rw [G.K]; exact q F' H' _ x (yields_e (SqL.of hh) rr)⟩
    · obtain ⟨v, rfl, rv⟩ := r.one
      cases rv with
      | ro hh rr => exact ⟨_, _, rfl, by rw [G.K]; exact x.s.seq hh, by rw [G.K]; exact q F' H' _ x (yields_e hh rr)⟩
def dZip : List D → Option (List D)
  | [.lst xs, .lst ys] => some (zipD xs ys)
  | _ => none
def iZp (fs : Env → Option (List D)) : Env → Option (List D) := fun ρ => (fs ρ).bind dZip
theorem mi_zip {elts : List Expr} {kk : Nat} (hm : S.mg "zip" = none) (ha : MA S [e, e2] fs) (hg : S.sc.names.lookup ("zip" : Str) = some .globalImplicit := by rfl) (h1 : notStar e = true := by rfl) (h2 : [e2].all notStar = true := by rfl) : MI S (.Tuple elts kk tpos) (.Call (.Name "zip" p) [e, e2] [] pos) (iZp fs) := fun X G =>
  PI.imp (L2.pi_zip (G.gl hg) (by rw [G.mg]; exact hm) (ha X G) (star_cons h1) (star_any h2)) fun σ H R ⟨F, ρ, ds, sm, ok, e, q⟩ => by
    obtain ⟨xs, h1, h2⟩ := Option.bind_eq_some_iff.mp e
    refine ⟨F, ρ, xs, sm, ok, h1, fun vs F' H' x r => ?_⟩
    unfold dZip at h2
    split at h2 <;> cases h2
    obtain ⟨v, w, rfl, rv, rw'⟩ := r.two
    cases rv with
    | lst hh rr =>
      cases rw' with
      | lst hh' rr' => exact ⟨_, _, _, _, rfl, by rw [G.K]; exact SqL.of (x.s _ _ hh), by rw [G.K]; exact SqL.of (x.s _ _ hh'), by rw [G.K]; exact q F' H' _ x (yields_z (SqL.of hh) rr (SqL.of hh') rr')⟩
end

/-! ### targets within a comprehension -/
/-- only the slots is are changed -/
def Touch (is : List Nat) (σ σ' : St) : Prop := σ'.length = σ.length ∧ ∀ j, j ∉ is → σ'[j]? = σ[j]?
theorem Touch.refl (is : List Nat) (σ : St) : Touch is σ σ := ⟨rfl, fun _ _ => rfl⟩
theorem Touch.set {is : List Nat} {σ σ' : St} (h : Touch is σ σ') {i : Nat} (hi : i ∈ is) (o : Option V) : Touch is σ (σ'.set i o) :=
  ⟨by rw [List.length_set, h.1], fun j hj => by
    have ne : i ≠ j := fun e => hj (by rw [← e]; exact hi)
    rw [List.getElem?_set_ne ne]
    exact h.2 j hj⟩
theorem wipe_get (σ : St) (j : Nat) : ∀ vs : List Nat, (wipe σ vs)[j]? = if j ∈ vs then (if j < σ.length then some none else none) else σ[j]?
  | [] => by rw [if_neg (by simp)]; rfl
  | v :: vs => by
    unfold wipe
    rw [List.getElem?_set, wipe_length, wipe_get σ j vs]
    by_cases e : v = j
    · subst e
      simp
    · rw [if_neg e]
      have : (j ∈ v :: vs) ↔ j ∈ vs := by simp [Ne.symm e]
      simp only [this]
theorem Touch.wipe {is vs : List Nat} {σ σ' : St} (h : Touch is (wipe σ vs) σ') (hs : ∀ i ∈ is, i ∈ vs) : L2.wipe σ' vs = L2.wipe σ vs := by
  apply List.ext_getElem?
  intro j
  rw [wipe_get, wipe_get, h.1, wipe_length]
  by_cases hj : j ∈ vs
  · rw [if_pos hj, if_pos hj]
  · rw [if_neg hj, if_neg hj, h.2 j (fun z => hj (hs j z)), wipe_get, if_neg hj]
def MG (S : Static) (tg : Expr) (is : List Nat) (t : D → Env → Option Env) : Prop := ∀ X, Good S X → PG X tg (fun v σ H Q => ∃ F ρ d ρ', Same F H ∧ EnvOk S.K F σ ρ ∧ Rep S.K F v d ∧ t d ρ = some ρ' ∧ ∀ σ', EnvOk S.K F σ' ρ' → Touch is σ σ' → Q σ' H)
section
variable {S : Static} {tg e : Expr} {es : List Expr} {pos p tpos : Pos}
def eN (i : Nat) : D → Env → Option Env := fun d ρ => some (ρ.set i (some d))
/-- names written one after another -/
def eNs : List Nat → List D → Env → Option Env
  | [], [], ρ => some ρ
  | i :: is, d :: ds, ρ => eNs is ds (ρ.set i (some d))
  | _, _, _ => none
def eT (is : List Nat) : D → Env → Option Env
  | .tup ds, ρ => eNs is ds ρ
  | _, _ => none
theorem PG.imp {X : Cx} {e : Expr} {t t' : TG} (h : PG X e t) (i : ∀ v σ H Q, t' v σ H Q → t v σ H Q) : PG X e t' := ⟨fun pins s σ H v u Q I r q => h.run pins s σ H v u Q I r (i v σ H Q q)⟩
/-- the names of a target, by their places -/
inductive NamesAt (S : Static) : List Expr → List Nat → Prop
  | nil : NamesAt S [] []
  | cons {x : Str} {p : Pos} {i : Nat} {es : List Expr} {is : List Nat} : S.N[i]? = some x → locB (S.sc.names.lookup x) = true → NamesAt S es is → NamesAt S (.Name x p :: es) (i :: is)
theorem NamesAt.len (h : NamesAt S es is) {env : PySem.Env} : (assignEach es env).length = is.length := by
  induction h with
  | nil => rfl
  | cons _ _ _ ih => exact congrArg (· + 1) ih
theorem NamesAt.nost (h : NamesAt S es is) {env : PySem.Env} : (assignEach es env).findIdx? (·.1) = none := by
  rw [List.findIdx?_eq_none_iff]
  induction h with
  | nil => intro x hx; cases hx
  | cons _ _ _ ih =>
    intro x hx
    rcases List.mem_cons.mp hx with e | hx
    · rw [e]
    · exact ih x hx
def gsAll : List Nat → TGs
  | [] => gNil
  | i :: is => gCons (gName i) (gsAll is)
theorem NamesAt.pgs (h : NamesAt S es is) {X : Cx} (G : Good S X) : PGs X es (gsAll is) := by
  induction h with
  | nil => exact pgs_nil
  | cons h1 h2 _ ih => exact pgs_cons (pg_name (by rw [G.N]; exact G.nd) (by rw [G.N]; exact h1) (G.loc h2).1 (G.loc h2).2) ih
theorem gsAll_run {K : PySem.W.Frag} {F : Hp} {σ0 : St} {all : List Nat} : ∀ {is : List Nat} {vs : List V} {ds : List D} {σ : St} {ρ ρ' : Env} {H : Hp} {Q : St → Hp → Prop}, Reps K F vs ds → EnvOk K F σ ρ → Touch all σ0 σ → (∀ i ∈ is, i ∈ all) → eNs is ds ρ = some ρ' → (∀ σ', EnvOk K F σ' ρ' → Touch all σ0 σ' → Q σ' H) → gsAll is vs σ H Q
  | [], _, _, _, _, _, _, _, .nil, ok, t, _, e, q => by
    cases e
    exact ⟨rfl, q _ ok t⟩
  | i :: is, _, _, _, _, _, _, _, .cons h r, ok, t, hs, e, q => ⟨_, _, rfl, gsAll_run r (ok.set i h) (t.set (hs i List.mem_cons_self) _) (fun j hj => hs j (List.mem_cons_of_mem _ hj)) e q⟩
  | [], _, _, _, _, _, _, _, .cons _ _, _, _, _, e, _ => by cases e
  | _ :: _, _, _, _, _, _, _, _, .nil, _, _, _, e, _ => by cases e
theorem eNs_len : ∀ {is : List Nat} {ds : List D} {ρ ρ' : Env}, eNs is ds ρ = some ρ' → ds.length = is.length
  | [], [], _, _, _ => rfl
  | _ :: is, _ :: ds, _, _, e => congrArg (· + 1) (eNs_len e)
  | [], _ :: _, _, _, e => by cases e
  | _ :: _, [], _, _, e => by cases e
theorem mg_name {i : Nat} {x : Str} (hN : S.N[i]? = some x) (hx : locB (S.sc.names.lookup x) = true) : MG S (.Name x pos) [i] (eN i) := fun X G =>
  PG.imp (pg_name (by rw [G.N]; exact G.nd) (by rw [G.N]; exact hN) (G.loc hx).1 (G.loc hx).2) fun v σ H Q ⟨F, ρ, d, ρ', sm, ok, r, e, q⟩ => by
    cases e
    exact q _ (ok.set i r) ((Touch.refl _ _).set (List.mem_singleton.mpr rfl) _)
theorem mg_tup {is : List Nat} {k : Nat} (h : NamesAt S es is) : MG S (.Tuple es k pos) is (eT is) := fun X G =>
  PG.imp (pg_tup G.calm (h.pgs G) h.len h.nost) fun v σ H Q ⟨F, ρ, d, ρ', sm, ok, r, e, q⟩ => by
    cases r <;> simp only [eT] at e <;> try (cases e; done)
    case tup a xs ds hh rr yy =>
      refine ⟨a, xs, rfl, SqT.of (sm _ _ hh), ?_, gsAll_run rr ok (Touch.refl _ _) (fun _ h => h) e q⟩
      rw [rr.length]
      exact eNs_len e
end

/-! ### comprehensions -/
def wipeE (ρ : Env) : List Nat → Env
  | [] => ρ
  | v :: vs => (wipeE ρ vs).set v none
theorem wipe_ok {K : PySem.W.Frag} {F : Hp} {σ : St} {ρ : Env} (ok : EnvOk K F σ ρ) : ∀ vs, EnvOk K F (wipe σ vs) (wipeE ρ vs)
  | [] => ok
  | v :: vs => (wipe_ok ok vs).forget v
def MTs (S : Static) (es : List Expr) (h : Env → Option Bool) : Prop := ∀ X, Good S X → PTs X es (tTv S.K h)
def tt : Env → Option Bool := fun _ => some true
theorem mts_nil {S : Static} : MTs S [] tt := fun X G => ⟨fun pins s σ H Q I ⟨F, ρ, b, sm, ok, e, q⟩ => by
  cases e
  exact pts_nil.run pins s σ H Q I (q H (Same.refl _))⟩
theorem mts_one {S : Static} {c : Expr} {h : Env → Option Bool} (hc : MT S c h) : MTs S [c] h := fun X G => pts_one (hc X G)
/-- the items that a comprehension makes -/
def compL (t : D → Env → Option Env) (h : Env → Option Bool) (f : Env → Option D) (ρ : Env) : List D → Option (List D)
  | [] => some []
  | x :: xs => (t x ρ).bind fun ρ1 => (h ρ1).bind fun b => if b = true then (f ρ1).bind fun y => (compL t h f ρ xs).bind fun ys => some (y :: ys) else compL t h f ρ xs
theorem compL_len {t : D → Env → Option Env} {h : Env → Option Bool} {f : Env → Option D} {ρ : Env} : ∀ {xs ys : List D}, compL t h f ρ xs = some ys → ys.length ≤ xs.length
  | [], ys, e => by cases e; exact Nat.le_refl _
  | x :: xs, ys, e => by
    unfold compL at e
    obtain ⟨ρ1, _, e⟩ := Option.bind_eq_some_iff.mp e
    obtain ⟨b, _, e⟩ := Option.bind_eq_some_iff.mp e
    cases b with
    | true =>
      rw [if_pos rfl] at e
      obtain ⟨y, _, e⟩ := Option.bind_eq_some_iff.mp e
      obtain ⟨zs, e2, e⟩ := Option.bind_eq_some_iff.mp e
      cases e
      exact Nat.succ_le_succ (compL_len e2)
    | false =>
      rw [if_neg Bool.false_ne_true] at e
      exact Nat.le_succ_of_le (compL_len e)
/-- an expression that gives a NEW list -/
def tFr (K : PySem.W.Frag) (f : Env → Option (List D)) : TE := fun σ H Q => ∃ F ρ ds, Same F H ∧ EnvOk K F σ ρ ∧ f ρ = some ds ∧ ∀ p vs F' H', Ext F H F' H' → H p = none → F' p = none → H' p = some (.lst vs) → Reps K F' vs ds → Q (.ref p) H'
def MF (S : Static) (e : Expr) (f : Env → Option (List D)) : Prop := ∀ X, Good S X → PE X e (tFr S.K f)
def fL (f : Env → Option (List D)) : Env → Option D := fun ρ => (f ρ).map .lst
theorem me_f {S : Static} {e : Expr} {f : Env → Option (List D)} (h : MF S e f) : ME S e (fL f) := fun X G =>
  PE.imp (h X G) fun σ H Q ⟨F, ρ, d, sm, ok, e, q⟩ => by
    obtain ⟨ds, h1, rfl⟩ := Option.map_eq_some_iff.mp e
    refine ⟨F, ρ, ds, sm, ok, h1, fun p vs F' H' x n1 n2 hp r => ?_⟩
    refine q _ (upd F' p (.lst vs)) H' ⟨x.f.trans (same_new n2), x.h, fun b o e => ?_, fun a h1 h2 => ?_⟩ (.lst upd_same (r.mono (same_new n2)))
    · by_cases hb : b = p
      · subst hb
        rw [upd_same] at e
        cases e
        exact hp
      · rw [upd_ne hb] at e
        exact x.s _ _ e
    · rw [upd_ne (fun e => h2 (by rw [e]; exact n1))]
      exact x.n a h1 h2
/-- the block's context -/
theorem Good.blk {S : Static} {X : Cx} (G : Good S X) {scope : Scope} (hk : scope.kind = .function) (s : Shared) (H : Hp) (C : Addr) (cl : List (Str × Addr)) (fp : List Addr) :
    Good { S with sc := scope } (X.blk s H scope (compEnvC scope cl C X.env) fp) where
  P := G.P
  w := G.w
  K := G.K
  mg := G.mg
  base := G.base
  N := G.N
  nd := G.nd
  sc := by
    show ∀ x k, scope.names.lookup x = some k → ∃ k', (scope.names.map fun (n, k) => if (k == .free && X.env.scope.kind == .function && X.env.kindOf n == some .cell) then (n, NameKind.cell) else (n, k)).lookup x = some k' ∧ (k' = k ∨ (k = .free ∧ k' = .cell))
    intro x k
    generalize scope.names = names
    induction names with
    | nil => intro h; cases h
    | cons y r ih =>
      obtain ⟨n, k0⟩ := y
      intro h
      rw [List.lookup_cons] at h
      rw [List.map_cons]
      cases hx : x == n with
      | true =>
        rw [hx] at h
        cases h
        by_cases hc : (k == .free && X.env.scope.kind == .function && X.env.kindOf n == some .cell) = true
        · refine ⟨.cell, ?_, .inr ⟨?_, rfl⟩⟩
          · dsimp only
            rw [if_pos hc, List.lookup_cons, hx]
          · simp only [Bool.and_eq_true, beq_iff_eq] at hc
            exact hc.1.1
        · refine ⟨k, ?_, .inl rfl⟩
          dsimp only
          rw [if_neg hc, List.lookup_cons, hx]
      | false =>
        rw [hx] at h
        obtain ⟨k', e, q⟩ := ih h
        refine ⟨k', ?_, q⟩
        dsimp only
        split
        · rw [List.lookup_cons, hx]
          exact e
        · rw [List.lookup_cons, hx]
          exact e
  calm := G.calm
  room := G.room
  fn := fun x h => by
    show (scope.names.lookup x == some .cell) = true
    rw [show scope.names.lookup x = some .cell from h]
    rfl
  kind := hk
theorem Good.blkOk {S : Static} {X : Cx} (G : Good S X) {scope : Scope} {own : List (Str × Nat)} (h : blkC S.N S.sc scope own = true) : BlkOk X.N X.env.scope scope own := by
  have b := blkOk_by h
  rw [G.N]
  refine ⟨b.kind, b.uniq, b.ix, fun y hy e => ?_, b.own⟩
  rcases b.free y hy e with k | k
  · obtain ⟨k', h1, h2⟩ := G.sc _ _ k
    rcases h2 with rfl | ⟨z, _⟩
    · exact .inl h1
    · cases z
  · obtain ⟨k', h1, h2⟩ := G.sc _ _ k
    rcases h2 with rfl | ⟨_, rfl⟩
    · exact .inr h1
    · exact .inl h1
def fComp (vs : List Nat) (i : Env → Option (List D)) (t : D → Env → Option Env) (h : Env → Option Bool) (f : Env → Option D) : Env → Option (List D) := fun ρ =>
  (i ρ).bind fun xs => if xs.length < sizeLine then compL t h f (wipeE ρ vs) xs else none

def notSet : Expr → Bool
  | .Set .. => false
  | _ => true
section
variable {S : Static} {elt tg iter : Expr} {ifs : List Expr} {scope : Scope} {pos : Pos} {i : Env → Option (List D)} {t : D → Env → Option Env} {h : Env → Option Bool} {f : Env → Option D} {is : List Nat}
/-- what a comprehension's walk asks, from the data -/
theorem lc_run {K : PySem.W.Frag} {σ : St} {H : Hp} {Q : VK} {vs : List Nat} (hs : ∀ j ∈ is, j ∈ vs) (q : tFr K (fComp vs i t h f) σ H Q) :
    tLc (tIv K i) (fun v σ H Q => ∃ F ρ d ρ', Same F H ∧ EnvOk K F σ ρ ∧ Rep K F v d ∧ t d ρ = some ρ' ∧ ∀ σ', EnvOk K F σ' ρ' → Touch is σ σ' → Q σ' H) (tTv K h) (tEv K f) vs σ H Q := by
  obtain ⟨F, ρ, ds, sm, ok, e, q⟩ := q
  obtain ⟨xs, h1, e⟩ := Option.bind_eq_some_iff.mp e
  split at e
  case isFalse => cases e
  rename_i hz
  refine ⟨F, ρ, xs, sm, ok, h1, fun F1 H1 J x1 y => ?_⟩
  intro L hL
  have FL : F1 L = none := Same.none_of x1.s hL
  have HL : H L = none := Same.none_of x1.h hL
  -- turn i: the items made so far
  refine ⟨fun i m Hc => m + i = xs.length ∧ ∃ Fc vs0 ds0 ds1, Ext F1 (upd H1 L (.lst [])) Fc (upd Hc L (.lst [])) ∧ Hc L = some (.lst vs0) ∧ Fc L = none ∧ Reps K Fc vs0 ds0 ∧ ds0.length ≤ i ∧ compL t h f (wipeE ρ vs) (xs.drop i) = some ds1 ∧ ds = ds0 ++ ds1, ?_, ?_⟩
  · refine ⟨xs.length, rfl, F1, [], [], ds, ?_, upd_same, FL, .nil, Nat.le_refl _, by rw [List.drop_zero]; exact e, rfl⟩
    rw [upd_upd]
    exact Ext.refl (x1.s.trans (same_new hL))
  · rintro i m Hc ⟨hm, Fc, vs0, ds0, ds1, xc, hcl, fcl, r0, l0, e1, ed⟩
    have sc : Same Fc Hc := fun b o eb => by
      have nb : b ≠ L := ne_of_none eb fcl
      have := xc.s b o eb
      rw [upd_ne nb] at this
      exact this
    by_cases hi : i < xs.length
    · refine .inr ⟨y.go i Hc (xc.f.trans sc) hi, fun Hn => ∃ m', m' + (i + 1) = xs.length ∧ ∃ Fc vs0 ds0 ds1, Ext F1 (upd H1 L (.lst [])) Fc (upd Hn L (.lst [])) ∧ Hn L = some (.lst vs0) ∧ Fc L = none ∧ Reps K Fc vs0 ds0 ∧ ds0.length ≤ i + 1 ∧ compL t h f (wipeE ρ vs) (xs.drop (i + 1)) = some ds1 ∧ ds = ds0 ++ ds1,
        fun Hn ⟨m', h1, h2⟩ => ⟨m', by omega, h1, h2⟩, fun x Hy hy => ?_⟩
      have hd : xs[i]? = some xs[i] := List.getElem?_eq_getElem hi
      obtain ⟨sy, k⟩ := y.yld i Hc x Hy _ (xc.f.trans sc) hd hy
      obtain ⟨F2, x2, rx⟩ := k Fc xc.f sc
      rw [List.drop_eq_getElem_cons hi] at e1
      unfold compL at e1
      obtain ⟨ρ1, et, e1⟩ := Option.bind_eq_some_iff.mp e1
      obtain ⟨b, eh, e1⟩ := Option.bind_eq_some_iff.mp e1
      have ok2 : EnvOk K F2 (wipe σ vs) (wipeE ρ vs) := wipe_ok ((ok.mono x1.f).mono (xc.f.trans x2.f)) vs
      have F2L : F2 L = none := x2.n L fcl (by rw [hcl]; exact fun z => nomatch z)
      -- the extension, the list aside
      have lift : ∀ {Fa Ha : Hp}, Ext Fc Hc Fa Ha → Fa L = none → Ext F1 (upd H1 L (.lst [])) Fa (upd Ha L (.lst [])) := fun {Fa Ha} xa fa => by
        refine xc.trans ⟨xa.f, fun b o eb => ?_, fun b o eb => ?_, fun b e1 e2 => ?_⟩
        · by_cases nb : b = L
          · subst nb
            rw [upd_same] at eb ⊢
            exact eb
          · rw [upd_ne nb] at eb ⊢
            exact xa.h b o eb
        · rw [upd_ne (ne_of_none eb fa)]
          exact xa.s b o eb
        · by_cases nb : b = L
          · subst nb
            exact fa
          · rw [upd_ne nb] at e2
            exact xa.n b e1 e2
      refine ⟨F2, _, _, ρ1, x2.s, ok2, rx, et, fun σ2 okσ tσ => ⟨tσ.wipe hs, F2, ρ1, b, x2.s, okσ, eh, fun H3 s3 => ?_⟩⟩
      have x3 := x2.grow s3
      dsimp only
      cases b with
      | false =>
        rw [if_neg Bool.false_ne_true] at e1 ⊢
        refine ⟨m - 1, by omega, F2, vs0, ds0, ds1, lift x3 F2L, s3 _ _ (sy _ _ hcl), F2L, (r0.mono x2.f), by omega, e1, ed⟩
      | true =>
        rw [if_pos rfl] at e1 ⊢
        obtain ⟨d, ef, e1⟩ := Option.bind_eq_some_iff.mp e1
        obtain ⟨ds2, e2, e1⟩ := Option.bind_eq_some_iff.mp e1
        cases e1
        refine ⟨F2, ρ1, d, x3.s, okσ, ef, fun v F4 H4 x4 rv => ?_⟩
        have x24 := x3.trans x4
        have F4L : F4 L = none := x24.n L fcl (by rw [hcl]; exact fun z => nomatch z)
        refine ⟨vs0, x24.h _ _ hcl, by rw [r0.length]; omega, m - 1, by omega, F4, vs0 ++ [v], ds0 ++ [d], ds2, ?_, upd_same, F4L, (r0.mono x24.f).append (.cons rv .nil), by rw [List.length_append, List.length_singleton]; omega, e2, by rw [ed, List.append_assoc]; rfl⟩
        rw [upd_upd]
        exact lift x24 F4L
    · have ei : i = xs.length := by omega
      subst ei
      rw [List.drop_length] at e1
      have e1 : ([] : List D) = ds1 := Option.some.inj e1
      subst e1
      rw [List.append_nil] at ed
      subst ed
      refine .inl ⟨y.stop _ Hc (xc.f.trans sc) rfl, q L vs0 Fc Hc ⟨x1.f.trans xc.f, fun b o eb => ?_, sc, fun b e1 e2 => ?_⟩ HL fcl hcl r0⟩
      · have nb : b ≠ L := ne_of_none eb HL
        have := xc.h b o (by rw [upd_ne nb]; exact x1.h b o eb)
        rw [upd_ne nb] at this
        exact this
      · have nb : b ≠ L := fun z => e2 (by rw [z]; exact HL)
        refine xc.n b (x1.n b e1 e2) ?_
        rw [upd_ne nb]
        cases z : H b with
        | none => exact absurd z e2
        | some o =>
          rw [x1.h b o z]
          exact fun z => nomatch z
theorem foldedSet_no {iter : Expr} {env : PySem.Env} (h : notSet iter = true) : ∀ x, foldedSetIterable iter env x = pure x := by
  intro x
  cases iter <;> first | rfl | (cases h; done)
theorem mf_comp {own : List (Str × Nat)} (hi : MI S tg iter i) (hg : MG { S with sc := scope } tg is t) (ht : MTs { S with sc := scope } ifs h) (he : ME { S with sc := scope } elt f)
    (hb : blkC S.N S.sc scope own = true) (hs : is = own.map (·.2) := by rfl) (hn : notSet iter = true := by rfl) : MF S (.ListComp elt [⟨tg, iter, ifs, 0⟩] scope pos) (fComp (own.map (·.2)) i t h f) := fun X G =>
  PE.imp (pe_lc G.calm (by rw [G.N]; exact G.nd) (hi X G) (G.blkOk hb) (fun s H C cl fp => hg _ (G.blk (blkOk_by hb).kind s H C cl fp)) (fun s H C cl fp => ht _ (G.blk (blkOk_by hb).kind s H C cl fp)) (fun s H C cl fp => he _ (G.blk (blkOk_by hb).kind s H C cl fp)) (foldedSet_no hn))
    fun σ H Q q => lc_run (fun j hj => by rw [← hs]; exact hj) q
end
end VM
/-! VM4 -/
namespace VM
open PySem PySem.Spec PyProof.Rows L2

/-! ### a def's state: values, and lists and dicts that it alone holds -/
inductive Slot where
  | non | val (d : D) | own (xs : List D) | odK (kvs : List (Key × D)) | odT (kvs : List (List Key × D))
abbrev Sv := List Slot
def Slot.see : Slot → Option D
  | .val d => some d
  | _ => none
def view (ρ : Sv) : Env := ρ.map Slot.see
def Slot.frz : Slot → Slot
  | .own xs => .val (.lst xs)
  | .odK xs => .val (.dK xs)
  | .odT xs => .val (.dT xs)
  | s => s
def frz : List Bool → Sv → Sv
  | _, [] => []
  | [], ρ => ρ
  | b :: bs, s :: ρ => (if b then s.frz else s) :: frz bs ρ
def frzA (ρ : Sv) : Sv := ρ.map Slot.frz
def isOwn : Slot → Bool
  | .own _ => true
  | .odK _ => true
  | .odT _ => true
  | _ => false
/-- an object that is held, with its data by F -/
def Held (K : PySem.W.Frag) (F H : Hp) (a : Addr) : Slot → Prop
  | .own xs => ∃ vs, H a = some (.lst vs) ∧ Reps K F vs xs
  | .odK xs => ∃ vs, H a = some (.dK vs) ∧ RepP K F vs xs
  | .odT xs => ∃ vs, H a = some (.dT vs) ∧ RepP K F vs xs
  | _ => False
def SlotOk (K : PySem.W.Frag) (H0 F H : Hp) (o : Option V) : Slot → Prop
  | .non => True
  | .val d => ∃ v, o = some v ∧ Rep K F v d
  | s => ∃ a, o = some (.ref a) ∧ H0 a = none ∧ F a = none ∧ Held K F H a s
structure StOk (K : PySem.W.Frag) (F0 H0 F H : Hp) (σ : St) (ρ : Sv) : Prop where
  ext : Ext F0 H0 F H
  len : σ.length = ρ.length
  get : ∀ (i : Nat) (s : Slot), ρ[i]? = some s → ∃ o, σ[i]? = some o ∧ SlotOk K H0 F H o s
  sep : ∀ (i j : Nat) (s t : Slot) (a : Addr), i ≠ j → ρ[i]? = some s → isOwn s = true → ρ[j]? = some t → isOwn t = true → σ[i]? = some (some (.ref a)) → σ[j]? = some (some (.ref a)) → False
section
variable {K : PySem.W.Frag} {F0 H0 F H F' H' : Hp} {σ : St} {ρ : Sv}
theorem Held.mono {a : Addr} {s : Slot} (f : Same F F') (h : Same H H') (q : Held K F H a s) : Held K F' H' a s := by
  cases s with
  | own xs => obtain ⟨vs, h1, h2⟩ := q; exact ⟨vs, h _ _ h1, h2.mono f⟩
  | odK xs => obtain ⟨vs, h1, h2⟩ := q; exact ⟨vs, h _ _ h1, h2.mono f⟩
  | odT xs => obtain ⟨vs, h1, h2⟩ := q; exact ⟨vs, h _ _ h1, h2.mono f⟩
  | _ => exact q.elim
theorem Held.at_ {a : Addr} {s : Slot} (q : Held K F H a s) : ∃ o, H a = some o := by
  cases s with
  | own xs => obtain ⟨vs, h1, h2⟩ := q; exact ⟨_, h1⟩
  | odK xs => obtain ⟨vs, h1, h2⟩ := q; exact ⟨_, h1⟩
  | odT xs => obtain ⟨vs, h1, h2⟩ := q; exact ⟨_, h1⟩
  | _ => exact q.elim
theorem slotOwn {o : Option V} {s : Slot} (hs : isOwn s = true) (h : SlotOk K H0 F H o s) : ∃ a, o = some (.ref a) ∧ H0 a = none ∧ F a = none ∧ Held K F H a s := by
  cases s <;> first | exact h | cases hs
theorem ownSlot {o : Option V} {s : Slot} (hs : isOwn s = true) {a : Addr} (e : o = some (.ref a)) (h0 : H0 a = none) (hf : F a = none) (hh : Held K F H a s) : SlotOk K H0 F H o s := by
  cases s <;> first | exact ⟨a, e, h0, hf, hh⟩ | cases hs
theorem SlotOk.next {o : Option V} {s : Slot} (x : Ext F H F' H') (h : SlotOk K H0 F H o s) : SlotOk K H0 F' H' o s := by
  by_cases hs : isOwn s = true
  · obtain ⟨a, e, h0, hf, hh⟩ := slotOwn hs h
    obtain ⟨o', ho⟩ := hh.at_
    exact ownSlot hs e h0 (x.n a hf (by rw [ho]; exact fun z => nomatch z)) (hh.mono x.f x.h)
  · cases s <;> first | exact absurd rfl hs | skip
    · exact trivial
    · obtain ⟨v, e, r⟩ := h
      exact ⟨v, e, r.mono x.f⟩
theorem StOk.next (st : StOk K F0 H0 F H σ ρ) (x : Ext F H F' H') : StOk K F0 H0 F' H' σ ρ where
  ext := st.ext.trans x
  len := st.len
  get := fun i s h => by
    obtain ⟨o, h1, h2⟩ := st.get i s h
    exact ⟨o, h1, h2.next x⟩
  sep := st.sep
theorem StOk.grow (st : StOk K F0 H0 F H σ ρ) (x : Same H H') : StOk K F0 H0 F H' σ ρ := st.next ⟨Same.refl _, x, st.ext.s.trans x, fun _ h _ => h⟩
theorem StOk.env (st : StOk K F0 H0 F H σ ρ) : EnvOk K F σ (view ρ) where
  len := by unfold view; rw [List.length_map, st.len]
  get := fun i d h => by
    unfold view at h
    rw [List.getElem?_map] at h
    obtain ⟨s, h1, h2⟩ := Option.map_eq_some_iff.mp h
    obtain ⟨o, h3, h4⟩ := st.get i s h1
    cases s <;> simp only [Slot.see] at h2 <;> cases h2
    obtain ⟨v, rfl, r⟩ := h4
    exact ⟨v, h3, r⟩
/-- some of what is held is given up: from now on it stands as it is -/
theorem StOk.frzTo (st : StOk K F0 H0 F H σ ρ) {ρ' : Sv} (hl : ρ'.length = ρ.length) (hr : ∀ (i : Nat) (s : Slot), ρ[i]? = some s → ρ'[i]? = some s ∨ ρ'[i]? = some s.frz) : ∃ F', Same F F' ∧ StOk K F0 H0 F' H σ ρ' ∧ ∀ (a : Addr) (xs : List V), F' a = some (.tup xs) → F a = some (.tup xs) := by
  classical
  let A : Addr → Prop := fun a => ∃ (i : Nat) (s : Slot), ρ[i]? = some s ∧ isOwn s = true ∧ ρ'[i]? = some s.frz ∧ σ[i]? = some (some (.ref a))
  have hA : ∀ a, A a → H0 a = none ∧ F a = none := fun a ⟨i, s, h1, h2, h3, h4⟩ => by
    obtain ⟨o, h5, h6⟩ := st.get i s h1
    obtain ⟨b, e, h0, hf, hh⟩ := slotOwn h2 h6
    rw [h4] at h5
    cases h5
    cases e
    exact ⟨h0, hf⟩
  let F' : Hp := fun a => if A a then H a else F a
  have f1 : Same F F' := fun b o e => by
    show (if A b then H b else F b) = some o
    by_cases z : A b
    · rw [(hA b z).2] at e
      cases e
    · rw [if_neg z]
      exact e
  have f2 : Same F' H := fun b o e => by
    have e : (if A b then H b else F b) = some o := e
    by_cases z : A b
    · rw [if_pos z] at e
      exact e
    · rw [if_neg z] at e
      exact st.ext.s b o e
  have back : ∀ (i : Nat) (s' : Slot), ρ'[i]? = some s' → ∃ s, ρ[i]? = some s ∧ (s' = s ∨ s' = s.frz) := fun i s' e => by
    have hi : i < ρ.length := by rw [← hl]; exact (List.getElem?_eq_some_iff.mp e).1
    refine ⟨ρ[i], List.getElem?_eq_getElem hi, ?_⟩
    rcases hr i _ (List.getElem?_eq_getElem hi) with h | h
    · rw [e] at h; exact .inl (Option.some.inj h)
    · rw [e] at h; exact .inr (Option.some.inj h)
  have noFrz : ∀ s : Slot, isOwn s.frz = false := fun s => by cases s <;> rfl
  have tups : ∀ (a : Addr) (xs : List V), F' a = some (.tup xs) → F a = some (.tup xs) := fun a xs e => by
    have e : (if A a then H a else F a) = some (.tup xs) := e
    by_cases z : A a
    · rw [if_pos z] at e
      obtain ⟨i, s, h1, h2, h3, h4⟩ := z
      obtain ⟨o, h5, h6⟩ := st.get i s h1
      obtain ⟨b, eb, h0, hf, hh⟩ := slotOwn h2 h6
      rw [h4] at h5
      cases h5
      cases eb
      cases s with
      | own ys => obtain ⟨vs, g1, _⟩ := hh; rw [g1] at e; cases e
      | odK ys => obtain ⟨vs, g1, _⟩ := hh; rw [g1] at e; cases e
      | odT ys => obtain ⟨vs, g1, _⟩ := hh; rw [g1] at e; cases e
      | _ => exact hh.elim
    · rw [if_neg z] at e
      exact e
  refine ⟨F', f1, ⟨⟨st.ext.f.trans f1, st.ext.h, f2, fun a h1 h2 => ?_⟩, by rw [hl, st.len], fun i s' e => ?_, fun i j s t a hij h1 h2 h3 h4 h5 h6 => ?_⟩, tups⟩
  · show (if A a then H a else F a) = none
    by_cases z : A a
    · exact absurd (hA a z).1 h2
    · rw [if_neg z]
      exact st.ext.n a h1 h2
  · obtain ⟨s, h1, hs⟩ := back i s' e
    obtain ⟨o, h3, h4⟩ := st.get i s h1
    refine ⟨o, h3, ?_⟩
    by_cases hw : isOwn s = true
    · obtain ⟨a, ea, h0, hf, hh⟩ := slotOwn hw h4
      rcases hs with rfl | rfl
      · refine ownSlot hw ea h0 ?_ (hh.mono f1 (Same.refl _))
        show (if A a then H a else F a) = none
        have z : ¬ A a := fun ⟨j, t, g1, g2, g3, g4⟩ => by
          by_cases hij : i = j
          · subst hij
            rw [e] at g3
            have g3 : s' = t.frz := Option.some.inj g3
            rw [g3, noFrz] at hw
            cases hw
          · exact st.sep i j s' t a hij h1 hw g1 g2 (by rw [h3, ea]) g4
        rw [if_neg z]
        exact hf
      · have z : A a := ⟨i, s, h1, hw, e, by rw [h3, ea]⟩
        have ha : F' a = H a := by
          show (if A a then H a else F a) = H a
          rw [if_pos z]
        cases s with
        | own xs =>
          obtain ⟨vs, g1, g2⟩ := hh
          exact ⟨_, ea, .lst (ha.trans g1) (g2.mono f1)⟩
        | odK xs =>
          obtain ⟨vs, g1, g2⟩ := hh
          exact ⟨_, ea, .dK (ha.trans g1) (g2.mono f1)⟩
        | odT xs =>
          obtain ⟨vs, g1, g2⟩ := hh
          exact ⟨_, ea, .dT (ha.trans g1) (g2.mono f1)⟩
        | non => cases hw
        | val d => cases hw
    · have hs' : s' = s := by
        rcases hs with h | h
        · exact h
        · rw [h]
          cases s <;> first | rfl | exact absurd rfl hw
      subst hs'
      cases s' with
      | non => trivial
      | val d =>
        obtain ⟨v, ev, r⟩ := h4
        exact ⟨v, ev, r.mono f1⟩
      | own _ => exact absurd rfl hw
      | odK _ => exact absurd rfl hw
      | odT _ => exact absurd rfl hw
  · obtain ⟨s0, g1, g2⟩ := back i s h1
    obtain ⟨t0, k1, k2⟩ := back j t h3
    have e1 : s = s0 := by
      rcases g2 with g2 | g2
      · exact g2
      · rw [g2, noFrz] at h2; cases h2
    have e2 : t = t0 := by
      rcases k2 with g2 | g2
      · exact g2
      · rw [g2, noFrz] at h4; cases h4
    subst e1
    subst e2
    exact st.sep i j s t a hij g1 h2 k1 h4 h5 h6
theorem frz_len : ∀ (m : List Bool) (ρ : Sv), (frz m ρ).length = ρ.length
  | _, [] => by simp [frz]
  | [], s :: ρ => by simp [frz]
  | b :: bs, s :: ρ => by simp [frz, frz_len bs ρ]
theorem frz_get : ∀ (m : List Bool) (ρ : Sv) (i : Nat) (s : Slot), ρ[i]? = some s → (frz m ρ)[i]? = some s ∨ (frz m ρ)[i]? = some s.frz
  | _, [], i, s, h => by simp at h
  | [], t :: ρ, i, s, h => by rw [frz]; exact .inl h; exact fun z => by cases z
  | b :: bs, t :: ρ, 0, s, h => by
    have e : t = s := Option.some.inj h
    subst e
    rw [frz]
    cases b
    · exact .inl rfl
    · exact .inr rfl
  | b :: bs, t :: ρ, i + 1, s, h => by
    rw [frz]
    exact frz_get bs ρ i s h
theorem StOk.frzT (st : StOk K F0 H0 F H σ ρ) (m : List Bool) : ∃ F', Same F F' ∧ StOk K F0 H0 F' H σ (VM.frz m ρ) ∧ ∀ (a : Addr) (xs : List V), F' a = some (.tup xs) → F a = some (.tup xs) := st.frzTo (frz_len m ρ) (frz_get m ρ)
theorem StOk.frz (st : StOk K F0 H0 F H σ ρ) (m : List Bool) : ∃ F', Same F F' ∧ StOk K F0 H0 F' H σ (frz m ρ) := by
  obtain ⟨F', h1, h2, _⟩ := st.frzT m
  exact ⟨F', h1, h2⟩
theorem StOk.frzA (st : StOk K F0 H0 F H σ ρ) : ∃ F', Same F F' ∧ StOk K F0 H0 F' H σ (frzA ρ) := by
  obtain ⟨F', h1, h2, _⟩ := st.frzTo (ρ' := VM.frzA ρ) (by unfold VM.frzA; rw [List.length_map]) fun i s h => .inr (by unfold VM.frzA; rw [List.getElem?_map, h]; rfl)
  exact ⟨F', h1, h2⟩
theorem StOk.set (st : StOk K F0 H0 F H σ ρ) (i : Nat) {v : V} {d : D} (r : Rep K F v d) : StOk K F0 H0 F H (σ.set i (some v)) (ρ.set i (.val d)) where
  ext := st.ext
  len := by rw [List.length_set, List.length_set, st.len]
  get := fun j s h => by
    rw [List.getElem?_set] at h ⊢
    by_cases hij : i = j
    · subst hij
      rw [if_pos rfl] at h ⊢
      rw [st.len]
      by_cases hl : i < ρ.length
      · rw [if_pos hl] at h ⊢
        cases h
        exact ⟨_, rfl, v, rfl, r⟩
      · rw [if_neg hl] at h
        cases h
    · rw [if_neg hij] at h ⊢
      exact st.get j s h
  sep := fun j k s t a hjk h1 h2 h3 h4 h5 h6 => by
    rw [List.getElem?_set] at h1 h3 h5 h6
    by_cases hij : i = j
    · subst hij
      rw [if_pos rfl] at h1
      split at h1
      · cases h1; cases h2
      · cases h1
    · by_cases hik : i = k
      · subst hik
        rw [if_pos rfl] at h3
        split at h3
        · cases h3; cases h4
        · cases h3
      · rw [if_neg hij] at h1 h5
        rw [if_neg hik] at h3 h6
        exact st.sep j k s t a hjk h1 h2 h3 h4 h5 h6
/-- a slot gets a new object, held by it alone -/
theorem StOk.setOwn (st : StOk K F0 H0 F H σ ρ) (i : Nat) {a : Addr} {s : Slot} (hs : isOwn s = true) (h0 : H0 a = none) (hf : F a = none) (hh : Held K F H a s)
    (hn : ∀ (j : Nat) (t : Slot), j ≠ i → ρ[j]? = some t → isOwn t = true → σ[j]? ≠ some (some (.ref a))) : StOk K F0 H0 F H (σ.set i (some (.ref a))) (ρ.set i s) where
  ext := st.ext
  len := by rw [List.length_set, List.length_set, st.len]
  get := fun j t h => by
    rw [List.getElem?_set] at h ⊢
    by_cases hij : i = j
    · subst hij
      rw [if_pos rfl] at h ⊢
      rw [st.len]
      by_cases hl : i < ρ.length
      · rw [if_pos hl] at h ⊢
        cases h
        exact ⟨_, rfl, ownSlot hs rfl h0 hf hh⟩
      · rw [if_neg hl] at h
        cases h
    · rw [if_neg hij] at h ⊢
      exact st.get j t h
  sep := fun j k u t b hjk h1 h2 h3 h4 h5 h6 => by
    rw [List.getElem?_set] at h1 h3 h5 h6
    by_cases hij : i = j
    · subst hij
      rw [if_neg (fun e => hjk e)] at h3 h6
      rw [if_pos rfl] at h5
      split at h5
      · cases h5
        exact hn k t (fun e => hjk e.symm) h3 h4 h6
      · cases h5
    · by_cases hik : i = k
      · subst hik
        rw [if_neg hij] at h1 h5
        rw [if_pos rfl] at h6
        split at h6
        · cases h6
          exact hn j u (fun e => hij e.symm) h1 h2 h5
        · cases h6
      · rw [if_neg hij] at h1 h5
        rw [if_neg hik] at h3 h6
        exact st.sep j k u t b hjk h1 h2 h3 h4 h5 h6
/-- what a slot holds is changed in place -/
theorem StOk.put (st : StOk K F0 H0 F H σ ρ) {i : Nat} {a : Addr} {s s' : Slot} {o : HO} (hs : isOwn s = true) (hs' : isOwn s' = true) (hi : ρ[i]? = some s) (hσ : σ[i]? = some (some (.ref a)))
    (hh : Held K F (upd H a o) a s') : StOk K F0 H0 F (upd H a o) σ (ρ.set i s') := by
  obtain ⟨o1, g1, g2⟩ := st.get i s hi
  rw [hσ] at g1
  cases g1
  obtain ⟨b, e, h0, hf, hhb⟩ := slotOwn hs g2
  cases e
  have hl : i < ρ.length := (List.getElem?_eq_some_iff.mp hi).1
  refine ⟨⟨st.ext.f, fun b o e => ?_, fun b o e => ?_, st.ext.n⟩, by rw [List.length_set, st.len], fun j t h => ?_, fun j k u t b hjk h1 h2 h3 h4 h5 h6 => ?_⟩
  · rw [upd_ne (ne_of_none e h0)]
    exact st.ext.h _ _ e
  · rw [upd_ne (ne_of_none e hf)]
    exact st.ext.s _ _ e
  · rw [List.getElem?_set] at h
    by_cases hij : i = j
    · subst hij
      rw [if_pos rfl, if_pos hl] at h
      cases h
      exact ⟨_, hσ, ownSlot hs' rfl h0 hf hh⟩
    · rw [if_neg hij] at h
      obtain ⟨o2, k1, k2⟩ := st.get j t h
      refine ⟨o2, k1, ?_⟩
      by_cases ht : isOwn t = true
      · obtain ⟨c, e, c0, cf, ch⟩ := slotOwn ht k2
        refine ownSlot ht e c0 cf ?_
        have nc : c ≠ a := fun z => by
          subst z
          exact st.sep i j s t c hij hi hs h ht hσ (by rw [k1, e])
        cases t with
        | own xs => obtain ⟨vs, q1, q2⟩ := ch; exact ⟨vs, by rw [upd_ne nc]; exact q1, q2⟩
        | odK xs => obtain ⟨vs, q1, q2⟩ := ch; exact ⟨vs, by rw [upd_ne nc]; exact q1, q2⟩
        | odT xs => obtain ⟨vs, q1, q2⟩ := ch; exact ⟨vs, by rw [upd_ne nc]; exact q1, q2⟩
        | non => cases ht
        | val d => cases ht
      · cases t <;> first | exact absurd rfl ht | skip
        · exact trivial
        · exact k2
  · have key : ∀ (j : Nat) (u : Slot), (ρ.set i s')[j]? = some u → isOwn u = true → ∃ u', ρ[j]? = some u' ∧ isOwn u' = true := fun j u h hu => by
      rw [List.getElem?_set] at h
      by_cases hij : i = j
      · subst hij
        exact ⟨s, hi, hs⟩
      · rw [if_neg hij] at h
        exact ⟨u, h, hu⟩
    obtain ⟨u', q1, q2⟩ := key j u h1 h2
    obtain ⟨t', q3, q4⟩ := key k t h3 h4
    exact st.sep j k u' t' b hjk q1 q2 q3 q4 h5 h6
end

/-! ### statements -/
inductive Out where
  | nx (ρ : Sv) | rt (d : D) | bk (ρ : Sv) | ct (ρ : Sv)
def endsOf (K : PySem.W.Frag) (F0 H0 G : Hp) (E : Ends) : Out → Prop
  | .nx ρ => ∀ σ F H, StOk K F0 H0 F H σ ρ → Same G F → E.nx σ H
  | .rt d => ∀ v F H, Ext F0 H0 F H → Rep K F v d → E.rt v H
  | .bk ρ => ∀ σ F H, StOk K F0 H0 F H σ ρ → Same G F → E.bk σ H
  | .ct ρ => ∀ σ F H, StOk K F0 H0 F H σ ρ → Same G F → E.ct σ H
theorem endsOf.mono {K : PySem.W.Frag} {F0 H0 G G' : Hp} {E : Ends} {o : Out} (h : endsOf K F0 H0 G E o) (s : Same G G') : endsOf K F0 H0 G' E o := by
  cases o with
  | nx ρ => exact fun σ F H ok f => h σ F H ok (s.trans f)
  | rt d => exact h
  | bk ρ => exact fun σ F H ok f => h σ F H ok (s.trans f)
  | ct ρ => exact fun σ F H ok f => h σ F H ok (s.trans f)
def tSt (K : PySem.W.Frag) (F0 H0 : Hp) (g : Sv → Option Out) : TS := fun E σ H => ∃ F ρ o, StOk K F0 H0 F H σ ρ ∧ g ρ = some o ∧ endsOf K F0 H0 F E o
def Own (X : Cx) : Prop := PassesOwn (model X.prog X.w) X.A X.env X.xe
def MS (S : Static) (st : Stmt) (g : Sv → Option Out) : Prop := ∀ X, Good S X → Own X → ∀ F0 H0, PS X st (tSt S.K F0 H0 g)
def MB (S : Static) (st : List Stmt) (g : Sv → Option Out) : Prop := ∀ X, Good S X → Own X → ∀ F0 H0, PSs X st (tSt S.K F0 H0 g)
def gSkip : Sv → Option Out := fun ρ => some (.nx ρ)
def gSeq (g h : Sv → Option Out) : Sv → Option Out := fun ρ => (g ρ).bind fun o => match o with
  | .nx ρ' => h ρ'
  | o => some o
mutual
/-- made of scalars and tuples alone -/
def solid : D → Bool
  | .non => true
  | .bl _ => true
  | .int _ => true
  | .str _ => true
  | .tup xs => solids xs
  | .lst _ => false
  | .ro _ => false
  | .tpd _ => false
  | .dK _ => false
  | .dT _ => false
  | .ins _ _ => false
def solids : List D → Bool
  | [] => true
  | x :: xs => solid x && solids xs
end
section
variable {K : PySem.W.Frag} {F G : Hp} (tups : ∀ (a : Addr) (xs : List V), F a = some (.tup xs) → G a = some (.tup xs))
include tups
mutual
theorem Rep.solid : ∀ {v : V} {d : D}, Rep K F v d → VM.solid d = true → Rep K G v d
  | _, _, .non, _ => .non
  | _, _, .bl b, _ => .bl b
  | _, _, .int i, _ => .int i
  | _, _, .str x, _ => .str x
  | _, _, .tup h r, e => .tup (tups _ _ h) (Reps.solid r (by rw [VM.solid] at e; exact e))
  | _, _, .lst _ _, e => by rw [VM.solid] at e; cases e
  | _, _, .ro _ _, e => by rw [VM.solid] at e; cases e
  | _, _, .tpd _ _ _, e => by rw [VM.solid] at e; cases e
  | _, _, .dK _ _, e => by rw [VM.solid] at e; cases e
  | _, _, .dT _ _, e => by rw [VM.solid] at e; cases e
  | _, _, .ins _ _, e => by rw [VM.solid] at e; cases e
theorem Reps.solid : ∀ {v : List V} {d : List D}, Reps K F v d → VM.solids d = true → Reps K G v d
  | _, _, .nil, _ => .nil
  | _, _, .cons h r, e => by
    rw [VM.solids, Bool.and_eq_true] at e
    exact .cons (Rep.solid h e.1) (Reps.solid r e.2)
end
end
/-- the state behind an expression: what it named is given up where the value may hold on to it -/
def post (m : List Bool) (d : D) (ρ : Sv) : Sv := if solid d = true then ρ else frz m ρ
section
variable {S : Static} {st : Stmt} {rest body body2 : List Stmt} {g g2 h : Sv → Option Out} {e tg : Expr} {pos p : Pos} {f : Env → Option D} {m : List Bool}
theorem mb_nil : MB S [] gSkip := fun X G O F0 H0 => PSs.imp pss_nil fun E σ H ⟨F, ρ, o, ok, e, q⟩ => by
  cases e
  exact q σ F H ok (Same.refl _)
theorem mb_one (h1 : MS S st g) : MB S [st] g := fun X G O F0 H0 => pss_one (h1 X G O F0 H0)
theorem mb_cons (h1 : MS S st g) (h2 : MB S rest h) : MB S (st :: rest) (gSeq g h) := fun X G O F0 H0 =>
  PSs.imp (pss_cons (h1 X G O F0 H0) (h2 X G O F0 H0)) fun E σ H ⟨F, ρ, o, ok, e, q⟩ => by
    obtain ⟨o1, e1, e2⟩ := Option.bind_eq_some_iff.mp e
    refine ⟨F, ρ, o1, ok, e1, ?_⟩
    cases o1 with
    | nx ρ1 => exact fun σ1 F1 H1 ok1 f1 => ⟨F1, ρ1, o, ok1, e2, q.mono f1⟩
    | rt d => cases e2; exact q
    | bk d => cases e2; exact q
    | ct d => cases e2; exact q
/-- an expression within a def's state -/
theorem evS {K : PySem.W.Frag} {F0 H0 F H : Hp} {σ : St} {ρ : Sv} {d : D} {Q : VK} (ok : StOk K F0 H0 F H σ ρ) (e : f (view (frz m ρ)) = some d) (q : ∀ v F' H', StOk K F0 H0 F' H' σ (post m d ρ) → Rep K F' v d → Same F F' → Q v H') : tEv K f σ H Q := by
  obtain ⟨F1, s1, ok1, tups⟩ := ok.frzT m
  refine ⟨F1, _, d, ok1.ext.s, ok1.env, e, fun v F' H' x r => ?_⟩
  unfold post at q
  by_cases hs : solid d = true
  · rw [if_pos hs] at q
    classical
    let F2 : Hp := fun b => if F1 b = none then F' b else F b
    have f2 : ∀ b, F2 b = if F1 b = none then F' b else F b := fun b => rfl
    have g1 : Same F F2 := fun b o eb => by
      rw [f2, if_neg (by rw [s1 b o eb]; exact fun z => nomatch z)]
      exact eb
    have x2 : Ext F H F2 H' := ⟨g1, x.h, fun b o eb => by
      rw [f2] at eb
      by_cases z : F1 b = none
      · rw [if_pos z] at eb
        exact x.s b o eb
      · rw [if_neg z] at eb
        exact x.h b o (ok.ext.s b o eb), fun a h1 h2 => by
      rw [f2]
      by_cases z : F1 a = none
      · rw [if_pos z]
        exact x.n a z h2
      · rw [if_neg z]
        exact h1⟩
    refine q v F2 H' (ok.next x2) (r.solid (fun a xs ea => ?_) hs) g1
    rw [f2]
    by_cases z : F1 a = none
    · rw [if_pos z]
      exact ea
    · rw [if_neg z]
      cases z1 : F1 a with
      | none => exact absurd z1 z
      | some o =>
        have := x.f a o z1
        rw [ea] at this
        cases this
        exact tups a xs z1
  · rw [if_neg hs] at q
    exact q v F' H' (ok1.next x) r (s1.trans x.f)
theorem evT {K : PySem.W.Frag} {F0 H0 F H : Hp} {σ : St} {ρ : Sv} {b : Bool} {f : Env → Option Bool} {Q : Bool → Hp → Prop} (ok : StOk K F0 H0 F H σ ρ) (e : f (view (frz m ρ)) = some b) (q : ∀ H', StOk K F0 H0 F H' σ ρ → Q b H') : tTv K f σ H Q := by
  obtain ⟨F1, s1, ok1⟩ := ok.frz m
  exact ⟨F1, _, b, ok1.ext.s, ok1.env, e, fun H' x => q H' (ok.grow x)⟩
def notComp : Expr → Bool
  | .ListComp .. => false
  | .SetComp .. => false
  | .DictComp .. => false
  | _ => true
theorem swaps_no {e : Expr} {t : Option Expr} {l : Nat} {env : PySem.Env} (h : notComp e = true) : swapsWith e t l env = pure false := by
  cases e <;> first | rfl | (cases h; done)
def gSet (i : Nat) (m : List Bool) (f : Env → Option D) : Sv → Option Out := fun ρ => (f (view (frz m ρ))).bind fun d => some (.nx ((post m d ρ).set i (.val d)))
theorem ms_set {i : Nat} {x : Str} (m : List Bool) (hN : S.N[i]? = some x) (hx : locB (S.sc.names.lookup x) = true) (he : ME S e f) (hn : notComp e = true := by rfl) : MS S (.Assign [.Name x p] e pos) (gSet i m f) := fun X G O F0 H0 =>
  PS.imp (ps_set (by rw [G.N]; exact G.nd) (by rw [G.N]; exact hN) (G.loc hx).1 (he X G) (swaps_no hn) (G.loc hx).2) fun E σ H ⟨F, ρ, o, ok, e, q⟩ => by
    obtain ⟨d, e1, e2⟩ := Option.bind_eq_some_iff.mp e
    cases e2
    exact evS ok e1 fun v F' H' ok' r f => q _ _ _ (ok'.set i r) f
/-- x = a new list, held by x -/
def gOwn (i : Nat) (m : List Bool) (f : Env → Option (List D)) : Sv → Option Out := fun ρ => (f (view (frz m ρ))).bind fun ds => some (.nx ((frz m ρ).set i (.own ds)))
theorem ownNew {K : PySem.W.Frag} {F0 H0 F H F' H' : Hp} {σ : St} {ρ : Sv} {i : Nat} {a : Addr} {s : Slot} (ok : StOk K F0 H0 F H σ ρ) (x : Ext F H F' H') (hs : isOwn s = true) (hn : H a = none) (hf : F' a = none) (hh : Held K F' H' a s) :
    StOk K F0 H0 F' H' (σ.set i (some (.ref a))) (ρ.set i s) :=
  (ok.next x).setOwn i hs (Same.none_of ok.ext.h hn) hf hh fun j t hj h1 h2 h3 => by
    obtain ⟨o, g1, g2⟩ := ok.get j t h1
    rw [h3] at g1
    cases g1
    obtain ⟨b, e, _, _, hb⟩ := slotOwn h2 g2
    cases e
    obtain ⟨o', ho⟩ := hb.at_
    rw [hn] at ho
    cases ho
theorem ms_own {i : Nat} {x : Str} {f : Env → Option (List D)} (m : List Bool) (hN : S.N[i]? = some x) (hx : locB (S.sc.names.lookup x) = true) (he : MF S e f) (hn : notComp e = true := by rfl) : MS S (.Assign [.Name x p] e pos) (gOwn i m f) := fun X G O F0 H0 =>
  PS.imp (ps_set (by rw [G.N]; exact G.nd) (by rw [G.N]; exact hN) (G.loc hx).1 (he X G) (swaps_no hn) (G.loc hx).2) fun E σ H ⟨F, ρ, o, ok, e, q⟩ => by
    obtain ⟨ds, e1, e2⟩ := Option.bind_eq_some_iff.mp e
    cases e2
    obtain ⟨F1, s1, ok1⟩ := ok.frz m
    exact ⟨F1, _, ds, ok1.ext.s, ok1.env, e1, fun a vs F' H' x n1 n2 hp r => q _ _ _ (ownNew ok1 x rfl n1 n2 ⟨vs, hp, r⟩) (s1.trans x.f)⟩
/-- new lists: a display, list(x) -/
theorem mf_lst {es : List Expr} {fs : Env → Option (List D)} (ha : MA S es fs) : MF S (.List es pos) (fun ρ => (fs ρ).bind fun ds => if ds.length ≤ sizeLine then some ds else none) := fun X G =>
  PE.imp (pe_lst (ha X G)) fun σ H Q ⟨F, ρ, d, s, ok, e, q⟩ => by
    obtain ⟨ds, h1, e⟩ := Option.bind_eq_some_iff.mp e
    split at e <;> cases e
    rename_i hz
    refine ⟨F, ρ, _, s, ok, h1, fun vs F1 H1 x1 r1 => ⟨by rw [r1.length]; exact hz, fun p hp => ?_⟩⟩
    exact q p vs F1 _ (x1.grow (same_new hp)) (Same.none_of x1.h hp) (Same.none_of x1.s hp) upd_same r1
def dListL : List D → Option (List D)
  | [.lst xs] => some xs
  | [.tup xs] => some xs
  | [.tpd xs] => some xs
  | [.ro xs] => some xs
  | _ => none
theorem mf_list {e1 : Expr} {fs : Env → Option (List D)} (hm : S.mg "list" = none) (ha : MA S [e1] fs) (hg : S.sc.names.lookup ("list" : Str) = some .globalImplicit := by rfl) (h1 : notStar e1 = true := by rfl) : MF S (.Call (.Name "list" p) [e1] [] pos) (fun ρ => (fs ρ).bind dListL) := fun X G =>
  PE.imp (pe_callTy call_list_of (G.gl hg) (by rw [G.mg]; exact hm) PyProof.Rows.boot_list (ha X G) (by decide) (by decide) (star_cons h1) rfl) fun σ H Q ⟨F, ρ, d, s, ok, e, q⟩ => by
    obtain ⟨ds, h1, e⟩ := Option.bind_eq_some_iff.mp e
    refine ⟨F, ρ, _, s, ok, h1, fun vs F1 H1 x1 r1 => ?_⟩
    unfold dListL at e
    split at e <;> cases e
    · obtain ⟨v, rfl, rv⟩ := r1.one
      cases rv with
      | lst hh rr => exact ⟨_, _, rfl, .inl (SqL.of (x1.s _ _ hh)), fun p hp => q p _ F1 _ (x1.grow (same_new hp)) (Same.none_of x1.h hp) (Same.none_of x1.s hp) upd_same rr⟩
    · obtain ⟨v, rfl, rv⟩ := r1.one
      cases rv with
      | tup hh rr => exact ⟨_, _, rfl, .inr (SqT.of (x1.s _ _ hh)), fun p hp => q p _ F1 _ (x1.grow (same_new hp)) (Same.none_of x1.h hp) (Same.none_of x1.s hp) upd_same rr⟩
    · obtain ⟨v, rfl, rv⟩ := r1.one
      cases rv with
      | tpd hh nd rr => exact ⟨_, _, rfl, .inr (.inl (.inr ⟨_, x1.s _ _ hh⟩)), fun p hp => q p _ F1 _ (x1.grow (same_new hp)) (Same.none_of x1.h hp) (Same.none_of x1.s hp) upd_same rr⟩
    · obtain ⟨v, rfl, rv⟩ := r1.one
      cases rv with
      | ro hh rr => exact ⟨_, _, rfl, .inl (by rw [G.K]; exact x1.s.seq hh), fun p hp => q p _ F1 _ (x1.grow (same_new hp)) (Same.none_of x1.h hp) (Same.none_of x1.s hp) upd_same rr⟩
/-- x = [.. for ..] -/
theorem ms_setLc {spos : Pos} {i : Nat} {x : Str} {elt tg iter : Expr} {ifs : List Expr} {scope : Scope} {it : Env → Option (List D)} {t : D → Env → Option Env} {h : Env → Option Bool} {is : List Nat} {own : List (Str × Nat)} (m : List Bool) (hN : S.N[i]? = some x)
    (hx : S.sc.names.lookup x = some .local) (ha : (scope.names.any fun (n, k) => n == x && (k == .local || k == .cell)) = false) (hi : MI S tg iter it) (hg : MG { S with sc := scope } tg is t) (ht : MTs { S with sc := scope } ifs h) (he : ME { S with sc := scope } elt f)
    (hb : blkC S.N S.sc scope own = true) (hs : is = own.map (·.2) := by rfl) (hn : notSet iter = true := by rfl) (hl : (p.line == pos.line) = true := by rfl) :
    MS S (.Assign [.Name x p] (.ListComp elt [⟨tg, iter, ifs, 0⟩] scope pos) spos) (gOwn i m (fComp (own.map (·.2)) it t h f)) := fun X G O F0 H0 => by
  have hy : X.env.scope.names.lookup x = some .local := by
    obtain ⟨k', h1, h2⟩ := G.sc x _ hx
    rcases h2 with rfl | ⟨z, _⟩
    · exact h1
    · cases z
  refine PS.imp (ps_setLc (i := i) G.calm (by rw [G.N]; exact G.nd) (by rw [G.N]; exact hN) hy (sw_true G.kind hy hl ha) (hi X G) (G.blkOk hb) (fun s H C cl fp => hg _ (G.blk (blkOk_by hb).kind s H C cl fp)) (fun s H C cl fp => ht _ (G.blk (blkOk_by hb).kind s H C cl fp)) (fun s H C cl fp => he _ (G.blk (blkOk_by hb).kind s H C cl fp)) (foldedSet_no hn))
    fun E σ H ⟨F, ρ, o, ok, e, q⟩ => ?_
  obtain ⟨ds, e1, e2⟩ := Option.bind_eq_some_iff.mp e
  cases e2
  obtain ⟨F1, s1, ok1⟩ := ok.frz m
  refine lc_run (fun j hj => by rw [← hs]; exact hj) ⟨F1, _, ds, ok1.ext.s, ok1.env, e1, fun a vs F' H' x n1 n2 hp r => q _ _ _ (ownNew ok1 x rfl n1 n2 ⟨vs, hp, r⟩) (s1.trans x.f)⟩
/-- return, expressions as statements, if -/
def gRet (f : Env → Option D) : Sv → Option Out := fun ρ => (f (view (frzA ρ))).bind fun d => some (.rt d)
theorem ms_ret (he : ME S e f) : MS S (.Return (some e) pos) (gRet f) := fun X G O F0 H0 =>
  PS.imp (ps_ret (he X G)) fun E σ H ⟨F, ρ, o, ok, e, q⟩ => by
    obtain ⟨d, e1, e2⟩ := Option.bind_eq_some_iff.mp e
    cases e2
    obtain ⟨F1, s1, ok1⟩ := ok.frzA
    exact ⟨F1, _, d, ok1.ext.s, ok1.env, e1, fun v F' H' x r => q v F' H' (ok1.ext.trans x) r⟩
def gRetN : Sv → Option Out := fun ρ => some (.rt .non)
theorem ms_retN : MS S (.Return none pos) gRetN := fun X G O F0 H0 =>
  PS.imp ps_retN fun E σ H ⟨F, ρ, o, ok, e, q⟩ => by
    cases e
    exact q _ F H ok.ext .non
def gBreak : Sv → Option Out := fun ρ => some (.bk ρ)
theorem ms_break : MS S (.Break pos) gBreak := fun X G O F0 H0 =>
  PS.imp ps_break fun E σ H ⟨F, ρ, o, ok, e, q⟩ => by
    cases e
    exact q _ F H ok (Same.refl _)
def gCont : Sv → Option Out := fun ρ => some (.ct ρ)
theorem ms_cont : MS S (.Continue pos) gCont := fun X G O F0 H0 =>
  PS.imp ps_continue fun E σ H ⟨F, ρ, o, ok, e, q⟩ => by
    cases e
    exact q _ F H ok (Same.refl _)
theorem ms_pass : MS S (.Pass pos) gSkip := fun X G O F0 H0 =>
  PS.imp ps_pass fun E σ H ⟨F, ρ, o, ok, e, q⟩ => by
    cases e
    exact q _ F H ok (Same.refl _)
def gDrop (m : List Bool) (f : Env → Option D) : Sv → Option Out := fun ρ => (f (view (frz m ρ))).bind fun d => some (.nx (post m d ρ))
theorem ms_drop (m : List Bool) (he : ME S e f) (hn : notComp e = true := by rfl) : MS S (.Expr e pos) (gDrop m f) := fun X G O F0 H0 =>
  PS.imp (ps_expr (he X G) (swaps_no hn)) fun E σ H ⟨F, ρ, o, ok, e, q⟩ => by
    obtain ⟨d, e1, e2⟩ := Option.bind_eq_some_iff.mp e
    cases e2
    exact evS ok e1 fun v F' H' ok' r f => q _ _ _ ok' f
def gIf (m : List Bool) (c : Env → Option Bool) (g h : Sv → Option Out) : Sv → Option Out := fun ρ => (c (view (frz m ρ))).bind fun b => if b = true then g ρ else h ρ
theorem ms_if {c : Expr} {fc : Env → Option Bool} (m : List Bool) (hc : MT S c fc) (h1 : MB S body g) (h2 : MB S body2 h) : MS S (.If c body body2 pos) (gIf m fc g h) := fun X G O F0 H0 =>
  PS.imp (ps_if (hc X G) (h1 X G O F0 H0) (h2 X G O F0 H0)) fun E σ H ⟨F, ρ, o, ok, e, q⟩ => by
    obtain ⟨b, e1, e2⟩ := Option.bind_eq_some_iff.mp e
    refine evT ok e1 fun H' ok' => ?_
    cases b with
    | true =>
      rw [if_pos rfl] at e2 ⊢
      exact ⟨F, ρ, o, ok', e2, q⟩
    | false =>
      rw [if_neg Bool.false_ne_true] at e2 ⊢
      exact ⟨F, ρ, o, ok', e2, q⟩
/-! ### lists that are held: append, insert -/
def Slot.list : Slot → Option (List D)
  | .own xs => some xs
  | _ => none
def getOwn (i : Nat) (ρ : Sv) : Option (List D) := (ρ[i]?).bind Slot.list
theorem getOwn_some {i : Nat} {ρ : Sv} {xs : List D} (h : getOwn i ρ = some xs) : ρ[i]? = some (.own xs) := by
  unfold getOwn at h
  obtain ⟨s, h1, h2⟩ := Option.bind_eq_some_iff.mp h
  cases s <;> simp only [Slot.list] at h2 <;> cases h2
  exact h1
def gApp (i : Nat) (m : List Bool) (f : Env → Option D) : Sv → Option Out := fun ρ => (f (view (frz m ρ))).bind fun d => (getOwn i (post m d ρ)).bind fun xs => if xs.length < sizeLine then some (.nx ((post m d ρ).set i (.own (xs ++ [d])))) else none
def lineOk (a c : Pos) : Bool := a.endLine == c.line
theorem heldAt {K : PySem.W.Frag} {F0 H0 F H : Hp} {σ : St} {ρ : Sv} {i : Nat} {s : Slot} (ok : StOk K F0 H0 F H σ ρ) (h : ρ[i]? = some s) (hs : isOwn s = true) : ∃ a, σ[i]? = some (some (.ref a)) ∧ H0 a = none ∧ F a = none ∧ Held K F H a s := by
  obtain ⟨o, h1, h2⟩ := ok.get i s h
  obtain ⟨a, e, h3⟩ := slotOwn hs h2
  exact ⟨a, by rw [h1, e], h3⟩
theorem post_own {m : List Bool} {d : D} {ρ : Sv} {i : Nat} {s : Slot} (h : (post m d ρ)[i]? = some s) (hs : isOwn s = true) : ρ[i]? = some s := by
  unfold post at h
  split at h
  · exact h
  · have hi : i < ρ.length := by
      have := (List.getElem?_eq_some_iff.mp h).1
      rw [frz_len] at this
      exact this
    rcases frz_get m ρ i _ (List.getElem?_eq_getElem hi) with q | q
    · rw [h] at q
      rw [List.getElem?_eq_getElem hi, ← q]
    · rw [h] at q
      have e : s = (ρ[i]).frz := Option.some.inj q
      rw [e] at hs
      exact absurd hs (by cases ρ[i] <;> simp [Slot.frz, isOwn])
theorem ms_app {i : Nat} {x : Str} {p2 p3 : Pos} (m : List Bool) (hN : S.N[i]? = some x) (hv : visB (S.sc.names.lookup x) = true) (he : ME S e f) (hs : notStar e = true := by rfl) (hl : (p2.endLine == p3.line) = true := by rfl)
    (hd : (x == ("__debug__" : Str)) = false := by decide) (hcd : (x == ("__classdict__" : Str)) = false := by decide) :
    MS S (.Expr (.Call (.Attribute (.Name x p) "append" p2) [e] [] p3) pos) (gApp i m f) := fun X G O F0 H0 =>
  PS.imp (ps_expr (pe_bm PySem.F.plainAttrs_list PySem.F.slot_list_append PySem.F.type_list_append mt_append (pe_var (i := i) (by rw [G.N]; exact hN) (G.vis hv) hd hcd) (pa_cons (he X G) pa_nil (star_one hs)) (hfew := by rw [star_one hs]; rfl) (hline := hl) (hs := star_one hs)) rfl) fun E σ H ⟨F, ρ, o, ok, e, q⟩ => by
    obtain ⟨d, e1, e⟩ := Option.bind_eq_some_iff.mp e
    obtain ⟨xs, e2, e⟩ := Option.bind_eq_some_iff.mp e
    by_cases hz : xs.length < sizeLine
    case neg => rw [if_neg hz] at e; cases e
    rw [if_pos hz] at e
    cases e
    have h2 := getOwn_some e2
    obtain ⟨a, ha, _, _, vs0, hh, _⟩ := heldAt ok (post_own h2 rfl) rfl
    refine ⟨.ref a, ha, .inl ⟨rfl, _, SqL.of hh⟩, evS ok e1 fun v F' H' ok' r f => ?_⟩
    obtain ⟨a', ha', _, _, vs, hh', rr⟩ := heldAt ok' h2 rfl
    rw [ha] at ha'
    cases ha'
    refine ⟨a, vs, v, rfl, rfl, hh', by rw [rr.length]; exact hz, ?_⟩
    exact q _ _ _ (ok'.put (s := .own xs) (s' := .own (xs ++ [d])) rfl rfl h2 ha ⟨_, upd_same, rr.append (.cons r .nil)⟩) f
/-- x.insert(k, e): k reckoned first, an int, then e -/
def gIns (i : Nat) (m : List Bool) (f1 f2 : Env → Option D) : Sv → Option Out := fun ρ => (f1 (view (frz m ρ))).bind fun k => match k with
  | .int k => (f2 (view (frz m ρ))).bind fun d => (getOwn i (post m d ρ)).bind fun xs => if xs.length < sizeLine ∧ 0 ≤ k ∧ k < 2 ^ 63 then some (.nx ((post m d ρ).set i (.own (xs.take k.toNat ++ [d] ++ xs.drop k.toNat)))) else none
  | _ => none
theorem ms_ins {i : Nat} {x : Str} {e2 : Expr} {f2 : Env → Option D} {p2 p3 : Pos} (m : List Bool) (hN : S.N[i]? = some x) (hv : visB (S.sc.names.lookup x) = true) (he : ME S e f) (he2 : ME S e2 f2) (hs : notStar e = true := by rfl) (hs2 : notStar e2 = true := by rfl) (hl : (p2.endLine == p3.line) = true := by rfl)
    (hd : (x == ("__debug__" : Str)) = false := by decide) (hcd : (x == ("__classdict__" : Str)) = false := by decide) :
    MS S (.Expr (.Call (.Attribute (.Name x p) "insert" p2) [e, e2] [] p3) pos) (gIns i m f f2) := fun X G O F0 H0 =>
  PS.imp (ps_expr (pe_bm PySem.F.plainAttrs_list PySem.F.slot_list_insert PySem.F.type_list_insert mt_insert (pe_var (i := i) (by rw [G.N]; exact hN) (G.vis hv) hd hcd) (pa_cons (he X G) (pa_cons (he2 X G) pa_nil (star_one hs2)) (star_cons hs)) (hfew := by rw [star_cons hs, star_one hs2]; rfl) (hline := hl) (hs := star_cons hs) (hplain := by rw [star_one hs2]; rfl)) rfl) fun E σ H ⟨F, ρ, o, ok, e, q⟩ => by
    obtain ⟨dk, e0, e⟩ := Option.bind_eq_some_iff.mp e
    cases dk <;> try (cases e; done)
    rename_i k
    obtain ⟨d, e1, e⟩ := Option.bind_eq_some_iff.mp e
    obtain ⟨xs, e2, e⟩ := Option.bind_eq_some_iff.mp e
    by_cases hz : xs.length < sizeLine ∧ 0 ≤ k ∧ k < 2 ^ 63
    case neg => rw [if_neg hz] at e; cases e
    rw [if_pos hz] at e
    cases e
    have h2 := getOwn_some e2
    obtain ⟨a, ha, _, _, vs0, hh, _⟩ := heldAt ok (post_own h2 rfl) rfl
    refine ⟨.ref a, ha, .inl ⟨rfl, _, SqL.of hh⟩, evS ok e0 fun vk F1 H1 ok1 rk f1 => ?_⟩
    cases rk
    have ok1 : StOk S.K F0 H0 F1 H1 σ ρ := ok1
    refine evS ok1 e1 fun v F' H' ok' r f => ?_
    obtain ⟨a', ha', _, _, vs, hh', rr⟩ := heldAt ok' h2 rfl
    rw [ha] at ha'
    cases ha'
    refine ⟨a, vs, k, v, rfl, rfl, hh', by rw [rr.length]; exact hz.1, hz.2.1, hz.2.2, ?_⟩
    exact q _ _ _ (ok'.put (s := .own xs) (s' := .own (xs.take k.toNat ++ [d] ++ xs.drop k.toNat)) rfl rfl h2 ha ⟨_, upd_same, ((rr.take _).append (.cons r .nil)).append (rr.drop _)⟩) (f1.trans f)

/-! ### targets of a def's own -/
def MGs (S : Static) (tg : Expr) (t : D → Sv → Option Sv) : Prop := ∀ X, Good S X → ∀ F0 H0, PG X tg (fun v σ H Q => ∃ F ρ d ρ', StOk S.K F0 H0 F H σ ρ ∧ Rep S.K F v d ∧ t d ρ = some ρ' ∧ ∀ σ', StOk S.K F0 H0 F H σ' ρ' → Q σ' H)
def sN (i : Nat) : D → Sv → Option Sv := fun d ρ => some (ρ.set i (.val d))
def sNs : List Nat → List D → Sv → Option Sv
  | [], [], ρ => some ρ
  | i :: is, d :: ds, ρ => sNs is ds (ρ.set i (.val d))
  | _, _, _ => none
def sT (is : List Nat) : D → Sv → Option Sv
  | .tup ds, ρ => sNs is ds ρ
  | _, _ => none
theorem mgs_name {i : Nat} {x : Str} (hN : S.N[i]? = some x) (hx : locB (S.sc.names.lookup x) = true) : MGs S (.Name x pos) (sN i) := fun X G F0 H0 =>
  PG.imp (pg_name (by rw [G.N]; exact G.nd) (by rw [G.N]; exact hN) (G.loc hx).1 (G.loc hx).2) fun v σ H Q ⟨F, ρ, d, ρ', ok, r, e, q⟩ => by
    cases e
    exact q _ (ok.set i r)
theorem gsAll_runS {K : PySem.W.Frag} {F0 H0 F : Hp} : ∀ {is : List Nat} {vs : List V} {ds : List D} {σ : St} {ρ ρ' : Sv} {H : Hp} {Q : St → Hp → Prop}, Reps K F vs ds → StOk K F0 H0 F H σ ρ → sNs is ds ρ = some ρ' → (∀ σ', StOk K F0 H0 F H σ' ρ' → Q σ' H) → gsAll is vs σ H Q
  | [], _, _, _, _, _, _, _, .nil, ok, e, q => by
    cases e
    exact ⟨rfl, q _ ok⟩
  | i :: is, _, _, _, _, _, _, _, .cons h r, ok, e, q => ⟨_, _, rfl, gsAll_runS r (ok.set i h) e q⟩
  | [], _, _, _, _, _, _, _, .cons _ _, _, e, _ => by cases e
  | _ :: _, _, _, _, _, _, _, _, .nil, _, e, _ => by cases e
theorem sNs_len : ∀ {is : List Nat} {ds : List D} {ρ ρ' : Sv}, sNs is ds ρ = some ρ' → ds.length = is.length
  | [], [], _, _, _ => rfl
  | _ :: is, _ :: ds, _, _, e => congrArg (· + 1) (sNs_len e)
  | [], _ :: _, _, _, e => by cases e
  | _ :: _, [], _, _, e => by cases e
theorem mgs_tup {es : List Expr} {is : List Nat} {k : Nat} (h : NamesAt S es is) : MGs S (.Tuple es k pos) (sT is) := fun X G F0 H0 =>
  PG.imp (pg_tup G.calm (h.pgs G) h.len h.nost) fun v σ H Q ⟨F, ρ, d, ρ', ok, r, e, q⟩ => by
    cases r <;> simp only [sT] at e <;> try (cases e; done)
    case tup a xs ds hh rr yy =>
      refine ⟨a, xs, rfl, by rw [G.K]; exact SqT.of (ok.ext.s _ _ hh), ?_, gsAll_runS rr ok e q⟩
      rw [rr.length]
      exact sNs_len e
/-- a, b, .. = e -/
def gAsg (m : List Bool) (t : D → Sv → Option Sv) (f : Env → Option D) : Sv → Option Out := fun ρ => (f (view (frz m ρ))).bind fun d => (t d (post m d ρ)).bind fun ρ' => some (.nx ρ')
def notTup : Expr → Bool
  | .Tuple .. => false
  | _ => true
theorem ms_asg {es : List Expr} {k : Nat} {t : D → Sv → Option Sv} (m : List Bool) (hg : MGs S (.Tuple es k p) t) (he : ME S e f) (hn : notComp e = true := by rfl) (hn2 : notTup e = true := by rfl) : MS S (.Assign [.Tuple es k p] e pos) (gAsg m t f) := fun X G O F0 H0 =>
  PS.imp (ps_asg (he X G) (hg X G F0 H0) (by show swapsWith e (some (.Tuple es k p)) pos.line X.env = pure false; exact swaps_no hn) (by cases e <;> first | rfl | (cases hn2; done)) rfl) fun E σ H ⟨F, ρ, o, ok, e, q⟩ => by
    obtain ⟨d, e1, e2⟩ := Option.bind_eq_some_iff.mp e
    obtain ⟨ρ', e3, e4⟩ := Option.bind_eq_some_iff.mp e2
    cases e4
    exact evS ok e1 fun v F' H' ok' r f => ⟨F', _, d, ρ', ok', r, e3, fun σ' ok2 => q _ _ _ ok2 f⟩

/-! ### loops -/
def loopG (t : D → Sv → Option Sv) (body : Sv → Option Out) : List D → Sv → Option Out
  | [], ρ => some (.nx ρ)
  | x :: xs, ρ => (t x ρ).bind fun ρ1 => (body ρ1).bind fun o => match o with
    | .nx ρ2 => loopG t body xs ρ2
    | .ct ρ2 => loopG t body xs ρ2
    | .bk ρ2 => some (.nx ρ2)
    | .rt d => some (.rt d)
def gFor (m : List Bool) (it : Env → Option (List D)) (t : D → Sv → Option Sv) (body : Sv → Option Out) : Sv → Option Out := fun ρ => (it (view (frz m ρ))).bind fun xs => loopG t body xs (frz m ρ)
theorem ms_for {iter : Expr} {it : Env → Option (List D)} {t : D → Sv → Option Sv} (m : List Bool) (hi : MI S tg iter it) (hg : MGs S tg t) (hb : MB S body g) (hn : notSet iter = true := by rfl) : MS S (.For tg iter body [] pos) (gFor m it t g) := fun X G O F0 H0 =>
  PS.imp (ps_for O G.calm (hi X G) (hg X G F0 H0) (hb X G O F0 H0) (foldedSet_no hn)) fun E σ H ⟨F, ρ, o, ok, e, q⟩ => by
    obtain ⟨xs, e1, e2⟩ := Option.bind_eq_some_iff.mp e
    obtain ⟨F1, s1, ok1⟩ := ok.frz m
    refine ⟨F1, _, xs, ok1.ext.s, ok1.env, e1, fun F2 H2 J x2 y => ?_⟩
    refine ⟨fun i n σ H => n + i = xs.length ∧ ∃ Fc ρc, StOk S.K F0 H0 Fc H σ ρc ∧ Same F2 Fc ∧ loopG t g (xs.drop i) ρc = some o, ⟨xs.length, rfl, F2, _, ok1.next x2, Same.refl _, e2⟩, ?_⟩
    rintro i n σc Hc ⟨hn, Fc, ρc, okc, sc, el⟩
    by_cases hi : i < xs.length
    · refine .inr ⟨y.go i Hc (sc.trans okc.ext.s) hi, fun σ H => ∃ n', n' + (i + 1) = xs.length ∧ ∃ Fc ρc, StOk S.K F0 H0 Fc H σ ρc ∧ Same F2 Fc ∧ loopG t g (xs.drop (i + 1)) ρc = some o, fun σ' H' ⟨n', h1, h2⟩ => ⟨n', by omega, h1, h2⟩, fun x Hy hy => ?_⟩
      have hd : xs[i]? = some xs[i] := List.getElem?_eq_getElem hi
      obtain ⟨sy, k⟩ := y.yld i Hc x Hy _ (sc.trans okc.ext.s) hd hy
      obtain ⟨F3, x3, rx⟩ := k Fc sc okc.ext.s
      rw [List.drop_eq_getElem_cons hi] at el
      unfold loopG at el
      obtain ⟨ρ1, et, el⟩ := Option.bind_eq_some_iff.mp el
      obtain ⟨o1, eb, el⟩ := Option.bind_eq_some_iff.mp el
      refine ⟨F3, ρc, _, ρ1, okc.next x3, rx, et, fun σ' ok3 => ⟨F3, ρ1, o1, ok3, eb, ?_⟩⟩
      have sf : Same F2 F3 := sc.trans x3.f
      cases o1 with
      | nx ρ2 => exact fun σ4 F4 H4 ok4 f4 => ⟨n - 1, by omega, F4, ρ2, ok4, sf.trans f4, el⟩
      | ct ρ2 => exact fun σ4 F4 H4 ok4 f4 => ⟨n - 1, by omega, F4, ρ2, ok4, sf.trans f4, el⟩
      | bk ρ2 =>
        cases el
        exact fun σ4 F4 H4 ok4 f4 => q σ4 F4 H4 ok4 (s1.trans (x2.f.trans (sf.trans f4)))
      | rt d =>
        cases el
        exact q
    · have ei : i = xs.length := by omega
      subst ei
      rw [List.drop_length] at el
      have el : some (Out.nx ρc) = some o := el
      cases el
      exact .inl ⟨y.stop _ Hc (sc.trans okc.ext.s) rfl, q _ _ _ okc (s1.trans (x2.f.trans sc))⟩
/-- while, with fuel -/
def whileG (m : List Bool) (c : Env → Option Bool) (body : Sv → Option Out) : Nat → Sv → Option Out
  | 0, _ => none
  | n + 1, ρ => (c (view (frz m ρ))).bind fun b => if b = true then (body ρ).bind fun o => match o with
    | .nx ρ2 => whileG m c body n ρ2
    | .ct ρ2 => whileG m c body n ρ2
    | .bk ρ2 => some (.nx ρ2)
    | .rt d => some (.rt d) else some (.nx ρ)
def gWhile (n : Nat) (m : List Bool) (c : Env → Option Bool) (body : Sv → Option Out) : Sv → Option Out := fun ρ => whileG m c body n ρ
theorem ms_while {c : Expr} {fc : Env → Option Bool} (n : Nat) (m : List Bool) (hc : MT S c fc) (hb : MB S body g) : MS S (.While c body [] pos) (gWhile n m fc g) := fun X G O F0 H0 =>
  PS.imp (ps_while O (hc X G) (hb X G O F0 H0)) fun E σ H ⟨F, ρ, o, ok, e, q⟩ => by
    refine ⟨fun k σ H => ∃ Fc ρc, StOk S.K F0 H0 Fc H σ ρc ∧ Same F Fc ∧ whileG m fc g k ρc = some o, ⟨n, F, ρ, ok, Same.refl _, e⟩, ?_⟩
    rintro k σc Hc ⟨Fc, ρc, okc, sc, el⟩
    cases k with
    | zero => cases el
    | succ k =>
      unfold whileG at el
      obtain ⟨b, e1, el⟩ := Option.bind_eq_some_iff.mp el
      refine evT okc e1 fun H' ok' => ?_
      cases b with
      | false =>
        rw [if_neg Bool.false_ne_true] at el ⊢
        cases el
        exact q _ _ _ ok' sc
      | true =>
        rw [if_pos rfl] at el ⊢
        obtain ⟨o1, eb, el⟩ := Option.bind_eq_some_iff.mp el
        refine ⟨fun σ H => ∃ Fc ρc, StOk S.K F0 H0 Fc H σ ρc ∧ Same F Fc ∧ whileG m fc g k ρc = some o, fun σ' H' h => ⟨k, Nat.lt_succ_self _, h⟩, Fc, ρc, o1, ok', eb, ?_⟩
        cases o1 with
        | nx ρ2 => exact fun σ4 F4 H4 ok4 f4 => ⟨F4, ρ2, ok4, sc.trans f4, el⟩
        | ct ρ2 => exact fun σ4 F4 H4 ok4 f4 => ⟨F4, ρ2, ok4, sc.trans f4, el⟩
        | bk ρ2 =>
          cases el
          exact fun σ4 F4 H4 ok4 f4 => q σ4 F4 H4 ok4 (sc.trans f4)
        | rt d =>
          cases el
          exact q
end

/-! ### a def -/
/-- what a def is: its body run over its arguments -/
def startS (n : Nat) (ds : List D) : Sv := ds.map .val ++ List.replicate (n - ds.length) .non
def runD (n : Nat) (g : Sv → Option Out) : List D → Option D := fun ds => (g (startS n ds)).bind fun o => match o with
  | .rt d => some d
  | .nx _ => some .non
  | _ => none
theorem startS_get {K : PySem.W.Frag} {F : Hp} {N : List Str} : ∀ {vs : List V} {ds : List D}, Reps K F vs ds → ∀ (m i : Nat) (s : Slot), (ds.map Slot.val ++ List.replicate m .non)[i]? = some s → ∃ o, (vs.map some ++ List.replicate m none)[i]? = some o ∧ (s = .non ∨ ∃ d v, s = .val d ∧ o = some v ∧ Rep K F v d)
  | _, _, .nil, m, i, s, h => by
    have h : (List.replicate m Slot.non)[i]? = some s := h
    rw [List.getElem?_replicate] at h
    split at h
    · cases h
      rename_i hi
      exact ⟨none, by show (List.replicate m none)[i]? = _; rw [List.getElem?_replicate, if_pos hi], .inl rfl⟩
    · cases h
  | _, _, .cons (v := v) (d := d) hh r, m, 0, s, h => by
    have e : Slot.val d = s := Option.some.inj h
    subst e
    exact ⟨some v, rfl, .inr ⟨d, v, rfl, rfl, hh⟩⟩
  | _, _, .cons hh r, m, i + 1, s, h => startS_get (N := N) r m i s h
theorem startS_own (n : Nat) (ds : List D) (i : Nat) (s : Slot) (h : (startS n ds)[i]? = some s) : isOwn s = false := by
  have hm := List.mem_of_getElem? h
  unfold startS at hm
  rcases List.mem_append.mp hm with hm | hm
  · obtain ⟨d, _, rfl⟩ := List.mem_map.mp hm
    rfl
  · rw [(List.mem_replicate.mp hm).2]
    rfl
section
variable {C : Ctx} {k : Nat} {N ps : List Str} {x qual : Str} {st : Stmt} {f : Addr} {fd : FuncData} {g : Sv → Option Out}
abbrev stOf (C : Ctx) (N : List Str) (st : Stmt) (k : Nat) : Static := { C with N := N, sc := defScope st, k := k }
theorem def_fn (F : Fun C.K x qual st f fd) (sc : FnScope N ps (defScope st)) (hb : MB (stOf C N st k) (defBody st) g) : FnOk C.P C.w C.K C.mg C.base CX0 (k + 1) f fd ps (spD C.K ps.length (runD N.length g)) := by
  refine F.ok sc (fun vs H Q E h => h.1) (fun cdv A outer s H vs Q E hr h => ?_)
  obtain ⟨hl, F0, ds, d, sm, rs, e, q⟩ := h
  have G : Good (stOf C N st k) (cxOf CX0 C.P C.w C.K C.mg C.base N qual (defScope st) f cdv A outer s H E).nox :=
    ⟨rfl, rfl, rfl, rfl, rfl, rfl, sc.nd, fun x k h => ⟨k, h, .inl rfl⟩, rfl, hr, fun _ _ => rfl, sc.kind⟩
  refine ⟨_, hb _ G PassesOwn.never F0 H, ?_⟩
  obtain ⟨o, e1, e2⟩ := Option.bind_eq_some_iff.mp e
  refine ⟨F0, _, o, ⟨Ext.refl sm, ?_, fun i s hs => ?_, fun i j s t a hij h1 h2 => ?_⟩, e1, ?_⟩
  · unfold L2.start startS
    rw [List.length_append, List.length_append, List.length_map, List.length_map, List.length_replicate, List.length_replicate, rs.length]
  · unfold startS at hs
    unfold L2.start
    rw [rs.length]
    obtain ⟨o, g1, g2⟩ := startS_get (N := N) rs _ i s hs
    refine ⟨o, g1, ?_⟩
    rcases g2 with rfl | ⟨d, v, rfl, rfl, r⟩
    · trivial
    · exact ⟨v, rfl, r⟩
  · rw [startS_own _ _ _ _ h1] at h2
    cases h2
  · cases o with
    | nx ρ =>
      cases e2
      exact fun σ F' H' ok _ => q _ F' H' ok.ext .non
    | rt d =>
      cases e2
      exact fun v F' H' x r => q v F' H' x r
    | bk _ => cases e2
    | ct _ => cases e2
/-- a def of the text as callers have it -/
theorem def_mk (F : Fun C.K x qual st f fd) (sc : FnScope N ps (defScope st)) (hb : MB (stOf C N st k) (defBody st) g) (hm : C.mg x = some (.ref f)) (bi : Binds C.K fd ps []) {n : Nat} (hn : ps.length = n := by rfl) {l : Nat} (hl : N.length = l := by rfl) : Def C (k + 1) x n (runD l g) := by
  subst hn
  subst hl
  exact ⟨f, fd, ps, def_fn F sc hb, hm, F.kp, bi⟩
/-- another function that agrees where it is asked -/
theorem Def.imp {n : Nat} {m m' : List D → Option D} (d : Def C k x n m) (h : ∀ ds r, ds.length = n → m' ds = some r → m ds = some r) : Def C k x n m' := by
  obtain ⟨f, fd, ps, F, r⟩ := d.ex
  exact ⟨f, fd, ps, F.imp fun vs H Q E ⟨hl, F0, ds, d, sm, rs, e, q⟩ => ⟨hl, F0, ds, d, sm, rs, h ds d (by rw [← rs.length]; exact hl) e, q⟩, r⟩
end
end VM
/-! VM5 -/
namespace VM
open PySem PySem.Spec PyProof.Rows L2

section
variable {S : Static} {e a b c : Expr} {es rest : List Expr} {pos p p2 : Pos} {f fa fb fc : Env → Option D} {m : List Bool}
/-! ### is, isinstance -/
def dIs : D → D → Option D
  | .bl x, .bl y => some (.bl (decide (x = y)))
  | _, _ => none
def dIsNot : D → D → Option D
  | .bl x, .bl y => some (.bl (!decide (x = y)))
  | _, _ => none
theorem opD_is {X : Cx} : OpR X (compareOp .Is) (rD2 X.K dIs) := by
  intro pins s σ H x y v u Q I rx ry h
  obtain ⟨F, dx, dy, d, sm, h1, h2, e, q⟩ := h
  cases h1 <;> cases h2 <;> simp only [dIs] at e <;> cases e
  exact op_isBl pins s σ H _ _ v u Q I rx ry ⟨_, _, rfl, rfl, q _ F H (Ext.refl sm) (.bl _)⟩
theorem me_is (ha : ME S a fa) (hb : ME S b fb) : ME S (.Compare a [.Is] [b] pos) (f2 dIs fa fb) :=
  me_cmp (fun X G => G.K ▸ opD_is) (nomark _) ha hb
def tyD : D → Option String
  | .non => some "NoneType"
  | .bl _ => some "bool"
  | .int _ => some "int"
  | .str _ => some "str"
  | .tup _ => some "tuple"
  | .tpd _ => some "tuple"
  | .lst _ => some "list"
  | .dK _ => some "dict"
  | .dT _ => some "dict"
  | _ => none
theorem tyD_ok {K : PySem.W.Frag} {F H : Hp} {v : V} {d : D} {T : String} (sm : Same F H) (r : Rep K F v d) (h : tyD d = some T) : TyX K H v (.type T) := by
  cases r <;> simp only [tyD] at h <;> cases h
  · exact .base .non
  · exact .base (.bl _)
  · exact .base (.int _)
  · exact .base (.str _)
  · rename_i hh _
    exact .base (.tup (sm _ _ hh))
  · rename_i hh _
    exact .base (.lst (sm _ _ hh))
  · rename_i hh _ _
    exact .fTuple (sm _ _ hh)
  · rename_i hh _
    exact .base (.dK (sm _ _ hh))
  · rename_i hh _
    exact .base (.dT (sm _ _ hh))
def dIsi (T : String) : D → Option D := fun d => (tyD d).bind fun t => (kitB t T).map .bl
theorem me_isi {x : Str} {T : String} (hi : S.mg "isinstance" = none) (hm : S.mg x = none) (ha : ME S a fa) (hg : S.sc.names.lookup ("isinstance" : Str) = some .globalImplicit) (hg2 : S.sc.names.lookup x = some .globalImplicit) (hv : bootBuiltins x = some (.type T))
    (hn : x ≠ "__name__" := by decide) (hdb : (x == ("__debug__" : Str)) = false := by decide) (h1 : notStar a = true := by rfl) : ME S (.Call (.Name "isinstance" p) [a, .Name x p2] [] pos) (f1 (dIsi T) fa) := fun X G =>
  PE.imp (pe_callB call_isi (G.gl hg) (by rw [G.mg]; exact hi) PyProof.Rows.boot_isinstance (pa_cons (ha X G) (pa_cons (pe_bltn (v := .ty T) (G.gl hg2) (by rw [G.mg]; exact hm) hv rfl hn hdb) pa_nil) (star_cons h1)) (by decide) (by decide) (star_cons h1)) fun σ H Q h => by
    obtain ⟨F, ρ, d, s, ok, h1, k⟩ := one h
    refine ⟨F, ρ, d, s, ok, h1, fun v F1 H1 x1 r1 => ?_⟩
    obtain ⟨F2, dx, d2, s2, r2, e2, q⟩ := k v F1 H1 x1 r1
    obtain ⟨t, ht, e3⟩ := Option.bind_eq_some_iff.mp e2
    obtain ⟨bb, hb, rfl⟩ := Option.map_eq_some_iff.mp e3
    exact ⟨v, .ty T, .type t, .type T, bb, rfl, .ty T, by rw [G.K]; exact tyD_ok s2 r2 ht, kit_ty hb, q _ F2 H1 (Ext.refl s2) (.bl _)⟩

/-! ### targets that take lists apart, too -/
def eTL (is : List Nat) : D → Env → Option Env
  | .tpd ds, ρ => eNs is ds ρ
  | .tup ds, ρ => eNs is ds ρ
  | .lst ds, ρ => eNs is ds ρ
  | _, _ => none
theorem mg_seq {es : List Expr} {is : List Nat} {k : Nat} (h : NamesAt S es is) : MG S (.Tuple es k pos) is (eTL is) := fun X G =>
  ⟨fun pins s σ H v u Q I r ⟨F, ρ, d, ρ', sm, ok, rp, e, q⟩ => by
    cases rp <;> simp only [eTL] at e <;> try (cases e; done)
    case tup a xs ds hh rr yy =>
      exact (mg_tup h X G).run pins s σ H _ u Q I r ⟨F, ρ, _, ρ', sm, ok, .tup hh rr, e, q⟩
    case tpd a ob xs ds hh nd rr yy =>
      exact (pg_tup G.calm (h.pgs G) h.len h.nost).run pins s σ H _ u Q I r ⟨a, xs, rfl, .inl (.inr ⟨_, sm _ _ hh⟩), by rw [rr.length]; exact eNs_len e, gsAll_run rr ok (Touch.refl _ _) (fun _ h => h) e q⟩
    case lst a xs ds hh rr yy =>
      exact (pg_unl G.calm (h.pgs G) h.len h.nost).run pins s σ H _ u Q I r ⟨a, xs, rfl, SqL.of (sm _ _ hh), by rw [rr.length]; exact eNs_len e, gsAll_run rr ok (Touch.refl _ _) (fun _ h => h) e q⟩⟩
def sTL (is : List Nat) : D → Sv → Option Sv
  | .tpd ds, ρ => sNs is ds ρ
  | .tup ds, ρ => sNs is ds ρ
  | .lst ds, ρ => sNs is ds ρ
  | _, _ => none
theorem mgs_seq {es : List Expr} {is : List Nat} {k : Nat} (h : NamesAt S es is) : MGs S (.Tuple es k pos) (sTL is) := fun X G F0 H0 =>
  ⟨fun pins s σ H v u Q I r ⟨F, ρ, d, ρ', ok, rp, e, q⟩ => by
    cases rp <;> simp only [sTL] at e <;> try (cases e; done)
    case tup a xs ds hh rr yy =>
      exact (mgs_tup h X G F0 H0).run pins s σ H _ u Q I r ⟨F, ρ, _, ρ', ok, .tup hh rr, e, q⟩
    case tpd a ob xs ds hh nd rr yy =>
      exact (pg_tup G.calm (h.pgs G) h.len h.nost).run pins s σ H _ u Q I r ⟨a, xs, rfl, .inl (.inr ⟨_, ok.ext.s _ _ hh⟩), by rw [rr.length]; exact sNs_len e, gsAll_runS rr ok e q⟩
    case lst a xs ds hh rr yy =>
      exact (pg_unl G.calm (h.pgs G) h.len h.nost).run pins s σ H _ u Q I r ⟨a, xs, rfl, by rw [G.K]; exact SqL.of (ok.ext.s _ _ hh), by rw [rr.length]; exact sNs_len e, gsAll_runS rr ok e q⟩⟩

/-! ### dicts -/
section
variable {κ : Type} [DecidableEq κ]
def valD (kvs : List (κ × D)) (k : κ) : Option D := (kvs.find? fun kv => decide (kv.1 = k)).map (·.2)
def putD (kvs : List (κ × D)) (k : κ) (v : D) : List (κ × D) :=
  if (kvs.any fun kv => decide (kv.1 = k)) = true then kvs.map (fun kv => if kv.1 = k then (kv.1, v) else kv) else kvs ++ [(k, v)]
variable {K : PySem.W.Frag} {F : Hp}
theorem RepP.any : ∀ {vs : List (κ × V)} {ds : List (κ × D)}, RepP K F vs ds → ∀ k : κ, (vs.any fun kv => decide (kv.1 = k)) = (ds.any fun kv => decide (kv.1 = k))
  | _, _, .nil, _ => rfl
  | _, _, .cons _ r, k => by rw [List.any_cons, List.any_cons, RepP.any r k]
theorem RepP.val : ∀ {vs : List (κ × V)} {ds : List (κ × D)}, RepP K F vs ds → ∀ (k : κ), (∀ d, valD ds k = some d → ∃ v, valV vs k = some v ∧ Rep K F v d) ∧ (valD ds k = none → valV vs k = none)
  | _, _, .nil, k => ⟨fun d h => (by cases h), fun _ => rfl⟩
  | _, _, .cons (k := k0) h r, k => by
    have ih := RepP.val r k
    by_cases e : k0 = k
    · refine ⟨fun d hd => ?_, fun hd => ?_⟩
      · unfold valD at hd
        rw [List.find?_cons_of_pos (by simpa using e)] at hd
        cases hd
        exact ⟨_, valV_pos e, h⟩
      · unfold valD at hd
        rw [List.find?_cons_of_pos (by simpa using e)] at hd
        cases hd
    · have hv : ∀ {x : V} {rs : List (κ × V)}, valV ((k0, x) :: rs) k = valV rs k := fun {x rs} => valV_neg e
      refine ⟨fun d hd => ?_, fun hd => ?_⟩
      · unfold valD at hd
        rw [List.find?_cons_of_neg (by simpa using e)] at hd
        rw [hv]
        exact ih.1 d hd
      · unfold valD at hd
        rw [List.find?_cons_of_neg (by simpa using e)] at hd
        rw [hv]
        exact ih.2 hd
theorem RepP.mapPut {v : V} {d : D} (h : Rep K F v d) (k : κ) : ∀ {vs : List (κ × V)} {ds : List (κ × D)}, RepP K F vs ds → RepP K F (vs.map fun kv => if kv.1 = k then (kv.1, v) else kv) (ds.map fun kv => if kv.1 = k then (kv.1, d) else kv)
  | _, _, .nil => .nil
  | _, _, .cons (k := k0) hh r => by
    rw [List.map_cons, List.map_cons]
    dsimp only
    by_cases e : k0 = k
    · rw [if_pos e, if_pos e]
      exact .cons h (RepP.mapPut h k r)
    · rw [if_neg e, if_neg e]
      exact .cons hh (RepP.mapPut h k r)
theorem RepP.append : ∀ {vs ws : List (κ × V)} {ds es : List (κ × D)}, RepP K F vs ds → RepP K F ws es → RepP K F (vs ++ ws) (ds ++ es)
  | _, _, _, _, .nil, q => q
  | _, _, _, _, .cons h r, q => .cons h (RepP.append r q)
theorem RepP.put {vs : List (κ × V)} {ds : List (κ × D)} (r : RepP K F vs ds) (k : κ) {v : V} {d : D} (h : Rep K F v d) : RepP K F (putK vs k v) (putD ds k d) := by
  unfold putK putD
  rw [r.any k]
  split
  · exact r.mapPut h k
  · exact r.append (.cons h .nil)
theorem putD_len (kvs : List (κ × D)) (k : κ) (v : D) : (putD kvs k v).length ≤ kvs.length + 1 := by
  unfold putD
  split
  · rw [List.length_map]; omega
  · rw [List.length_append, List.length_singleton]; omega
end
def toKey : D → Option Key
  | .int i => some (.inl i)
  | .str x => some (.inr x)
  | _ => none
theorem toKey_ok {K : PySem.W.Frag} {F : Hp} {v : V} {d : D} {k : Key} (r : Rep K F v d) (h : toKey d = some k) : v = kV k := by
  cases r <;> simp only [toKey] at h <;> cases h <;> rfl
def toKeys : List D → Option (List Key)
  | [] => some []
  | d :: ds => (toKey d).bind fun k => (toKeys ds).bind fun ks => some (k :: ks)
theorem toKeys_ok {K : PySem.W.Frag} {F : Hp} : ∀ {vs : List V} {ds : List D} {ks : List Key}, Reps K F vs ds → toKeys ds = some ks → vs = ks.map kV
  | _, _, _, .nil, e => by cases e; rfl
  | _, _, _, .cons h r, e => by
    obtain ⟨k, h1, e⟩ := Option.bind_eq_some_iff.mp e
    obtain ⟨ks, h2, e⟩ := Option.bind_eq_some_iff.mp e
    cases e
    rw [List.map_cons, toKey_ok h h1, toKeys_ok r h2]
/-- d[k] -/
def dGetI : D → D → Option D
  | .dK kvs, k => (toKey k).bind fun k => valD kvs k
  | .dT kvs, .tup ks => (toKeys ks).bind fun k => valD kvs k
  | _, _ => none
theorem getD_ok {K : PySem.W.Frag} {F H : Hp} {x y : V} {dx dy d : D} (sm : Same F H) (h1 : Rep K F x dx) (h2 : Rep K F y dy) (e : dGetI dx dy = some d) : ∃ a v, x = .ref a ∧ DGet H a y (some v) ∧ Rep K F v d := by
  cases h1 <;> simp only [dGetI] at e <;> try (cases e; done)
  case dK hh rr =>
    obtain ⟨k, hk, e⟩ := Option.bind_eq_some_iff.mp e
    obtain ⟨v, hv, rv⟩ := (rr.val k).1 d e
    refine ⟨_, v, rfl, ?_, rv⟩
    rw [toKey_ok h2 hk, ← hv]
    exact DGet.k (sm _ _ hh)
  case dT hh rr =>
    cases h2 <;> simp only [dGetI] at e <;> try (cases e; done)
    rename_i hb rb
    obtain ⟨k, hk, e⟩ := Option.bind_eq_some_iff.mp e
    obtain ⟨v, hv, rv⟩ := (rr.val k).1 d e
    refine ⟨_, v, rfl, ?_, rv⟩
    rw [← hv]
    refine DGet.t (sm _ _ hh) ?_
    rw [← toKeys_ok rb hk]
    exact sm _ _ hb
theorem noSl {b : Expr} (h : notSlice b = true) : NoSl b := by
  intro o i
  cases b <;> first | rfl | (cases h; done)
theorem me_dget (ha : ME S a fa) (hb : ME S b fb) (hs : notSlice b = true := by rfl) : ME S (.Subscript a b pos) (f2 dGetI fa fb) := fun X G =>
  PE.imp (pe_dget (by have := G.units; omega) (ha X G) (hb X G) (noSl hs)) fun σ H Q h => by
    obtain ⟨F, ρ, d, s, ok, h1, k⟩ := two h
    refine ⟨F, ρ, d, s, ok, h1, fun v F1 H1 x1 r1 => ?_⟩
    obtain ⟨F1', ρ', d', s', ok', h1', k'⟩ := k v F1 H1 x1 r1
    refine ⟨F1', ρ', d', s', ok', h1', fun u F2 H2 x2 r2 => ?_⟩
    obtain ⟨F3, dx, dy, dd, s3, r3, r4, e, q⟩ := k' u F2 H2 x2 r2
    obtain ⟨a, w, rfl, g, rw'⟩ := getD_ok s3 r3 r4 e
    exact ⟨a, w, rfl, g, q _ F3 H2 (Ext.refl s3) rw'⟩

/-! ### {k: v for ..} -/
/-- an expression that gives a NEW dict of ints and texts -/
def tFrD (K : PySem.W.Frag) (f : Env → Option (List (Key × D))) : TE := fun σ H Q => ∃ F ρ ds, Same F H ∧ EnvOk K F σ ρ ∧ f ρ = some ds ∧ ∀ p vs F' H', Ext F H F' H' → H p = none → F' p = none → H' p = some (.dK vs) → RepP K F' vs ds → Q (.ref p) H'
def MFD (S : Static) (e : Expr) (f : Env → Option (List (Key × D))) : Prop := ∀ X, Good S X → PE X e (tFrD S.K f)
def fD (f : Env → Option (List (Key × D))) : Env → Option D := fun ρ => (f ρ).map .dK
theorem newExt {F H F' H' : Hp} {p : Addr} {o : HO} (x : Ext F H F' H') (n1 : H p = none) (n2 : F' p = none) (hp : H' p = some o) : Ext F H (upd F' p o) H' := by
  refine ⟨x.f.trans (same_new n2), x.h, fun b o e => ?_, fun a h1 h2 => ?_⟩
  · by_cases hb : b = p
    · subst hb
      rw [upd_same] at e
      cases e
      exact hp
    · rw [upd_ne hb] at e
      exact x.s _ _ e
  · rw [upd_ne (fun e => h2 (by rw [e]; exact n1))]
    exact x.n a h1 h2
theorem me_fd {f : Env → Option (List (Key × D))} (h : MFD S e f) : ME S e (fD f) := fun X G =>
  PE.imp (h X G) fun σ H Q ⟨F, ρ, d, sm, ok, e, q⟩ => by
    obtain ⟨ds, h1, rfl⟩ := Option.map_eq_some_iff.mp e
    exact ⟨F, ρ, ds, sm, ok, h1, fun p vs F' H' x n1 n2 hp r => q _ _ H' (newExt x n1 n2 hp) (.dK upd_same (r.mono (same_new n2)))⟩
def compD (t : D → Env → Option Env) (h : Env → Option Bool) (fk fv : Env → Option D) (ρ : Env) : List (Key × D) → List D → Option (List (Key × D))
  | acc, [] => some acc
  | acc, x :: xs => (t x ρ).bind fun ρ1 => (h ρ1).bind fun b => if b = true then (fk ρ1).bind fun y => (toKey y).bind fun k => (fv ρ1).bind fun z => compD t h fk fv ρ (putD acc k z) xs else compD t h fk fv ρ acc xs
def fDc (vs : List Nat) (i : Env → Option (List D)) (t : D → Env → Option Env) (h : Env → Option Bool) (fk fv : Env → Option D) : Env → Option (List (Key × D)) := fun ρ =>
  (i ρ).bind fun xs => if xs.length < sizeLine then compD t h fk fv (wipeE ρ vs) [] xs else none
end
section
variable {S : Static} {kx vx tg iter : Expr} {ifs : List Expr} {scope : Scope} {pos : Pos} {i : Env → Option (List D)} {t : D → Env → Option Env} {h : Env → Option Bool} {fk fv : Env → Option D} {is : List Nat}
theorem dc_run {K : PySem.W.Frag} {σ : St} {H : Hp} {Q : VK} {vs : List Nat} (hs : ∀ j ∈ is, j ∈ vs) (q : tFrD K (fDc vs i t h fk fv) σ H Q) :
    tDc (tIv K i) (fun v σ H Q => ∃ F ρ d ρ', Same F H ∧ EnvOk K F σ ρ ∧ Rep K F v d ∧ t d ρ = some ρ' ∧ ∀ σ', EnvOk K F σ' ρ' → Touch is σ σ' → Q σ' H) (tTv K h) (tEv K fk) (tEv K fv) vs σ H Q := by
  obtain ⟨F, ρ, ds, sm, ok, e, q⟩ := q
  obtain ⟨xs, h1, e⟩ := Option.bind_eq_some_iff.mp e
  split at e
  case isFalse => cases e
  rename_i hz
  refine ⟨F, ρ, xs, sm, ok, h1, fun F1 H1 J x1 y => ?_⟩
  intro L hL
  have FL : F1 L = none := Same.none_of x1.s hL
  have HL : H L = none := Same.none_of x1.h hL
  refine ⟨fun i m Hc => m + i = xs.length ∧ ∃ Fc vs0 ds0, Ext F1 (upd H1 L (.dK [])) Fc (upd Hc L (.dK [])) ∧ Hc L = some (.dK vs0) ∧ Fc L = none ∧ RepP K Fc vs0 ds0 ∧ ds0.length ≤ i ∧ compD t h fk fv (wipeE ρ vs) ds0 (xs.drop i) = some ds, ?_, ?_⟩
  · refine ⟨xs.length, rfl, F1, [], [], ?_, upd_same, FL, .nil, Nat.le_refl _, by rw [List.drop_zero]; exact e⟩
    rw [upd_upd]
    exact Ext.refl (x1.s.trans (same_new hL))
  · rintro i m Hc ⟨hm, Fc, vs0, ds0, xc, hcl, fcl, r0, l0, e1⟩
    have sc : Same Fc Hc := fun b o eb => by
      have nb : b ≠ L := ne_of_none eb fcl
      have := xc.s b o eb
      rw [upd_ne nb] at this
      exact this
    by_cases hi : i < xs.length
    · refine .inr ⟨y.go i Hc (xc.f.trans sc) hi, fun Hn => ∃ m', m' + (i + 1) = xs.length ∧ ∃ Fc vs0 ds0, Ext F1 (upd H1 L (.dK [])) Fc (upd Hn L (.dK [])) ∧ Hn L = some (.dK vs0) ∧ Fc L = none ∧ RepP K Fc vs0 ds0 ∧ ds0.length ≤ i + 1 ∧ compD t h fk fv (wipeE ρ vs) ds0 (xs.drop (i + 1)) = some ds,
        fun Hn ⟨m', h1, h2⟩ => ⟨m', by omega, h1, h2⟩, fun x Hy hy => ?_⟩
      have hd : xs[i]? = some xs[i] := List.getElem?_eq_getElem hi
      obtain ⟨sy, k⟩ := y.yld i Hc x Hy _ (xc.f.trans sc) hd hy
      obtain ⟨F2, x2, rx⟩ := k Fc xc.f sc
      rw [List.drop_eq_getElem_cons hi] at e1
      unfold compD at e1
      obtain ⟨ρ1, et, e1⟩ := Option.bind_eq_some_iff.mp e1
      obtain ⟨b, eh, e1⟩ := Option.bind_eq_some_iff.mp e1
      have ok2 : EnvOk K F2 (wipe σ vs) (wipeE ρ vs) := wipe_ok ((ok.mono x1.f).mono (xc.f.trans x2.f)) vs
      have ne : Hc L ≠ none := by rw [hcl]; exact fun z => nomatch z
      have F2L : F2 L = none := x2.n L fcl ne
      have lift : ∀ {Fa Ha : Hp}, Ext Fc Hc Fa Ha → Fa L = none → Ext F1 (upd H1 L (.dK [])) Fa (upd Ha L (.dK [])) := fun {Fa Ha} xa fa => by
        refine xc.trans ⟨xa.f, fun b o eb => ?_, fun b o eb => ?_, fun b e1 e2 => ?_⟩
        · by_cases nb : b = L
          · subst nb
            rw [upd_same] at eb ⊢
            exact eb
          · rw [upd_ne nb] at eb ⊢
            exact xa.h b o eb
        · rw [upd_ne (ne_of_none eb fa)]
          exact xa.s b o eb
        · by_cases nb : b = L
          · subst nb
            exact fa
          · rw [upd_ne nb] at e2
            exact xa.n b e1 e2
      refine ⟨F2, _, _, ρ1, x2.s, ok2, rx, et, fun σ2 okσ tσ => ⟨tσ.wipe hs, F2, ρ1, b, x2.s, okσ, eh, fun H3 s3 => ?_⟩⟩
      have x3 := x2.grow s3
      dsimp only
      cases b with
      | false =>
        rw [if_neg Bool.false_ne_true] at e1 ⊢
        exact ⟨m - 1, by omega, F2, vs0, ds0, lift x3 F2L, s3 _ _ (sy _ _ hcl), F2L, (r0.mono x2.f), by omega, e1⟩
      | true =>
        rw [if_pos rfl] at e1 ⊢
        obtain ⟨dk, ek, e1⟩ := Option.bind_eq_some_iff.mp e1
        obtain ⟨kk, ekk, e1⟩ := Option.bind_eq_some_iff.mp e1
        obtain ⟨d, ef, e1⟩ := Option.bind_eq_some_iff.mp e1
        refine ⟨F2, ρ1, dk, x3.s, okσ, ek, fun v F4 H4 x4 rv => ?_⟩
        have x24 := x3.trans x4
        have F4L : F4 L = none := x24.n L fcl ne
        refine ⟨F4, ρ1, d, x24.s, okσ.mono x4.f, ef, fun w F5 H5 x5 rw' => ?_⟩
        have x25 := x24.trans x5
        have F5L : F5 L = none := x25.n L fcl ne
        refine ⟨vs0, kk, toKey_ok rv ekk, x25.h _ _ hcl, by rw [r0.length]; omega, m - 1, by omega, F5, putK vs0 kk w, putD ds0 kk d, ?_, upd_same, F5L, (r0.mono x25.f).put kk rw', by have := putD_len ds0 kk d; omega, e1⟩
        rw [upd_upd]
        exact lift x25 F5L
    · have ei : i = xs.length := by omega
      subst ei
      rw [List.drop_length] at e1
      have e1 : ds0 = ds := Option.some.inj e1
      subst e1
      refine .inl ⟨y.stop _ Hc (xc.f.trans sc) rfl, q L vs0 Fc Hc ⟨x1.f.trans xc.f, fun b o eb => ?_, sc, fun b e1 e2 => ?_⟩ HL fcl hcl r0⟩
      · have nb : b ≠ L := ne_of_none eb HL
        have := xc.h b o (by rw [upd_ne nb]; exact x1.h b o eb)
        rw [upd_ne nb] at this
        exact this
      · have nb : b ≠ L := fun z => e2 (by rw [z]; exact HL)
        refine xc.n b (x1.n b e1 e2) ?_
        rw [upd_ne nb]
        cases z : H b with
        | none => exact absurd z e2
        | some o =>
          rw [x1.h b o z]
          exact fun z => nomatch z
theorem mfd_comp {own : List (Str × Nat)} (hi : MI S tg iter i) (hg : MG { S with sc := scope } tg is t) (ht : MTs { S with sc := scope } ifs h) (hk : ME { S with sc := scope } kx fk) (he : ME { S with sc := scope } vx fv)
    (hb : blkC S.N S.sc scope own = true) (hs : is = own.map (·.2) := by rfl) (hn : notSet iter = true := by rfl) : MFD S (.DictComp kx vx [⟨tg, iter, ifs, 0⟩] scope pos) (fDc (own.map (·.2)) i t h fk fv) := fun X G =>
  have hG := fun s H C cl fp => G.blk (blkOk_by hb).kind s H C cl fp
  PE.imp (pe_dc G.calm (by rw [G.N]; exact G.nd) (hi X G) (G.blkOk hb) (fun s H C cl fp => hg _ (hG s H C cl fp)) (fun s H C cl fp => ht _ (hG s H C cl fp)) (fun s H C cl fp => hk _ (hG s H C cl fp)) (fun s H C cl fp => he _ (hG s H C cl fp)) (foldedSet_no hn))
    fun σ H Q q => dc_run (fun j hj => by rw [← hs]; exact hj) q
end
/-! ### a name that is captured: the comprehension is stored as any value -/
section
variable {S : Static} {e : Expr} {pos p : Pos} {f : Env → Option D}
theorem swaps_cell {e : Expr} {x : Str} {l : Nat} {env : PySem.Env} (h : env.scope.names.lookup x = some .cell) : swapsWith e (some (.Name x p)) l env = pure false := by
  have hk : (env.kindOf x == some NameKind.local) = false := by
    show (env.scope.names.lookup x == some NameKind.local) = false
    rw [h]
    rfl
  cases e <;> first | rfl | skip
  all_goals (unfold swapsWith; dsimp only; rw [hk, Bool.and_false, Bool.false_and, Bool.false_and])
theorem Good.cell {X : Cx} (G : Good S X) {x : Str} (h : S.sc.names.lookup x = some .cell) : X.env.scope.names.lookup x = some .cell := by
  obtain ⟨k', h1, h2⟩ := G.sc x _ h
  rcases h2 with rfl | ⟨z, _⟩
  · exact h1
  · cases z
theorem ms_setC {i : Nat} {x : Str} (m : List Bool) (hN : S.N[i]? = some x) (hx : S.sc.names.lookup x = some .cell) (he : ME S e f) : MS S (.Assign [.Name x p] e pos) (gSet i m f) := fun X G O F0 H0 =>
  have hl : locB (S.sc.names.lookup x) = true := by rw [hx]; rfl
  PS.imp (ps_set (by rw [G.N]; exact G.nd) (by rw [G.N]; exact hN) (G.loc hl).1 (he X G) (swaps_cell (G.cell hx)) (G.loc hl).2) fun E σ H ⟨F, ρ, o, ok, e, q⟩ => by
    obtain ⟨d, e1, e2⟩ := Option.bind_eq_some_iff.mp e
    cases e2
    exact evS ok e1 fun v F' H' ok' r f => q _ _ _ (ok'.set i r) f
theorem ms_ownC {i : Nat} {x : Str} {f : Env → Option (List D)} (m : List Bool) (hN : S.N[i]? = some x) (hx : S.sc.names.lookup x = some .cell) (he : MF S e f) : MS S (.Assign [.Name x p] e pos) (gOwn i m f) := fun X G O F0 H0 =>
  have hl : locB (S.sc.names.lookup x) = true := by rw [hx]; rfl
  PS.imp (ps_set (by rw [G.N]; exact G.nd) (by rw [G.N]; exact hN) (G.loc hl).1 (he X G) (swaps_cell (G.cell hx)) (G.loc hl).2) fun E σ H ⟨F, ρ, o, ok, e, q⟩ => by
    obtain ⟨ds, e1, e2⟩ := Option.bind_eq_some_iff.mp e
    cases e2
    obtain ⟨F1, s1, ok1⟩ := ok.frz m
    exact ⟨F1, _, ds, ok1.ext.s, ok1.env, e1, fun a vs F' H' x n1 n2 hp r => q _ _ _ (ownNew ok1 x rfl n1 n2 ⟨vs, hp, r⟩) (s1.trans x.f)⟩
end
/-- a statement behind which what some slots hold is given up -/
def gFz (m : List Bool) (g : Sv → Option Out) : Sv → Option Out := fun ρ => (g ρ).bind fun o => match o with
  | .nx ρ' => some (.nx (frz m ρ'))
  | o => some o
theorem ms_fz {S : Static} {st : Stmt} {g : Sv → Option Out} (m : List Bool) (h : MS S st g) : MS S st (gFz m g) := fun X G O F0 H0 =>
  PS.imp (h X G O F0 H0) fun E σ H ⟨F, ρ, o, ok, e, q⟩ => by
    obtain ⟨o1, e1, e2⟩ := Option.bind_eq_some_iff.mp e
    refine ⟨F, ρ, o1, ok, e1, ?_⟩
    cases o1 with
    | nx ρ1 =>
      cases e2
      intro σ1 F1 H1 ok1 f1
      obtain ⟨F2, s2, ok2⟩ := ok1.frz m
      exact q σ1 F2 H1 ok2 (f1.trans s2)
    | rt d => cases e2; exact q
    | bk d => cases e2; exact q
    | ct d => cases e2; exact q
/-- the built-in names that the module leaves alone -/
structure Blt (C : Ctx) : Prop where
  len_ : C.mg "len" = none
  int_ : C.mg "int" = none
  tuple_ : C.mg "tuple" = none
  list_ : C.mg "list" = none
  range_ : C.mg "range" = none
  enumerate_ : C.mg "enumerate" = none
  zip_ : C.mg "zip" = none
  sorted_ : C.mg "sorted" = none
  set_ : C.mg "set" = none
  isinstance_ : C.mg "isinstance" = none
  bool_ : C.mg "bool" = none
def fuel : Nat := 1000000
end VM
/-! VM6 -/
namespace VM
open PySem PySem.Spec PyProof.Rows L2

/-! ### set(xs), xs a list of allInt -/
abbrev emptyS (w : World) : Obj := { cls := .type "set", dict := none, data := .set #[] 0 (.fresh 0 0 (!w.params.followText "set-order")) }
section
variable {P : Program} {w : World} {A : Around} {E : Value → Shared → Prop} {s : Shared}
theorem set_of_list {lad : Addr} {arr : Array Value} (zs : List Int) {Q : Value → Shared → Prop} (calm : A.handled = none) (isl : s.heap.IsList lad arr) (allInt : IntsAre arr.toList zs) (room : zs.length + 1 < scanBound)
    (fin : ∀ (hp : Heap) (tk c : Nat), SetR w hp s.heap.objs.size (fun j => decide (j ∈ zs)) c → c ≤ zs.length → (∀ b o, s.heap.get? b = some o → hp.get? b = some o) → Q (.ref s.heap.objs.size) { s with heap := hp, toks := tk }) :
    wpAny (model P w) A (call (.type "set") [.ref lad]) Q E s := by
  have size : arr.size = zs.length := by
    have len := IntsAre.length allInt
    rwa [Array.length_toList] at len
  obtain ⟨c, tl, hmro⟩ := F.called_set.mro
  have f1 := F.called_set.made
  have f2 := F.called_set.sub
  refine wpAny_call (codeAny_of_tree (show wpAny _ _ (callAny (.type "set") _) _ _ _ from ?_))
  refine wpAny_pure ⟨Code.quiet_builtin _ (by decide +kernel), codeAny_builtin F.entry_type_call (?_ : _)⟩
  rw [Around.under_plain (weight_type_call_type "set" [.ref lad] []) rfl]
  have f3 := F.called_set.notType
  have f4 := F.called_set.canCreate
  have f5 := F.typeCall_set_1 (.ref lad)
  repeat any_goals (first | assumption | wp_step)
  refine codeAny_mono (code_set_led1 (.ref lad) (E := E) (Q₁ := fun new s1 => new = .ref s.heap.objs.size ∧ s1 = { s with heap := s.heap.push (emptyS w) }) ⟨rfl, rfl⟩) fun r s1 hr => ?_
  cases r with
  | error e => exact hr
  | ok fl =>
    cases fl with
    | next => exact hr.elim
    | brk => exact hr.elim
    | cont => exact hr.elim
    | ret new =>
      obtain ⟨rfl, rfl⟩ := hr
      have here : (s.heap.push (emptyS w)).get? s.heap.objs.size = some (emptyS w) := Heap.get?_push_size _ rfl
      have isT : Shared.TypeIs { s with heap := s.heap.push (emptyS w) } (.ref s.heap.objs.size) "set" := ⟨_, here, rfl⟩
      have f6 := F.called_set.init.lookup
      have f7 := F.called_set.init.bind (.ref s.heap.objs.size)
      repeat any_goals (first | assumption | wp_step)
      refine codeAny_mono (codeAny_call_builtin (R := wants (fun r s2 => r = .none ∧ ∃ hp tk c, s2 = { s with heap := hp, toks := tk } ∧ SetR w hp s.heap.objs.size (fun j => decide (j ∈ zs)) c ∧ c ≤ zs.length ∧ (∀ b o, s.heap.get? b = some o → hp.get? b = some o)) E) F.called_set.init.plain F.entry_set_init (check_set_init_1 isT ?_)) fun r2 s2 hr2 => ?_
      · obtain ⟨ob, eob, cob, nb, dob⟩ := isl
        obtain ⟨ocls, odict, odata, oslots⟩ := ob
        simp only at cob dob
        subst cob; subst dob
        have eob' := Heap.get?_push_of_some (emptyS w) eob
        have g1 := F.sub_list_set
        have g2 := F.sub_list_frozenset
        have g3 : (Value.type "list" == Value.type "dict") = false := by decide
        have isl1 : (s.heap.push (emptyS w)).IsList lad arr := ⟨_, eob', rfl, nb, rfl⟩
        unfold Builtin.«set.__init__» Builtin.Frozenset.updateFrom noKeywords
        generalize gP : pyIter = walker
        wp_walk
        subst gP
        refine wpAny_pyIter_list isl1 (wpAny_bind (wpAny_runValue ?_))
        have below : lad < s.heap.objs.size := Heap.lt_size eob
        have one : (s.heap.push (emptyS w)).objs.size = s.heap.objs.size + 1 := Heap.size_push ..
        have apart : lad ≠ (s.heap.push (emptyS w)).objs.size := by rw [one]; exact Nat.ne_of_lt (Nat.lt_succ_of_lt below)
        have outside : s.heap.objs.size ∉ [(s.heap.push (emptyS w)).objs.size, lad] := by
          rw [one]
          intro z
          rcases List.mem_cons.mp z with z | z
          · exact absurd z (Nat.ne_of_lt (Nat.lt_succ_self _))
          · rw [List.mem_singleton] at z
            exact absurd z.symm (Nat.ne_of_lt below)
        have vals : ∀ (i : Nat) (v : Value), arr[i]? = some v → ∃ k t, zs[i]? = some k ∧ v = .int k t := fun i v hv => by
          have hi : i < zs.length := size ▸ (Array.getElem?_eq_some_iff.mp hv).1
          obtain ⟨t, e⟩ := PyProof.Rows.IntsAre.int_at allInt i v (by rwa [Array.getElem?_toList])
          have ez : zs[i]? = some zs[i] := List.getElem?_eq_getElem hi
          exact ⟨zs[i], t, ez, by rw [e, List.getD_eq_getElem?_getD, ez]; rfl⟩
        refine set_update_ints ((Walks.list (by simp [calm]) _ lad apart arr).toS) s.heap.objs.size outside zs size room vals (arr.size - 0) 0 _ (by omega) (Nat.zero_le _) ⟨⟨_, Heap.get?_push_size _ rfl, rfl, rfl⟩, isl1.push _⟩ ⟨0, Nat.le_refl 0, setR_new_at (Heap.get?_push_of_some _ here)⟩ fun s' cc moved le hS => ?_
        obtain ⟨hp, gn, dr, tk, os⟩ := s'
        have q1 : gn = s.gens := moved.gens
        have q2 : dr = s.drawn := moved.drawn
        have q3 : os = s.os := moved.os
        subst q1; subst q2; subst q3
        refine (show wpAny _ _ _ _ _ _ from wpAny_pure (show wpAny _ _ (ret Value.none) _ _ _ from ?_))
        rw [size] at le
        refine wpAny_pure ⟨rfl, hp, tk, cc, rfl, hS, le, fun b o e => moved.heap b o ?_ (Heap.get?_push_of_some _ (Heap.get?_push_of_some _ e))⟩
        have lt := Heap.lt_size e
        intro z
        rcases List.mem_cons.mp z with z | z
        · exact absurd z (Nat.ne_of_lt lt)
        · rcases List.mem_cons.mp z with z | z
          · rw [one] at z
            exact absurd z (Nat.ne_of_lt (Nat.lt_succ_of_lt lt))
          · cases z
      · cases r2 with
        | error e => exact hr2
        | ok fl2 =>
          cases fl2 with
          | next => exact hr2.elim
          | brk => exact hr2.elim
          | cont => exact hr2.elim
          | ret r =>
            obtain ⟨rfl, hp, tk, cc, rfl, hS, le, kept⟩ := hr2
            repeat any_goals (first | assumption | wp_step)
            exact fin _ _ _ hS le kept
end

end VM
/-! M1 -/
namespace VM
/-! Pure mathematics: the different integers of a list, ranks, positions, dense inputs, codes. -/
def insertI (x : Int) : List Int → List Int
  | [] => [x]
  | y :: r => if x < y then x :: y :: r else if x = y then y :: r else y :: insertI x r
/-- the different ones, ascending -/
def sortI : List Int → List Int
  | [] => []
  | x :: r => insertI x (sortI r)
theorem insertI_mem (x z : Int) : ∀ l : List Int, z ∈ insertI x l ↔ z = x ∨ z ∈ l
  | [] => by simp [insertI]
  | y :: r => by
    unfold insertI
    split
    · simp
    · split
      · rename_i h
        subst h
        simp
      · simp only [List.mem_cons, insertI_mem x z r]
        constructor
        · rintro (h | h | h) <;> simp [h]
        · rintro (h | h | h) <;> simp [h]
theorem insertI_sorted (x : Int) : ∀ l : List Int, l.Pairwise (· < ·) → (insertI x l).Pairwise (· < ·)
  | [], _ => List.pairwise_singleton _ _
  | y :: r, h => by
    obtain ⟨h1, h2⟩ := List.pairwise_cons.mp h
    unfold insertI
    split
    · rename_i hx
      refine List.pairwise_cons.mpr ⟨fun z hz => ?_, h⟩
      rcases List.mem_cons.mp hz with rfl | hz
      · exact hx
      · exact Int.lt_trans hx (h1 z hz)
    · split
      · exact h
      · refine List.pairwise_cons.mpr ⟨fun z hz => ?_, insertI_sorted x r h2⟩
        rcases (insertI_mem x z r).mp hz with rfl | hz
        · omega
        · exact h1 z hz
theorem sortI_mem (z : Int) : ∀ l : List Int, z ∈ sortI l ↔ z ∈ l
  | [] => Iff.rfl
  | x :: r => by
    show z ∈ insertI x (sortI r) ↔ _
    rw [insertI_mem, sortI_mem z r, List.mem_cons]
theorem sortI_sorted : ∀ l : List Int, (sortI l).Pairwise (· < ·)
  | [] => List.Pairwise.nil
  | x :: r => insertI_sorted x _ (sortI_sorted r)
theorem sorted_one : ∀ {l m : List Int}, l.Pairwise (· < ·) → m.Pairwise (· < ·) → (∀ z, z ∈ l ↔ z ∈ m) → l = m
  | [], [], _, _, _ => rfl
  | [], y :: r, _, _, h => absurd ((h y).mpr List.mem_cons_self) (by simp)
  | x :: r, [], _, _, h => absurd ((h x).mp List.mem_cons_self) (by simp)
  | x :: r, y :: t, h1, h2, h => by
    obtain ⟨a1, a2⟩ := List.pairwise_cons.mp h1
    obtain ⟨b1, b2⟩ := List.pairwise_cons.mp h2
    have hxy : x = y := by
      rcases List.mem_cons.mp ((h x).mp List.mem_cons_self) with e | e
      · exact e
      · rcases List.mem_cons.mp ((h y).mpr List.mem_cons_self) with e' | e'
        · exact e'.symm
        · have := b1 x e
          have := a1 y e'
          omega
    subst hxy
    refine congrArg (x :: ·) (sorted_one a2 b2 fun z => ⟨fun hz => ?_, fun hz => ?_⟩)
    · rcases List.mem_cons.mp ((h z).mp (List.mem_cons_of_mem _ hz)) with e | e
      · subst e
        exact absurd (a1 z hz) (Int.lt_irrefl _)
      · exact e
    · rcases List.mem_cons.mp ((h z).mpr (List.mem_cons_of_mem _ hz)) with e | e
      · subst e
        exact absurd (b1 z hz) (Int.lt_irrefl _)
      · exact e
theorem nodup_le {α : Type} [DecidableEq α] : ∀ {l m : List α}, l.Nodup → (∀ z, z ∈ l → z ∈ m) → l.length ≤ m.length
  | [], _, _, _ => Nat.zero_le _
  | x :: r, m, nd, h => by
    obtain ⟨h1, h2⟩ := List.nodup_cons.mp nd
    have hm := h x List.mem_cons_self
    have ih := nodup_le (m := m.erase x) h2 fun z hz => (List.mem_erase_of_ne (fun e => h1 (by rw [← e]; exact hz))).mpr (h z (List.mem_cons_of_mem _ hz))
    rw [List.length_erase_of_mem hm] at ih
    have := List.length_pos_of_mem hm
    rw [List.length_cons]
    omega
theorem sorted_nodup {l : List Int} (h : l.Pairwise (· < ·)) : l.Nodup := h.imp fun a => Int.ne_of_lt a
theorem sortI_len (l : List Int) : (sortI l).length ≤ l.length := nodup_le (sorted_nodup (sortI_sorted l)) fun z hz => (sortI_mem z l).mp hz
theorem sortI_ext {l m : List Int} (h : ∀ z, z ∈ l ↔ z ∈ m) : sortI l = sortI m :=
  sorted_one (sortI_sorted _) (sortI_sorted _) fun z => by rw [sortI_mem, sortI_mem, h z]
theorem sortI_of_sorted {l : List Int} (h : l.Pairwise (· < ·)) : sortI l = l := sorted_one (sortI_sorted _) h fun z => sortI_mem z l

/-- how many items are less than x -/
def cnt (s : List Int) (x : Int) : Nat := (s.filter fun y => decide (y < x)).length
def less (vs : List Int) (x : Int) : Nat := cnt (sortI vs) x
theorem cnt_le (s : List Int) (x : Int) : cnt s x ≤ s.length := List.length_filter_le _ _
theorem cnt_same {s t : List Int} (hs : s.Nodup) (ht : t.Nodup) (h : ∀ z, z ∈ s ↔ z ∈ t) (x : Int) : cnt s x = cnt t x := by
  have a := nodup_le (m := t.filter fun y => decide (y < x)) (List.Pairwise.filter (fun y => decide (y < x)) hs) fun z hz => by
    rw [List.mem_filter] at hz ⊢
    exact ⟨(h z).mp hz.1, hz.2⟩
  have b := nodup_le (m := s.filter fun y => decide (y < x)) (List.Pairwise.filter (fun y => decide (y < x)) ht) fun z hz => by
    rw [List.mem_filter] at hz ⊢
    exact ⟨(h z).mpr hz.1, hz.2⟩
  unfold cnt
  omega
theorem cnt_less {s vs : List Int} (hs : s.Nodup) (h : ∀ z, z ∈ s ↔ z ∈ vs) (x : Int) : cnt s x = less vs x :=
  cnt_same hs (sorted_nodup (sortI_sorted _)) (fun z => by rw [h z, sortI_mem]) x
theorem less_ext {l m : List Int} (h : ∀ z, z ∈ l ↔ z ∈ m) (x : Int) : less l x = less m x := by unfold less; rw [sortI_ext h]
theorem cnt_mono {s : List Int} (hs : s.Nodup) {x y : Int} (h : x ≤ y) : cnt s x ≤ cnt s y := by
  refine nodup_le (List.Pairwise.filter _ hs) fun z hz => ?_
  rw [List.mem_filter, decide_eq_true_eq] at hz ⊢
  exact ⟨hz.1, by omega⟩
theorem cnt_lt {s : List Int} (hs : s.Nodup) {x y : Int} (hy : y ∈ s) (h : y < x) : cnt s y < cnt s x := by
  have := nodup_le (l := y :: s.filter fun z => decide (z < y)) (m := s.filter fun z => decide (z < x)) (List.nodup_cons.mpr ⟨fun hz => by
    rw [List.mem_filter, decide_eq_true_eq] at hz
    omega, List.Pairwise.filter _ hs⟩) fun z hz => by
      rw [List.mem_filter, decide_eq_true_eq]
      rcases List.mem_cons.mp hz with rfl | hz
      · exact ⟨hy, h⟩
      · rw [List.mem_filter, decide_eq_true_eq] at hz
        exact ⟨hz.1, by omega⟩
  rw [List.length_cons] at this
  exact this
theorem cnt_iff {s : List Int} (hs : s.Nodup) {x y : Int} (hy : y ∈ s) : y < x ↔ cnt s y < cnt s x := by
  refine ⟨cnt_lt hs hy, fun h => ?_⟩
  by_cases hxy : y < x
  · exact hxy
  · have := cnt_mono hs (x := x) (y := y) (by omega)
    omega
theorem less_iff {vs : List Int} {x y : Int} (hy : y ∈ vs) : y < x ↔ less vs y < less vs x :=
  cnt_iff (sorted_nodup (sortI_sorted _)) ((sortI_mem _ _).mpr hy)
theorem less_mono {vs : List Int} {x y : Int} (h : x ≤ y) : less vs x ≤ less vs y := cnt_mono (sorted_nodup (sortI_sorted _)) h
theorem less_inj {vs : List Int} {x y : Int} (hx : x ∈ vs) (hy : y ∈ vs) (h : less vs x = less vs y) : x = y := by
  have a := less_iff (x := x) hy
  have b := less_iff (x := y) hx
  omega
/-- in an ascending list: which items are less -/
theorem cnt_cons (y : Int) (s : List Int) (x : Int) : cnt (y :: s) x = (if y < x then 1 else 0) + cnt s x := by
  unfold cnt
  rw [List.filter_cons]
  by_cases h : y < x
  · rw [if_pos (by simpa using h), if_pos h, List.length_cons]; omega
  · rw [if_neg (by simpa using h), if_neg h]; omega
theorem cnt_zero {s : List Int} {x : Int} (h : ∀ y ∈ s, x ≤ y) : cnt s x = 0 := by
  unfold cnt
  rw [List.length_eq_zero_iff, List.filter_eq_nil_iff]
  intro y hy
  have := h y hy
  simpa using this
theorem sorted_lt : ∀ {s : List Int} {i : Nat} {y x : Int}, s.Pairwise (· < ·) → s[i]? = some y → (y < x ↔ i < cnt s x)
  | [], i, y, x, _, e => by simp at e
  | z :: r, 0, y, x, h, e => by
    have e : z = y := by simpa using e
    subst e
    rw [cnt_cons]
    by_cases hz : z < x
    · rw [if_pos hz]; omega
    · rw [if_neg hz, cnt_zero fun y hy => by have := (List.pairwise_cons.mp h).1 y hy; omega]
      omega
  | z :: r, i + 1, y, x, h, e => by
    have e : r[i]? = some y := by simpa using e
    obtain ⟨h1, h2⟩ := List.pairwise_cons.mp h
    have ih := sorted_lt (x := x) h2 e
    rw [cnt_cons]
    have hz := h1 y (List.mem_of_getElem? e)
    by_cases hx : z < x
    · rw [if_pos hx]; omega
    · rw [if_neg hx]
      have : cnt r x = 0 := cnt_zero fun w hw => by have := h1 w hw; omega
      omega
theorem sorted_at {s : List Int} {i : Nat} {y : Int} (h : s.Pairwise (· < ·)) (e : s[i]? = some y) : cnt s y = i := by
  have a := sorted_lt (x := y) h e
  have hi := (List.getElem?_eq_some_iff.mp e).1
  by_cases hc : i < cnt s y
  · omega
  · by_cases hd : cnt s y < i
    · have e2 := List.getElem?_eq_getElem (l := s) (i := cnt s y) (by omega)
      have b := sorted_lt (x := y) h e2
      have hlt : s[cnt s y] < y := by
        obtain ⟨_, he⟩ := List.getElem?_eq_some_iff.mp e
        have := List.pairwise_iff_getElem.mp h (cnt s y) i (by omega) hi hd
        rw [he] at this
        exact this
      omega
    · omega
theorem sorted_cnt {s : List Int} {y : Int} (h : s.Pairwise (· < ·)) (hy : y ∈ s) : s[cnt s y]? = some y := by
  obtain ⟨i, e⟩ := List.mem_iff_getElem?.mp hy
  rw [sorted_at h e]
  exact e
theorem sorted_mem {s : List Int} {y : Int} (h : s.Pairwise (· < ·)) : y ∈ s ↔ s[cnt s y]? = some y :=
  ⟨sorted_cnt h, fun e => List.mem_of_getElem? e⟩
theorem insert_at {s : List Int} {x : Int} (h : s.Pairwise (· < ·)) (hx : x ∉ s) : s.take (cnt s x) ++ [x] ++ s.drop (cnt s x) = sortI (x :: s) := by
  refine sorted_one ?_ (sortI_sorted _) fun z => ?_
  · have h1 : (s.take (cnt s x)).Pairwise (· < ·) := h.sublist (List.take_sublist _ _)
    have h2 : (s.drop (cnt s x)).Pairwise (· < ·) := h.sublist (List.drop_sublist _ _)
    have a : ∀ y ∈ s.take (cnt s x), y < x := fun y hy => by
      obtain ⟨i, e⟩ := List.mem_iff_getElem?.mp hy
      rw [List.getElem?_take] at e
      split at e
      · rename_i hi
        exact (sorted_lt h e).mpr hi
      · cases e
    have b : ∀ y ∈ s.drop (cnt s x), x < y := fun y hy => by
      obtain ⟨i, e⟩ := List.mem_iff_getElem?.mp hy
      rw [List.getElem?_drop] at e
      have := sorted_lt (x := x) h e
      have hne : y ≠ x := fun z => hx (by rw [← z]; exact List.mem_of_getElem? e)
      omega
    refine List.pairwise_append.mpr ⟨List.pairwise_append.mpr ⟨h1, List.pairwise_singleton _ _, fun y hy z hz => ?_⟩, h2, fun y hy z hz => ?_⟩
    · rw [List.mem_singleton.mp hz]
      exact a y hy
    · rcases List.mem_append.mp hy with hy | hy
      · exact Int.lt_trans (a y hy) (b z hz)
      · rw [List.mem_singleton.mp hy]
        exact b z hz
  · rw [sortI_mem, List.mem_cons, List.mem_append, List.mem_append, List.mem_singleton]
    have : z ∈ s ↔ z ∈ s.take (cnt s x) ∨ z ∈ s.drop (cnt s x) := by
      rw [← List.mem_append, List.take_append_drop]
    rw [this]
    constructor
    · rintro ((h | h) | h) <;> simp [h]
    · rintro (h | h | h) <;> simp [h]

/-! ### maps that keep the order -/
def Mono (f : Int → Int) (vs : List Int) : Prop := ∀ x ∈ vs, ∀ y ∈ vs, x < y → f x < f y
theorem Mono.lt {f : Int → Int} {vs : List Int} (h : Mono f vs) {x y : Int} (hx : x ∈ vs) (hy : y ∈ vs) : f x < f y ↔ x < y := by
  refine ⟨fun q => ?_, h x hx y hy⟩
  by_cases e : x = y
  · subst e; omega
  · by_cases e2 : y < x
    · have := h y hy x hx e2; omega
    · omega
theorem Mono.inj {f : Int → Int} {vs : List Int} (h : Mono f vs) {x y : Int} (hx : x ∈ vs) (hy : y ∈ vs) (e : f x = f y) : x = y := by
  have a := h.lt hx hy
  have b := h.lt hy hx
  omega
theorem Mono.sub {f : Int → Int} {vs ws : List Int} (h : Mono f vs) (hs : ∀ x ∈ ws, x ∈ vs) : Mono f ws := fun x hx y hy => h x (hs x hx) y (hs y hy)
theorem sortI_map {f : Int → Int} {vs : List Int} (h : Mono f vs) : sortI (vs.map f) = (sortI vs).map f := by
  refine sorted_one (sortI_sorted _) ?_ fun z => ?_
  · rw [List.pairwise_map]
    refine List.Pairwise.imp_of_mem (fun {a b} ha hb hab => ?_) (sortI_sorted vs)
    exact h a ((sortI_mem _ _).mp ha) b ((sortI_mem _ _).mp hb) hab
  · rw [sortI_mem, List.mem_map, List.mem_map]
    constructor
    · rintro ⟨a, h1, h2⟩
      exact ⟨a, (sortI_mem _ _).mpr h1, h2⟩
    · rintro ⟨a, h1, h2⟩
      exact ⟨a, (sortI_mem _ _).mp h1, h2⟩
theorem less_map {f : Int → Int} {vs : List Int} {x : Int} (h : Mono f (x :: vs)) : less (vs.map f) (f x) = less vs x := by
  unfold less cnt
  rw [sortI_map (h.sub fun y hy => List.mem_cons_of_mem _ hy), List.filter_map, List.length_map]
  congr 1
  refine List.filter_congr fun y hy => ?_
  have := h.lt (List.mem_cons_of_mem _ ((sortI_mem _ _).mp hy)) (List.mem_cons_self (a := x) (l := vs))
  show decide (f y < f x) = decide (y < x)
  exact decide_eq_decide.mpr this
theorem less_self_mono (vs : List Int) : Mono (fun x => (less vs x : Int)) vs := fun x hx y hy h => by
  have := (less_iff (x := y) hx).mp h
  show (less vs x : Int) < (less vs y : Int)
  omega

/-! ### inputs -/
section
variable {α : Type}
abbrev Inp (α : Type) := List (α × Int)
def vals (ms : Inp α) : List Int := ms.map (·.2)
def dense (ms : Inp α) : Inp α := ms.map fun m => (m.1, (less (vals ms) m.2 : Int))
def posOf (vs : List Int) (x : Int) : Int := 2 * (less vs x : Int) + if x ∈ vs then 1 else 0
def codeGo : List Int → Inp α → Inp α
  | _, [] => []
  | seen, m :: r => (m.1, posOf seen m.2) :: codeGo (m.2 :: seen) r
def code (ms : Inp α) : Inp α := codeGo [] ms
def mapV (f : Int → Int) (ms : Inp α) : Inp α := ms.map fun m => (m.1, f m.2)
theorem vals_mapV (f : Int → Int) (ms : Inp α) : vals (mapV f ms) = (vals ms).map f := by
  unfold vals mapV
  rw [List.map_map, List.map_map]
  rfl
theorem mem_vals {ms : Inp α} {m : α × Int} (h : m ∈ ms) : m.2 ∈ vals ms := List.mem_map.mpr ⟨m, h, rfl⟩
theorem dense_eq (ms : Inp α) : dense ms = mapV (fun x => (less (vals ms) x : Int)) ms := rfl
theorem dense_map {f : Int → Int} {ms : Inp α} (h : Mono f (vals ms)) : dense (mapV f ms) = dense ms := by
  unfold dense
  rw [vals_mapV]
  unfold mapV
  rw [List.map_map]
  refine List.map_congr_left fun m hm => ?_
  show (m.1, (less ((vals ms).map f) (f m.2) : Int)) = _
  rw [less_map (h.sub fun y hy => ?_)]
  rcases List.mem_cons.mp hy with rfl | hy
  · exact mem_vals hm
  · exact hy
theorem dense_dense (ms : Inp α) : dense (dense ms) = dense ms := by
  rw [dense_eq ms, dense_map (less_self_mono _)]
  exact dense_eq ms
theorem dense_len (ms : Inp α) : (dense ms).length = ms.length := List.length_map ..
/-- b is a with the integers replaced in the same order -/
def Iso (a b : Inp α) : Prop := ∃ f, Mono f (vals a) ∧ b = mapV f a
theorem Iso.dense {a b : Inp α} (h : Iso a b) : VM.dense a = VM.dense b := by
  obtain ⟨f, h1, rfl⟩ := h
  exact (dense_map h1).symm
theorem iso_of_dense {a b : Inp α} (h : VM.dense a = VM.dense b) : Iso a b := by
  have hl : a.length = b.length := by rw [← dense_len a, h, dense_len]
  have hi : ∀ (i : Nat) (m n : α × Int), a[i]? = some m → b[i]? = some n → m.1 = n.1 ∧ less (vals a) m.2 = less (vals b) n.2 := fun i m n h1 h2 => by
    have e := congrArg (fun l => l[i]?) h
    simp only [VM.dense, List.getElem?_map, h1, h2, Option.map_some, Option.some.injEq, Prod.mk.injEq] at e
    exact ⟨e.1, by have := e.2; omega⟩
  refine ⟨fun x => ((sortI (vals b))[less (vals a) x]?).getD 0, ?_, ?_⟩
  · have at_ : ∀ x ∈ vals a, ∃ n ∈ b, less (vals a) x = less (vals b) n.2 := fun x hx => by
      obtain ⟨m, hm, rfl⟩ := List.mem_map.mp hx
      obtain ⟨i, e⟩ := List.mem_iff_getElem?.mp hm
      have hib : i < b.length := by rw [← hl]; exact (List.getElem?_eq_some_iff.mp e).1
      exact ⟨b[i], List.getElem_mem hib, (hi i m _ e (List.getElem?_eq_getElem hib)).2⟩
    have val : ∀ n ∈ b, ((sortI (vals b))[less (vals b) n.2]?).getD 0 = n.2 := fun n hn => by
      unfold less
      rw [sorted_cnt (sortI_sorted _) ((sortI_mem _ _).mpr (mem_vals hn))]
      rfl
    intro x hx y hy hxy
    obtain ⟨m, hm, e1⟩ := at_ x hx
    obtain ⟨n, hn, e2⟩ := at_ y hy
    show ((sortI (vals b))[less (vals a) x]?).getD 0 < ((sortI (vals b))[less (vals a) y]?).getD 0
    rw [e1, e2, val m hm, val n hn]
    have := (less_iff (x := y) hx).mp hxy
    exact (less_iff (x := n.2) (mem_vals hm)).mpr (by omega)
  · apply List.ext_getElem?
    intro i
    unfold mapV
    rw [List.getElem?_map]
    cases e : a[i]? with
    | none =>
      rw [List.getElem?_eq_none_iff] at e
      rw [Option.map_none, List.getElem?_eq_none_iff]
      omega
    | some m =>
      have hib : i < b.length := by rw [← hl]; exact (List.getElem?_eq_some_iff.mp e).1
      have eb := List.getElem?_eq_getElem hib
      obtain ⟨h1, h2⟩ := hi i m _ e eb
      rw [eb, Option.map_some]
      congr 1
      refine Prod.ext h1.symm ?_
      show b[i].2 = ((sortI (vals b))[less (vals a) m.2]?).getD 0
      rw [h2]
      unfold less
      rw [sorted_cnt (sortI_sorted _) ((sortI_mem _ _).mpr (mem_vals (List.getElem_mem hib)))]
      rfl
theorem dense_iff {a b : Inp α} : VM.dense a = VM.dense b ↔ Iso a b := ⟨iso_of_dense, Iso.dense⟩
theorem posOf_map {f : Int → Int} {vs : List Int} {x : Int} (h : Mono f (x :: vs)) : posOf (vs.map f) (f x) = posOf vs x := by
  unfold posOf
  rw [less_map h]
  congr 1
  have : f x ∈ vs.map f ↔ x ∈ vs := by
    rw [List.mem_map]
    constructor
    · rintro ⟨y, hy, e⟩
      rw [← h.inj (List.mem_cons_of_mem _ hy) List.mem_cons_self e]
      exact hy
    · exact fun hx => ⟨x, hx, rfl⟩
  by_cases hx : x ∈ vs
  · rw [if_pos hx, if_pos (this.mpr hx)]
  · rw [if_neg hx, if_neg (fun q => hx (this.mp q))]
theorem codeGo_map {f : Int → Int} : ∀ (ms : Inp α) (seen : List Int), Mono f (seen ++ vals ms) → codeGo (seen.map f) (mapV f ms) = codeGo seen ms
  | [], _, _ => rfl
  | m :: r, seen, h => by
    show (m.1, posOf (seen.map f) (f m.2)) :: codeGo ((m.2 :: seen).map f) (mapV f r) = _
    have h1 : Mono f (m.2 :: seen) := h.sub fun x hx => by
      rcases List.mem_cons.mp hx with rfl | hx
      · exact List.mem_append_right _ (mem_vals List.mem_cons_self)
      · exact List.mem_append_left _ hx
    rw [posOf_map h1, codeGo_map r (m.2 :: seen) (h.sub fun x hx => ?_)]
    · rfl
    · rcases List.mem_append.mp hx with hx | hx
      · rcases List.mem_cons.mp hx with rfl | hx
        · exact List.mem_append_right _ (mem_vals List.mem_cons_self)
        · exact List.mem_append_left _ hx
      · exact List.mem_append_right _ (List.mem_cons_of_mem _ hx)
theorem Iso.code {a b : Inp α} (h : Iso a b) : VM.code a = VM.code b := by
  obtain ⟨f, h1, rfl⟩ := h
  exact (codeGo_map a [] h1).symm
/-- one more integer at the same position -/
theorem mono_more {f : Int → Int} {seen : List Int} {v v' : Int} (h : Mono f seen) (e : posOf seen v = posOf (seen.map f) v') : Mono (fun y => if y = v then v' else f y) (v :: seen) ∧ ∀ y ∈ seen, (if y = v then v' else f y) = f y := by
  have hm : v ∈ seen ↔ v' ∈ seen.map f := by
    unfold posOf at e
    by_cases h1 : v ∈ seen <;> by_cases h2 : v' ∈ seen.map f <;> simp only [h1, h2, if_true, if_false] at e <;> first | exact ⟨fun _ => h2, fun _ => h1⟩ | (exfalso; omega) | exact ⟨fun q => absurd q h1, fun q => absurd q h2⟩
  have hl : less seen v = less (seen.map f) v' := by
    unfold posOf at e
    by_cases h1 : v ∈ seen
    · rw [if_pos h1, if_pos (hm.mp h1)] at e; omega
    · rw [if_neg h1, if_neg (fun q => h1 (hm.mpr q))] at e; omega
  have hf : ∀ y ∈ seen, less (seen.map f) (f y) = less seen y := fun y hy => less_map (h.sub fun z hz => by
    rcases List.mem_cons.mp hz with rfl | hz
    · exact hy
    · exact hz)
  have fm : ∀ y ∈ seen, f y ∈ seen.map f := fun y hy => List.mem_map.mpr ⟨y, hy, rfl⟩
  have lt1 : ∀ y ∈ seen, (y < v ↔ f y < v') := fun y hy => by
    rw [less_iff hy, less_iff (fm y hy), hf y hy, hl]
  have eq1 : ∀ y ∈ seen, (y = v ↔ f y = v') := fun y hy => by
    constructor
    · intro q
      subst q
      refine less_inj (fm y hy) (hm.mp hy) ?_
      rw [hf y hy, hl]
    · intro q
      have hv : v ∈ seen := hm.mpr (by rw [← q]; exact fm y hy)
      refine less_inj hy hv ?_
      rw [← hf y hy, q, hl]
  have same : ∀ y ∈ seen, (if y = v then v' else f y) = f y := fun y hy => by
    by_cases q : y = v
    · rw [if_pos q]; exact ((eq1 y hy).mp q).symm
    · rw [if_neg q]
  refine ⟨fun x hx y hy hxy => ?_, same⟩
  show (if x = v then v' else f x) < (if y = v then v' else f y)
  rcases List.mem_cons.mp hx with qx | qx <;> rcases List.mem_cons.mp hy with qy | qy
  · omega
  · rw [if_pos qx, same y qy]
    have a := lt1 y qy
    have b := eq1 y qy
    omega
  · rw [if_pos qy, same x qx]
    exact (lt1 x qx).mp (by omega)
  · rw [same x qx, same y qy]
    exact h x qx y qy hxy
theorem iso_of_codeGo : ∀ (a b : Inp α) (f : Int → Int) (seen : List Int), Mono f seen → codeGo seen a = codeGo (seen.map f) b → ∃ g, Mono g (seen ++ vals a) ∧ (∀ y ∈ seen, g y = f y) ∧ b = mapV g a
  | [], [], f, seen, h, _ => ⟨f, by simpa [vals] using h, fun _ _ => rfl, rfl⟩
  | [], n :: t, _, _, _, e => by simp [codeGo] at e
  | m :: r, [], _, _, _, e => by simp [codeGo] at e
  | m :: r, n :: t, f, seen, h, e => by
    simp only [codeGo, List.cons.injEq, Prod.mk.injEq] at e
    obtain ⟨⟨e1, e2⟩, e3⟩ := e
    obtain ⟨h1, h2⟩ := mono_more h e2
    have es : n.2 :: seen.map f = (m.2 :: seen).map (fun y => if y = m.2 then n.2 else f y) := by
      rw [List.map_cons, if_pos rfl]
      congr 1
      exact List.map_congr_left fun y hy => (h2 y hy).symm
    rw [es] at e3
    obtain ⟨g, g1, g2, g3⟩ := iso_of_codeGo r t _ (m.2 :: seen) h1 e3
    refine ⟨g, g1.sub fun x hx => ?_, fun y hy => by rw [g2 y (List.mem_cons_of_mem _ hy), h2 y hy], ?_⟩
    · rcases List.mem_append.mp hx with hx | hx
      · exact List.mem_append_left _ (List.mem_cons_of_mem _ hx)
      · rcases List.mem_cons.mp hx with q | hx
        · rw [q]; exact List.mem_append_left _ List.mem_cons_self
        · exact List.mem_append_right _ hx
    · show n :: t = (m.1, g m.2) :: mapV g r
      rw [← g3, g2 m.2 List.mem_cons_self, if_pos rfl, e1]
theorem iso_of_code {a b : Inp α} (h : VM.code a = VM.code b) : Iso a b := by
  obtain ⟨g, g1, _, g3⟩ := iso_of_codeGo a b id [] (fun x hx => by cases hx) h
  exact ⟨g, g1, g3⟩
theorem code_iff {a b : Inp α} : VM.code a = VM.code b ↔ VM.dense a = VM.dense b := ⟨fun h => (iso_of_code h).dense, fun h => (iso_of_dense h).code⟩
end
/-! ### first occurrences -/
def fo : List Int → List Int → List Int
  | acc, [] => acc
  | acc, v :: r => fo (if v ∈ acc then acc else acc ++ [v]) r
theorem fo_nodup : ∀ (vs acc : List Int), acc.Nodup → (fo acc vs).Nodup
  | [], _, h => h
  | v :: r, acc, h => by
    unfold fo
    by_cases hv : v ∈ acc
    · rw [if_pos hv]; exact fo_nodup r acc h
    · rw [if_neg hv]
      refine fo_nodup r _ (List.nodup_append.mpr ⟨h, by simp, fun a ha b hb => ?_⟩)
      rw [List.mem_singleton.mp hb]
      exact fun q => hv (by rw [← q]; exact ha)
theorem fo_mem (z : Int) : ∀ (vs acc : List Int), z ∈ fo acc vs ↔ z ∈ acc ∨ z ∈ vs
  | [], acc => by simp [fo]
  | v :: r, acc => by
    unfold fo
    rw [fo_mem z r]
    by_cases hv : v ∈ acc
    · rw [if_pos hv, List.mem_cons]
      constructor
      · rintro (h | h) <;> simp [h]
      · rintro (h | h | h)
        · exact .inl h
        · exact .inl (by rw [h]; exact hv)
        · exact .inr h
    · rw [if_neg hv, List.mem_append, List.mem_singleton, List.mem_cons]
      constructor
      · rintro ((h | h) | h) <;> simp [h]
      · rintro (h | h | h) <;> simp [h]
theorem fo_less (vs : List Int) (x : Int) : cnt (fo [] vs) x = less vs x :=
  cnt_less (fo_nodup vs [] List.nodup_nil) (fun z => by rw [fo_mem]; simp) x
theorem fo_snoc (acc vs : List Int) (x : Int) : fo acc (vs ++ [x]) = if x ∈ fo acc vs then fo acc vs else fo acc vs ++ [x] := by
  induction vs generalizing acc with
  | nil => rfl
  | cons v r ih =>
    rw [List.cons_append]
    unfold fo
    exact ih _
theorem fo_len (vs : List Int) : (fo [] vs).length ≤ vs.length := nodup_le (fo_nodup vs [] List.nodup_nil) fun z hz => by
  rcases (fo_mem z vs []).mp hz with h | h
  · cases h
  · exact h
/-- how many items of a list without repetitions are x -/
theorem count_mem {s : List Int} (hs : s.Nodup) (x : Int) : (s.filter fun y => decide (y = x)).length = if x ∈ s then 1 else 0 := by
  induction s with
  | nil => rfl
  | cons y r ih =>
    obtain ⟨h1, h2⟩ := List.nodup_cons.mp hs
    rw [List.filter_cons]
    by_cases e : y = x
    · subst e
      rw [if_pos (by simp), if_pos List.mem_cons_self, List.length_cons, ih h2, if_neg h1]
    · rw [if_neg (by simpa using e), ih h2]
      have : (x ∈ y :: r) ↔ x ∈ r := by simp [Ne.symm e]
      simp only [this]
end VM
/-! VM7 -/
namespace VM
open PySem PySem.Spec PyProof.Rows L2

/-! ### sorted(set(xs)), xs a list of ints of any number -/
def intsOf : List D → Option (List Int)
  | [] => some []
  | .int i :: r => (intsOf r).bind fun is => some (i :: is)
  | _ => none
theorem intsOf_map : ∀ is : List Int, intsOf (is.map .int) = some is
  | [] => rfl
  | i :: r => by
    show (intsOf (r.map D.int)).bind _ = _
    rw [intsOf_map r]
    rfl
theorem intsOf_ok {K : PySem.W.Frag} {F : Hp} : ∀ {vs : List V} {ds : List D} {is : List Int}, Reps K F vs ds → intsOf ds = some is → vs = is.map .int
  | _, _, _, .nil, e => by cases e; rfl
  | _, _, _, .cons (d := .int i) (.int _) r, e => by
    obtain ⟨js, h, e⟩ := Option.bind_eq_some_iff.mp e
    cases e
    rw [intsOf_ok r h]
    rfl
  | _, _, _, .cons .non r, e => by cases e
  | _, _, _, .cons (.bl _) r, e => by cases e
  | _, _, _, .cons (.str _) r, e => by cases e
  | _, _, _, .cons (.tup _ _) r, e => by cases e
  | _, _, _, .cons (.lst _ _) r, e => by cases e
  | _, _, _, .cons (.ro _ _) r, e => by cases e
  | _, _, _, .cons (.tpd _ _ _) r, e => by cases e
  | _, _, _, .cons (.dK _ _) r, e => by cases e
  | _, _, _, .cons (.dT _ _) r, e => by cases e
  | _, _, _, .cons (.ins _ _) r, e => by cases e
theorem setR_size {w : World} {h : Heap} {a : Addr} {ns : List Int} {c : Nat} (R : SetR w h a (fun j => decide (j ∈ ns)) c) : c = (sortI ns).length := by
  obtain ⟨o, es, ep, t, _, _, _, _, nd, mem, _, _, hc, _⟩ := R
  have e : (es.toList.map keyOf).length = c := by rw [List.length_map, Array.length_toList, hc]
  have m1 : ∀ z : Int, z ∈ es.toList.map keyOf ↔ z ∈ sortI ns := fun z => by
    rw [← mem z, sortI_mem]
    simp
  have l1 := nodup_le nd fun z hz => (m1 z).mp hz
  have l2 := nodup_le (sorted_nodup (sortI_sorted ns)) fun z hz => (m1 z).mpr hz
  omega
section
variable {X : Cx}
theorem cr_setL (hc : X.calm = true) : CallR X (.type "set") (fun xs H Q => ∃ (p : Addr) (ns : List Int), xs = [.ref p] ∧ SqL X.K H p (ns.map V.int) ∧ ns.length ≤ 4000 ∧
    ∀ u : Addr, H u = none → Q (.ref u) (upd H u (SetO X.w u (fun j => decide (j ∈ ns)) (sortI ns).length))) := by
  intro pins s σ H xs us Q I r h
  obtain ⟨p, ns, rfl, hq, hl, q⟩ := h
  rw [Vals.ref1 r]
  obtain ⟨its, rv, pl, _⟩ := I.list hq
  refine set_of_list ns (I.ok.hd hc) pl.isList (by simpa using rv.ints) (by unfold scanBound; omega) fun h' tk c R hcn hk => ?_
  have ec := setR_size R
  subst ec
  exact ⟨.ref s.heap.objs.size, _, I.laid (t' := tk) (o := SetO X.w s.heap.objs.size (fun j => decide (j ∈ ns)) (sortI ns).length) (fun b ob e => hk b ob e) (Nat.le_refl _) (setO_new R), rfl, q _ (I.hok.fresh (Nat.le_refl _))⟩
end
/-! ### sorted of a set of ints, any number of them -/
section
variable {P : Program} {w : World} {A : Around} {E : Value → Shared → Prop} {s : Shared} {a : Addr} {n : Nat}
theorem sorted_setN {T : Int → Bool} {Q : Value → Shared → Prop} (R : SetR w s.heap a T n) (noExc : A.handled = none) (few : n ≤ sizeLine)
    (fin : ∀ s' p (out : Array Value) (c : Nat) (ns : List Int), (∀ b o, s.heap.get? b = some o → s'.heap.get? b = some o) → s'.gens = s.gens → s'.os = s.os → s.heap.objs.size ≤ p →
      s'.heap.get? p = some (seqObj "list" out c) → IntsAre out.toList ns → ns.Pairwise (· < ·) → (∀ k, k ∈ ns ↔ T k = true) → ns.length = n → Q (.ref p) s') :
    wpAny (model P w) A (call (.builtin "sorted") [.ref a]) Q E s := by
  rcases R with ⟨o, es, ep, t, ho, hex, hd, key, nd, hm, hb, hf, hn, hr, hl⟩
  suffices taken : wpAny (model P w) A.in1 (Builtin.«sorted» ⟨[.ref a], []⟩) (fun f z => ∃ v, f = .done (.ret v) ∧ Q v z) E s from Calls.call_function_entry kind_sorted plain_sorted entry_sorted (args_sorted1 _) taken
  unfold Builtin.«sorted»
  refine wpAny_bind (m := checkCount "sorted" 1 1 _) (wpAny_pure (wpAny_bind (collect_set (A := A.in1) noExc ⟨o, ho, hex.1, hd⟩ hf hb hr hl fun s1 vs k1 hz g1 o1 pm => ?_)))
  have many : vs.length = n := by rw [pm.length_eq, List.length_map, Array.length_toList]; exact hn
  have few' : vs.length ≤ sizeLine := by omega
  have pk : (vs.map Builtin.Re.reRawOf).Perm (es.toList.map keyOf) := .trans (pm.map Builtin.Re.reRawOf) (by rw [List.map_map]; exact .refl _)
  have each : ∀ v ∈ vs, ∃ k tk, v = Value.int k tk := fun v hv => by
    rcases List.mem_map.mp (pm.mem_iff.mp hv) with ⟨en, inn, rfl⟩
    rcases key en inn with ⟨k, tk, z, _⟩
    exact ⟨k, tk, z⟩
  have hI : IntsAre vs (vs.map Builtin.Re.reRawOf) := ints_of vs each
  refine wpAny_bind (wpAny_newList ?_ few')
  have hoL : (s1.heap.push (seqObj "list" vs.toArray 0)).get? s1.heap.objs.size = some (seqObj "list" vs.toArray 0) := Heap.get?_push_size _ rfl
  refine wpAny_bind (wpAny_holding (wpAny_call_entry slot_list_sort ⟨_, hoL, rfl⟩ entry_list_sort (SrtO.list_sort_ord SrtO.swo_int hoL few' (fun h2 => SrtO.ints_sortable hI h2) fun out h1 h2 => ⟨_, rfl, ?_⟩) (args_list_sort _)))
  obtain ⟨q1, q2, q3⟩ := SrtO.ints_out hI h1 h2
  obtain ⟨c, hc⟩ := sortedHeap_at (vs := vs) (out := out.toArray) hoL
  have pn : (out.map SrtO.iv).Perm (es.toList.map keyOf) := q2.trans pk
  refine wpAny_pure ⟨_, rfl, fin _ s1.heap.objs.size out.toArray c (out.map SrtO.iv) (fun b u e => ?_) g1 o1 hz hc q1 (lt_of_le_nodup _ q3 (pn.nodup_iff.mpr nd)) (fun k => by rw [pn.mem_iff, ← hm k]) ?_⟩
  · have q := k1 b u e
    have below := Heap.lt_size q
    show (sortedHeap (s1.heap.push (seqObj "list" vs.toArray 0)) s1.heap.objs.size vs out.toArray).get? b = some u
    rw [sortedHeap_old (Nat.ne_of_lt below) (by rw [size_push']; exact Nat.lt_succ_of_lt below)]
    exact Heap.get?_push_of_some _ q
  · rw [pn.length_eq, List.length_map, Array.length_toList]; exact hn
end
section
variable {X : Cx}
theorem cr_sortedSetN (calm : X.calm = true) : CallR X (.builtin "sorted") (fun vs H Q => ∃ (a : Addr) (T : Int → Bool) (n : Nat), vs = [V.ref a] ∧ H a = some (SetO X.w a T n) ∧ n ≤ 4000 ∧
    ∀ (ns : List Int) (p : Addr), ns.Pairwise (· < ·) → (∀ k : Int, k ∈ ns ↔ T k = true) → ns.length = n → H p = none → Q (.ref p) (upd H p (.lst (ns.map V.int)))) := by
  intro pins s σ H vs us Q I r h
  obtain ⟨a, T, n, rfl, ha, few, q⟩ := h
  have R := setO_get I ha
  rw [Vals.ref1 r]
  refine sorted_setN R (I.ok.hd calm) (by rw [sizeLine_eq]; omega) fun s' p out c ns k g o hp hg hi hs hm hl => ?_
  have short : (ns.map V.int).length ≤ sizeLine := by rw [List.length_map, hl, sizeLine_eq]; omega
  have hn : H p = none := I.hok.fresh hp
  have J : Inv X pins σ (upd H p (.lst (ns.map V.int))) { s with heap := s'.heap, gens := s'.gens, drawn := s'.drawn, toks := s'.toks } :=
    I.call (ch := []) (Un.laid k hp hn) (I.hok.laid k hp ⟨short, out.toList, c, vals_of_ints hi, hg⟩) (by rw [g]; exact I.bare) (fun _ z => nomatch z)
  obtain ⟨y1, y2, y3, y4, y5⟩ := s'
  obtain rfl : y5 = s.os := o
  exact ⟨.ref p, _, J, rfl, q ns p hs hm hl hn⟩
end
def dSortSet : D → Option D
  | .lst xs => (intsOf xs).bind fun is => if is.length ≤ 4000 then some (.lst ((sortI is).map .int)) else none
  | _ => none
section
variable {S : Static} {a : Expr} {p p2 pos pos2 : Pos} {fa : Env → Option D}
theorem ints_reps {K : PySem.W.Frag} {F : Hp} : ∀ is : List Int, Reps K F (is.map .int) (is.map .int)
  | [] => .nil
  | i :: r => .cons (.int i) (ints_reps r)
theorem me_sortset (hm : S.mg "sorted" = none) (hm2 : S.mg "set" = none) (ha : ME S a fa) (hg : S.sc.names.lookup ("sorted" : Str) = some .globalImplicit := by rfl) (hg2 : S.sc.names.lookup ("set" : Str) = some .globalImplicit := by rfl) (h1 : notStar a = true := by rfl) :
    ME S (.Call (.Name "sorted" p) [.Call (.Name "set" p2) [a] [] pos2] [] pos) (f1 dSortSet fa) := fun X G =>
  PE.imp (pe_callB (cr_sortedSetN G.calm) (G.gl hg) (by rw [G.mg]; exact hm) PyProof.Rows.boot_sorted (pa_cons (pe_callTy (cr_setL G.calm) (G.gl hg2) (by rw [G.mg]; exact hm2) PyProof.Rows.boot_set (pa_cons (ha X G) pa_nil (star_one h1)) (by decide) (by decide) (star_one h1) rfl) pa_nil) (by decide) (by decide)) fun σ H Q h => by
    obtain ⟨F, ρ, d, s, ok, h1, k⟩ := one h
    refine ⟨F, ρ, d, s, ok, h1, fun v F1 H1 x1 r1 => ?_⟩
    obtain ⟨F2, dx, d2, s2, r2, e2, q⟩ := k v F1 H1 x1 r1
    cases r2 <;> simp only [dSortSet] at e2 <;> try (cases e2; done)
    rename_i hh rr
    obtain ⟨is, hi, e2⟩ := Option.bind_eq_some_iff.mp e2
    split at e2 <;> cases e2
    rename_i hz
    have ei := intsOf_ok rr hi
    subst ei
    refine ⟨_, is, rfl, by rw [G.K]; exact SqL.of (s2 _ _ hh), hz, fun u hu => ?_⟩
    refine ⟨u, _, _, rfl, upd_same, Nat.le_trans (sortI_len is) hz, fun ns p hs hmem hlen hp => ?_⟩
    have en : ns = sortI is := sorted_one hs (sortI_sorted is) fun z => by
      rw [hmem z, sortI_mem]
      simp
    subst en
    have su := same_new (o := SetO X.w u (fun j => decide (j ∈ is)) (sortI is).length) hu
    have hpH : H1 p = none := Same.none_of su hp
    have x := Ext.new s2 (o := .lst ((sortI is).map V.int)) hpH
    refine q _ _ _ ⟨x.f, fun b o e => ?_, fun b o e => ?_, x.n⟩ (.lst upd_same (ints_reps _))
    · exact same_new hp _ _ (su _ _ e)
    · by_cases hb : b = p
      · subst hb
        rw [upd_same] at e ⊢
        exact e
      · rw [upd_ne hb] at e ⊢
        exact su _ _ (s2 _ _ e)
end
end VM
/-! VM8 -/
namespace VM
open PySem PySem.Spec PyProof.Rows L2

/-! ### t.index(x), t a tuple of texts that is known to have no dict -/
def fidx (z : Str) : List Str → Option Nat
  | [] => none
  | u :: r => if u = z then some 0 else (fidx z r).map (· + 1)
theorem fidx_some : ∀ {us : List Str} {z : Str} {j : Nat}, fidx z us = some j → us[j]? = some z ∧ ∀ m, m < j → us[m]? ≠ some z
  | [], _, _, e => by cases e
  | u :: r, z, j, e => by
    unfold fidx at e
    by_cases h : u = z
    · rw [if_pos h] at e
      cases e
      exact ⟨congrArg some h, fun m hm => absurd hm (Nat.not_lt_zero _)⟩
    · rw [if_neg h] at e
      obtain ⟨i, hi, rfl⟩ := Option.map_eq_some_iff.mp e
      obtain ⟨h1, h2⟩ := fidx_some hi
      refine ⟨by simpa using h1, fun m hm => ?_⟩
      cases m with
      | zero => exact fun q => h (Option.some.inj q)
      | succ m => simpa using h2 m (by omega)
def strsOf : List D → Option (List Str)
  | [] => some []
  | .str x :: r => (strsOf r).bind fun us => some (x :: us)
  | _ => none
theorem strsOf_map : ∀ us : List Str, strsOf (us.map .str) = some us
  | [] => rfl
  | u :: r => by
    show (strsOf (r.map D.str)).bind _ = _
    rw [strsOf_map r]
    rfl
theorem strsOf_ok {K : PySem.W.Frag} {F : Hp} : ∀ {vs : List V} {ds : List D} {us : List Str}, Reps K F vs ds → strsOf ds = some us → vs = us.map .str
  | _, _, _, .nil, e => by cases e; rfl
  | _, _, _, .cons (d := .str i) (.str _) r, e => by
    obtain ⟨js, h, e⟩ := Option.bind_eq_some_iff.mp e
    cases e
    rw [strsOf_ok r h]
    rfl
  | _, _, _, .cons .non r, e => by cases e
  | _, _, _, .cons (.bl _) r, e => by cases e
  | _, _, _, .cons (.int _) r, e => by cases e
  | _, _, _, .cons (.tup _ _) r, e => by cases e
  | _, _, _, .cons (.lst _ _) r, e => by cases e
  | _, _, _, .cons (.ro _ _) r, e => by cases e
  | _, _, _, .cons (.tpd _ _ _) r, e => by cases e
  | _, _, _, .cons (.dK _ _) r, e => by cases e
  | _, _, _, .cons (.dT _ _) r, e => by cases e
  | _, _, _, .cons (.ins _ _) r, e => by cases e
def dTix : D → D → Option D
  | .tpd ys, .str z => (strsOf ys).bind fun us => (fidx z us).map fun j => .int (j : Nat)
  | _, _ => none
section
variable {X : Cx} {o e : Expr} {es : List Expr} {to : TE} {t : TA} {apos cpos : Pos}
theorem pe_tix (ho : PE X o to) (ha : PA X (e :: es) t)
    (hbase : attributeBase o "index" X.env (eval o X.env) = eval o X.env := by rfl)
    (hfew : ((backTo cpos (starEach (e :: es) X.env)).all (fun x => !x.1) && (backToKw cpos (keywordEach [] X.env)).all (fun x => x.1.isSome)
      && decide ((e :: es).length + ([] : List Keyword).length + (if ([] : List Keyword).isEmpty then 0 else 1) < 30)) = true := by rfl)
    (hline : (apos.endLine == cpos.line) = true := by rfl) (hs : starEach (e :: es) X.env = (false, eval e X.env) :: starEach es X.env := by rfl) (hplain : (backTo cpos (starEach es X.env)).any (·.1) = false := by rfl) :
    PE X (.Call (.Attribute o "index" apos) (e :: es) [] cpos) (fun σ H Q => to σ H fun x H1 => (∃ (p : Addr) (ob : Obj) (ys : List V), x = .ref p ∧ H1 p = some (.frz ob (.tup ys)) ∧ ob.dict = none) ∧
      t σ H1 fun xs H2 => ∃ (p : Addr) (ys : List Str) (z : Str) (j : Nat), x = .ref p ∧ xs = [.str z] ∧ SqT X.K H2 p (ys.map V.str) ∧ ys[j]? = some z ∧ (∀ m, m < j → ys[m]? ≠ some z) ∧ Q (.int (j : Nat)) H2) := by
  refine ⟨fun pins s σ H Q I h => ?_⟩
  refine wpAny_Call_method_late hbase hfew hline rfl (thn (ho.run pins s σ H _ I h) fun v s1 ⟨x, H1, I1, r1, ty, q1⟩ => ?_)
  obtain ⟨p, ob, ys, rfl, hp, nd⟩ := ty
  cases r1
  obtain ⟨ho1, _, its, _, o2, ho2, hc2, _⟩ := I1.hok p _ hp
  have eo : ob = o2 := Option.some.inj (ho1.symm.trans ho2)
  subst eo
  refine ⟨"tuple", "tuple.index", PySem.F.plainAttrs_tuple, PySem.F.slot_tuple_index, PySem.F.type_tuple_index, ⟨ob, ho1, hc2⟩, fun a ea => ?_, ?_⟩
  · cases ea
    exact ⟨ob, ho1, nd⟩
  · have hA := ha.run cpos pins s1 σ H1 _ I1 q1
    rw [hs] at hA ⊢
    refine Calls.callWith_builtin (by show (false || (backTo cpos (starEach es X.env)).any (·.1)) = false; rw [hplain]; rfl) (Calls.evalArgs_plain ?_)
    exact thn hA fun us s2 ⟨vs, H2, I2, r2, q2⟩ => by
      obtain ⟨p2, ys2, z, j, e1, e2, e3, e4, e5, e6⟩ := q2
      exact mt_tup_index pins s2 σ H2 (.ref p) vs (.ref p) us Q I2 rfl r2 ⟨p2, ys2, z, j, e1, e2, e3, e4, e5, e6⟩
end
section
variable {S : Static} {a b : Expr} {pos p2 : Pos} {fa fb : Env → Option D}
theorem me_tix (ha : ME S a fa) (hb : ME S b fb) (hbase : ∀ env, attributeBase a "index" env (eval a env) = eval a env := by intro _; rfl) (hs : notStar b = true := by rfl) (hl : (p2.endLine == pos.line) = true := by rfl) : ME S (.Call (.Attribute a "index" p2) [b] [] pos) (f2 dTix fa fb) := fun X G =>
  PE.imp (pe_tix (ha X G) (ma_cons hb ma_nil hs X G) (hbase := hbase _) (hfew := by rw [star_one hs]; rfl) (hline := hl) (hs := star_one hs)) fun σ H Q ⟨F, ρ, d, s, ok, e, q⟩ => by
    obtain ⟨x, y, h1, h2, h3⟩ := f2_some e
    cases x <;> try (cases h3; done)
    rename_i ys
    cases y <;> try (cases h3; done)
    rename_i z
    obtain ⟨us, e1, h3⟩ := Option.bind_eq_some_iff.mp h3
    obtain ⟨j, e2, rfl⟩ := Option.map_eq_some_iff.mp h3
    obtain ⟨k1, k2⟩ := fidx_some e2
    refine ⟨F, ρ, _, s, ok, h1, fun v F1 H1 x1 r1 => ?_⟩
    cases r1 with
    | tpd hh nd rr =>
      refine ⟨⟨_, _, _, rfl, x1.s _ _ hh, nd⟩, F1, ρ, [.str z], x1.s, ok.mono x1.f, ?_, fun vs F2 H2 x2 r2 => ?_⟩
      · show (fb ρ).bind _ = _
        rw [h2]
        rfl
      · obtain ⟨v, rfl, rv⟩ := r2.one
        cases rv
        have hu := strsOf_ok rr e1
        subst hu
        exact ⟨_, us, z, j, rfl, rfl, .inl (.inr ⟨_, x2.s _ _ (x2.f _ _ hh)⟩), k1, k2, q _ F2 H2 (x1.trans x2) (.int _)⟩
end

/-! ### targets within targets -/
theorem PGs.imp {X : Cx} {es : List Expr} {t t' : TGs} (h : PGs X es t) (i : ∀ vs σ H Q, t' vs σ H Q → t vs σ H Q) : PGs X es t' := ⟨fun pins s σ H vs us Q I r q => h.run pins s σ H vs us Q I r (i vs σ H Q q)⟩
def MGsT (S : Static) (es : List Expr) (t : List D → Sv → Option Sv) : Prop := ∀ X, Good S X → ∀ F0 H0, PGs X es (fun vs σ H Q => ∃ F ds ρ ρ', StOk S.K F0 H0 F H σ ρ ∧ Reps S.K F vs ds ∧ t ds ρ = some ρ' ∧ ∀ σ', StOk S.K F0 H0 F H σ' ρ' → Q σ' H)
def tsNil : List D → Sv → Option Sv
  | [], ρ => some ρ
  | _, _ => none
def tsCons (t : D → Sv → Option Sv) (ts : List D → Sv → Option Sv) : List D → Sv → Option Sv
  | d :: ds, ρ => (t d ρ).bind fun ρ1 => ts ds ρ1
  | _, _ => none
/-- how many targets -/
def sTree (n : Nat) (ts : List D → Sv → Option Sv) : D → Sv → Option Sv
  | .tup ds, ρ => if ds.length = n then ts ds ρ else none
  | .tpd ds, ρ => if ds.length = n then ts ds ρ else none
  | .lst ds, ρ => if ds.length = n then ts ds ρ else none
  | _, _ => none
section
variable {S : Static} {e : Expr} {es : List Expr} {pos : Pos} {t : D → Sv → Option Sv} {ts : List D → Sv → Option Sv}
theorem mgt_nil : MGsT S [] tsNil := fun X G F0 H0 => PGs.imp pgs_nil fun vs σ H Q ⟨F, ds, ρ, ρ', ok, r, e, q⟩ => by
  cases r with
  | nil => cases e; exact ⟨rfl, q _ ok⟩
  | cons _ _ => cases e
theorem assign_cons {env : PySem.Env} (hn : notStar e = true) : List.map (fun x => x.2) (assignEach (e :: es) env) = assign e env :: List.map (fun x => x.2) (assignEach es env) := by
  cases e <;> first | rfl | (cases hn; done)
theorem mgt_cons (h : MGs S e t) (hs : MGsT S es ts) (hn : notStar e = true := by rfl) : MGsT S (e :: es) (tsCons t ts) := fun X G F0 H0 => PGs.imp (pgs_cons (h X G F0 H0) (hs X G F0 H0) (hs := assign_cons hn)) fun vs σ H Q ⟨F, ds, ρ, ρ', ok, r, e, q⟩ => by
  cases r with
  | nil => cases e
  | cons rv rr =>
    obtain ⟨ρ1, e1, e2⟩ := Option.bind_eq_some_iff.mp e
    exact ⟨_, _, rfl, F, ρ, _, ρ1, ok, rv, e1, fun σ' ok' => ⟨F, _, ρ1, ρ', ok', rr, e2, q⟩⟩
theorem assign_len : ∀ {es : List Expr} {env : PySem.Env}, es.all notStar = true → (assignEach es env).length = es.length
  | [], _, _ => rfl
  | e :: es, env, h => by
    rw [List.all_cons, Bool.and_eq_true] at h
    have ih := assign_len (env := env) h.2
    cases e <;> first | exact congrArg (· + 1) ih | (cases h.1; done)
theorem assign_nost : ∀ {es : List Expr} {env : PySem.Env}, es.all notStar = true → (assignEach es env).findIdx? (·.1) = none := by
  intro es env h
  rw [List.findIdx?_eq_none_iff]
  induction es with
  | nil => intro x hx; cases hx
  | cons e es ih =>
    rw [List.all_cons, Bool.and_eq_true] at h
    intro x hx
    cases e <;> first
      | (rcases List.mem_cons.mp hx with q | hx
         · rw [q]
         · exact ih h.2 x hx)
      | (cases h.1; done)
theorem mgs_tree {k : Nat} (h : MGsT S es ts) (hn : es.all notStar = true := by rfl) {n : Nat} (hl : es.length = n := by rfl) : MGs S (.Tuple es k pos) (sTree n ts) := fun X G F0 H0 =>
  ⟨fun pins s σ H v u Q I r ⟨F, ρ, d, ρ', ok, rp, e, q⟩ => by
    subst hl
    cases rp <;> simp only [sTree] at e <;> try (cases e; done)
    case tup a xs ds hh rr yy =>
      split at e
      · rename_i hz
        exact (pg_tup G.calm (h X G F0 H0) (assign_len hn) (assign_nost hn)).run pins s σ H _ u Q I r ⟨a, xs, rfl, by rw [G.K]; exact SqT.of (ok.ext.s _ _ hh), by rw [rr.length]; exact hz, F, _, ρ, ρ', ok, rr, e, q⟩
      · cases e
    case tpd a ob xs ds hh nd rr yy =>
      split at e
      · rename_i hz
        exact (pg_tup G.calm (h X G F0 H0) (assign_len hn) (assign_nost hn)).run pins s σ H _ u Q I r ⟨a, xs, rfl, by rw [G.K]; exact .inl (.inr ⟨_, ok.ext.s _ _ hh⟩), by rw [rr.length]; exact hz, F, _, ρ, ρ', ok, rr, e, q⟩
      · cases e
    case lst a xs ds hh rr yy =>
      split at e
      · rename_i hz
        exact (pg_unl G.calm (h X G F0 H0) (assign_len hn) (assign_nost hn)).run pins s σ H _ u Q I r ⟨a, xs, rfl, by rw [G.K]; exact SqL.of (ok.ext.s _ _ hh), by rw [rr.length]; exact hz, F, _, ρ, ρ', ok, rr, e, q⟩
      · cases e⟩
end
end VM
/-! VM9 -/
namespace VM
open PySem PySem.Spec PyProof.Rows L2

/-! ### [.. for .. if .. for .. if ..] -/
/-- the state while a new list at L grows: tracked things aside from it -/
structure Grow (K : PySem.W.Frag) (F1 H1 : Hp) (L : Addr) (Fc Hc : Hp) (ds0 : List D) : Prop where
  x : Ext F1 (upd H1 L (.lst [])) Fc (upd Hc L (.lst []))
  f : Fc L = none
  l : ∃ vs0, Hc L = some (.lst vs0) ∧ Reps K Fc vs0 ds0
section
variable {K : PySem.W.Frag} {F1 H1 Fc Hc Fa Ha : Hp} {L : Addr} {ds0 : List D}
theorem Grow.same (g : Grow K F1 H1 L Fc Hc ds0) : Same Fc Hc := fun b o eb => by
  have nb : b ≠ L := ne_of_none eb g.f
  have := g.x.s b o eb
  rw [upd_ne nb] at this
  exact this
theorem Grow.off (g : Grow K F1 H1 L Fc Hc ds0) (xa : Ext Fc Hc Fa Ha) : Fa L = none := by
  obtain ⟨vs0, hl, _⟩ := g.l
  exact xa.n L g.f (by rw [hl]; exact fun z => nomatch z)
theorem Grow.next (g : Grow K F1 H1 L Fc Hc ds0) (xa : Ext Fc Hc Fa Ha) : Grow K F1 H1 L Fa Ha ds0 := by
  have fa := g.off xa
  obtain ⟨vs0, hl, r⟩ := g.l
  refine ⟨g.x.trans ⟨xa.f, fun b o eb => ?_, fun b o eb => ?_, fun b e1 e2 => ?_⟩, fa, vs0, xa.h _ _ hl, r.mono xa.f⟩
  · by_cases nb : b = L
    · subst nb
      rw [upd_same] at eb ⊢
      exact eb
    · rw [upd_ne nb] at eb ⊢
      exact xa.h b o eb
  · rw [upd_ne (ne_of_none eb fa)]
    exact xa.s b o eb
  · by_cases nb : b = L
    · subst nb
      exact fa
    · rw [upd_ne nb] at e2
      exact xa.n b e1 e2
theorem Grow.more (g : Grow K F1 H1 L Fc Hc ds0) {v : V} {d : D} (rv : Rep K Fc v d) {vs0 : List V} (hl : Hc L = some (.lst vs0)) : Grow K F1 H1 L Fc (upd Hc L (.lst (vs0 ++ [v]))) (ds0 ++ [d]) := by
  obtain ⟨vs1, hl1, r⟩ := g.l
  rw [hl] at hl1
  cases hl1
  refine ⟨?_, g.f, _, upd_same, r.append (.cons rv .nil)⟩
  rw [upd_upd]
  exact g.x
end
def compL2 (vs1 : List Nat) (t : D → Env → Option Env) (h : Env → Option Bool) (it1 : Env → Option (List D)) (t1 : D → Env → Option Env) (h1 : Env → Option Bool) (f : Env → Option D) (ρ : Env) : List D → Option (List D)
  | [] => some []
  | x :: xs => (t x ρ).bind fun ρ1 => (h ρ1).bind fun b => if b = true then (it1 ρ1).bind fun ys => (compL t1 h1 f (wipeE ρ1 vs1) ys).bind fun zs => (compL2 vs1 t h it1 t1 h1 f ρ xs).bind fun ws => some (zs ++ ws) else compL2 vs1 t h it1 t1 h1 f ρ xs
def fComp2 (vs vs1 : List Nat) (i : Env → Option (List D)) (t : D → Env → Option Env) (h : Env → Option Bool) (it1 : Env → Option (List D)) (t1 : D → Env → Option Env) (h1 : Env → Option Bool) (f : Env → Option D) : Env → Option (List D) := fun ρ =>
  (i ρ).bind fun xs => (compL2 vs1 t h it1 t1 h1 f (wipeE ρ vs) xs).bind fun ds => if ds.length < sizeLine then some ds else none
section
variable {K : PySem.W.Frag} {i it1 : Env → Option (List D)} {t t1 : D → Env → Option Env} {h h1 : Env → Option Bool} {f : Env → Option D} {is is1 : List Nat}
theorem lc2_run {σ : St} {H : Hp} {Q : VK} {vs vs1 : List Nat} (hs : ∀ j ∈ is, j ∈ vs) (hs1 : ∀ j ∈ is1, j ∈ vs1) (q : tFr K (fComp2 vs vs1 i t h it1 t1 h1 f) σ H Q) :
    tLc2 (tIv K i) (fun v σ H Q => ∃ F ρ d ρ', Same F H ∧ EnvOk K F σ ρ ∧ Rep K F v d ∧ t d ρ = some ρ' ∧ ∀ σ', EnvOk K F σ' ρ' → Touch is σ σ' → Q σ' H) (tTv K h) (tIv K it1)
      (fun v σ H Q => ∃ F ρ d ρ', Same F H ∧ EnvOk K F σ ρ ∧ Rep K F v d ∧ t1 d ρ = some ρ' ∧ ∀ σ', EnvOk K F σ' ρ' → Touch is1 σ σ' → Q σ' H) (tTv K h1) (tEv K f) vs vs1 σ H Q := by
  obtain ⟨F, ρ, ds, sm, ok, e, q⟩ := q
  obtain ⟨xs, e0, e⟩ := Option.bind_eq_some_iff.mp e
  obtain ⟨ds', e, ez⟩ := Option.bind_eq_some_iff.mp e
  split at ez <;> cases ez
  rename_i hz
  refine ⟨F, ρ, xs, sm, ok, e0, fun F1 H1 J x1 y => ?_⟩
  intro L hL
  have FL : F1 L = none := Same.none_of x1.s hL
  have HL : H L = none := Same.none_of x1.h hL
  refine ⟨fun i m Hc => m + i = xs.length ∧ ∃ Fc ds0 ds1, Grow K F1 H1 L Fc Hc ds0 ∧ compL2 vs1 t h it1 t1 h1 f (wipeE ρ vs) (xs.drop i) = some ds1 ∧ ds = ds0 ++ ds1, ⟨xs.length, rfl, F1, [], ds, ⟨?_, FL, [], upd_same, .nil⟩, by rw [List.drop_zero]; exact e, rfl⟩, ?_⟩
  · rw [upd_upd]
    exact Ext.refl (x1.s.trans (same_new hL))
  · rintro i m Hc ⟨hm, Fc, ds0, ds1, g, e1, ed⟩
    have fc : Same F1 Fc := g.x.f
    have sc := g.same
    by_cases hi : i < xs.length
    case neg =>
      have ei : i = xs.length := by omega
      subst ei
      rw [List.drop_length] at e1
      have e1 : ([] : List D) = ds1 := Option.some.inj e1
      subst e1
      rw [List.append_nil] at ed
      subst ed
      obtain ⟨vs0, hl, r⟩ := g.l
      refine .inl ⟨y.stop _ Hc (fc.trans sc) rfl, q L vs0 Fc Hc ⟨x1.f.trans fc, fun b o eb => ?_, sc, fun b e1 e2 => ?_⟩ HL g.f hl r⟩
      · have nb : b ≠ L := ne_of_none eb HL
        have := g.x.h b o (by rw [upd_ne nb]; exact x1.h b o eb)
        rw [upd_ne nb] at this
        exact this
      · have nb : b ≠ L := fun z => e2 (by rw [z]; exact HL)
        refine g.x.n b (x1.n b e1 e2) ?_
        rw [upd_ne nb]
        cases z : H b with
        | none => exact absurd z e2
        | some o =>
          rw [x1.h b o z]
          exact fun z => nomatch z
    case pos =>
      refine .inr ⟨y.go i Hc (fc.trans sc) hi, fun Hn => ∃ Fc ds0 ds1, Grow K F1 H1 L Fc Hn ds0 ∧ compL2 vs1 t h it1 t1 h1 f (wipeE ρ vs) (xs.drop (i + 1)) = some ds1 ∧ ds = ds0 ++ ds1,
        fun Hn hn => ⟨m - 1, by omega, by omega, hn⟩, fun x Hy hy => ?_⟩
      have hd : xs[i]? = some xs[i] := List.getElem?_eq_getElem hi
      obtain ⟨sy, k⟩ := y.yld i Hc x Hy _ (fc.trans sc) hd hy
      obtain ⟨F2, x2, rx⟩ := k Fc fc sc
      rw [List.drop_eq_getElem_cons hi] at e1
      unfold compL2 at e1
      obtain ⟨ρ1, et, e1⟩ := Option.bind_eq_some_iff.mp e1
      obtain ⟨b, eh, e1⟩ := Option.bind_eq_some_iff.mp e1
      have ok2 : EnvOk K F2 (wipe σ vs) (wipeE ρ vs) := wipe_ok ((ok.mono x1.f).mono (fc.trans x2.f)) vs
      have g2 := g.next x2
      refine ⟨F2, _, _, ρ1, x2.s, ok2, rx, et, fun σ2 okσ tσ => ⟨tσ.wipe hs, F2, ρ1, b, x2.s, okσ, eh, fun H3 s3 => ?_⟩⟩
      have g3 : Grow K F1 H1 L F2 H3 ds0 := g2.next ⟨Same.refl _, s3, x2.s.trans s3, fun _ h _ => h⟩
      have sm3 : Same F2 H3 := x2.s.trans s3
      dsimp only
      cases b with
      | false =>
        rw [if_neg Bool.false_ne_true] at e1 ⊢
        exact ⟨F2, ds0, ds1, g3, e1, ed⟩
      | true =>
        rw [if_pos rfl] at e1 ⊢
        obtain ⟨ys, ey, e1⟩ := Option.bind_eq_some_iff.mp e1
        obtain ⟨zs, ezs, e1⟩ := Option.bind_eq_some_iff.mp e1
        obtain ⟨ws, ews, e1⟩ := Option.bind_eq_some_iff.mp e1
        have e1 : zs ++ ws = ds1 := Option.some.inj e1
        subst e1
        refine ⟨F2, ρ1, ys, sm3, okσ, ey, fun F4 H4 J1 x4 y1 => ?_⟩
        have g4 := g3.next x4
        refine ⟨fun j k H5 => k + j = ys.length ∧ ∃ F5 ds5 ds6, Grow K F1 H1 L F5 H5 ds5 ∧ Same F4 F5 ∧ compL t1 h1 f (wipeE ρ1 vs1) (ys.drop j) = some ds6 ∧ ds = ds5 ++ (ds6 ++ ws), ⟨ys.length, rfl, F4, ds0, zs, g4, Same.refl _, by rw [List.drop_zero]; exact ezs, ed⟩, ?_⟩
        rintro j k H5 ⟨hk, F5, ds5, ds6, g5, s45, e6, ed6⟩
        have sc5 := g5.same
        by_cases hj : j < ys.length
        case neg =>
          have ej : j = ys.length := by omega
          subst ej
          rw [List.drop_length] at e6
          have e6 : ([] : List D) = ds6 := Option.some.inj e6
          subst e6
          exact .inl ⟨y1.stop _ H5 (s45.trans sc5) rfl, F5, ds5, ws, g5, ews, ed6⟩
        case pos =>
          refine .inr ⟨y1.go j H5 (s45.trans sc5) hj, fun Hn => ∃ F5 ds5 ds6, Grow K F1 H1 L F5 Hn ds5 ∧ Same F4 F5 ∧ compL t1 h1 f (wipeE ρ1 vs1) (ys.drop (j + 1)) = some ds6 ∧ ds = ds5 ++ (ds6 ++ ws),
            fun Hn hn => ⟨k - 1, by omega, by omega, hn⟩, fun z Hz hz1 => ?_⟩
          have hd1 : ys[j]? = some ys[j] := List.getElem?_eq_getElem hj
          obtain ⟨sy1, k1⟩ := y1.yld j H5 z Hz _ (s45.trans sc5) hd1 hz1
          obtain ⟨F6, x6, rz⟩ := k1 F5 s45 sc5
          rw [List.drop_eq_getElem_cons hj] at e6
          unfold compL at e6
          obtain ⟨ρ2, et1, e6⟩ := Option.bind_eq_some_iff.mp e6
          obtain ⟨b1, eh1, e6⟩ := Option.bind_eq_some_iff.mp e6
          have ok6 : EnvOk K F6 (wipe σ2 vs1) (wipeE ρ1 vs1) := wipe_ok (((okσ.mono x4.f).mono s45).mono x6.f) vs1
          have g6 := g5.next x6
          refine ⟨F6, _, _, ρ2, x6.s, ok6, rz, et1, fun σ3 okσ3 tσ3 => ⟨tσ3.wipe hs1, F6, ρ2, b1, x6.s, okσ3, eh1, fun H7 s7 => ?_⟩⟩
          have g7 : Grow K F1 H1 L F6 H7 ds5 := g6.next ⟨Same.refl _, s7, x6.s.trans s7, fun _ h _ => h⟩
          dsimp only
          cases b1 with
          | false =>
            rw [if_neg Bool.false_ne_true] at e6 ⊢
            exact ⟨F6, ds5, ds6, g7, s45.trans x6.f, e6, ed6⟩
          | true =>
            rw [if_pos rfl] at e6 ⊢
            obtain ⟨d, ef, e6⟩ := Option.bind_eq_some_iff.mp e6
            obtain ⟨ds7, e7, e6⟩ := Option.bind_eq_some_iff.mp e6
            cases e6
            refine ⟨F6, ρ2, d, x6.s.trans s7, okσ3, ef, fun v F8 H8 x8 rv => ?_⟩
            have g8 := g7.next x8
            obtain ⟨vs8, hl8, r8⟩ := g8.l
            refine ⟨vs8, hl8, ?_, F8, ds5 ++ [d], ds7, g8.more rv hl8, (s45.trans x6.f).trans x8.f, e7, by rw [ed6, List.append_assoc]; rfl⟩
            rw [r8.length]
            have : ds.length = ds5.length + (ds7.length + 1 + ws.length) := by
              rw [ed6, List.length_append, List.length_append, List.length_cons]
            omega
end
section
variable {S : Static} {elt tg iter tg1 iter1 : Expr} {ifs ifs1 : List Expr} {scope : Scope} {pos p : Pos} {i it1 : Env → Option (List D)} {t t1 : D → Env → Option Env} {h h1 : Env → Option Bool} {f : Env → Option D} {is is1 : List Nat}
theorem foldedSet_all {iter : Expr} (h : notSet iter = true) : ∀ env x, foldedSetIterable iter env x = pure x := by
  intro env x
  cases iter <;> first | rfl | (cases h; done)
theorem mf_comp2 {own : List (Str × Nat)} (hi : MI S tg iter i) (hg : MG { S with sc := scope } tg is t) (ht : MTs { S with sc := scope } ifs h) (hi1 : MI { S with sc := scope } tg1 iter1 it1) (hg1 : MG { S with sc := scope } tg1 is1 t1) (ht1 : MTs { S with sc := scope } ifs1 h1) (he : ME { S with sc := scope } elt f)
    (hb : blkC S.N S.sc scope own = true) (hs : ∀ j ∈ is, j ∈ own.map (·.2) := by decide) (hv : ∀ j ∈ is1, j ∈ own.map (·.2) := by decide) (hn : notSet iter = true := by rfl) (hn1 : notSet iter1 = true := by rfl) :
    MF S (.ListComp elt [⟨tg, iter, ifs, 0⟩, ⟨tg1, iter1, ifs1, 0⟩] scope pos) (fComp2 (own.map (·.2)) is1 i t h it1 t1 h1 f) := fun X G =>
  have hG := fun s H C cl fp => G.blk (blkOk_by hb).kind s H C cl fp
  PE.imp (pe_lc2 G.calm (by rw [G.N]; exact G.nd) (hi X G) (G.blkOk hb) hv (fun s H C cl fp => hg _ (hG s H C cl fp)) (fun s H C cl fp => ht _ (hG s H C cl fp)) (fun s H C cl fp => hi1 _ (hG s H C cl fp)) (fun s H C cl fp => hg1 _ (hG s H C cl fp)) (fun s H C cl fp => ht1 _ (hG s H C cl fp)) (fun s H C cl fp => he _ (hG s H C cl fp)) (foldedSet_no hn) (foldedSet_all hn1))
    fun σ H Q q => lc2_run hs (fun j hj => hj) q
end
end VM
/-! VM10 -/
namespace VM
open PySem PySem.Spec PyProof.Rows L2

/-! ### x = [.. for .. for ..] -/
section
variable {S : Static} {elt tg iter tg1 iter1 : Expr} {ifs ifs1 : List Expr} {scope : Scope} {pos p spos : Pos} {i it1 : Env → Option (List D)} {t t1 : D → Env → Option Env} {h h1 : Env → Option Bool} {f : Env → Option D} {is is1 : List Nat}
theorem ms_setLc2 {j : Nat} {x : Str} {own : List (Str × Nat)} (m : List Bool) (hN : S.N[j]? = some x)
    (hx : S.sc.names.lookup x = some .local) (ha : (scope.names.any fun (n, k) => n == x && (k == .local || k == .cell)) = false) (hi : MI S tg iter i) (hg : MG { S with sc := scope } tg is t) (ht : MTs { S with sc := scope } ifs h) (hi1 : MI { S with sc := scope } tg1 iter1 it1) (hg1 : MG { S with sc := scope } tg1 is1 t1) (ht1 : MTs { S with sc := scope } ifs1 h1) (he : ME { S with sc := scope } elt f)
    (hb : blkC S.N S.sc scope own = true) (hs : ∀ j ∈ is, j ∈ own.map (·.2) := by decide) (hv : ∀ j ∈ is1, j ∈ own.map (·.2) := by decide) (hn : notSet iter = true := by rfl) (hn1 : notSet iter1 = true := by rfl) (hl : (p.line == pos.line) = true := by rfl) :
    MS S (.Assign [.Name x p] (.ListComp elt [⟨tg, iter, ifs, 0⟩, ⟨tg1, iter1, ifs1, 0⟩] scope pos) spos) (gOwn j m (fComp2 (own.map (·.2)) is1 i t h it1 t1 h1 f)) := fun X G O F0 H0 => by
  have hy : X.env.scope.names.lookup x = some .local := by
    obtain ⟨k', h1, h2⟩ := G.sc x _ hx
    rcases h2 with rfl | ⟨z, _⟩
    · exact h1
    · cases z
  have hG := fun s H C cl fp => G.blk (blkOk_by hb).kind s H C cl fp
  refine PS.imp (ps_setLc2 (i := j) G.calm (by rw [G.N]; exact G.nd) (by rw [G.N]; exact hN) hy (sw_true G.kind hy hl ha) (hi X G) (G.blkOk hb) hv (fun s H C cl fp => hg _ (hG s H C cl fp)) (fun s H C cl fp => ht _ (hG s H C cl fp)) (fun s H C cl fp => hi1 _ (hG s H C cl fp)) (fun s H C cl fp => hg1 _ (hG s H C cl fp)) (fun s H C cl fp => ht1 _ (hG s H C cl fp)) (fun s H C cl fp => he _ (hG s H C cl fp)) (foldedSet_no hn) (foldedSet_all hn1))
    fun E σ H ⟨F, ρ, o, ok, e, q⟩ => ?_
  obtain ⟨ds, e1, e2⟩ := Option.bind_eq_some_iff.mp e
  cases e2
  obtain ⟨F1, s1, ok1⟩ := ok.frz m
  exact lc2_run hs (fun j hj => hj) ⟨F1, _, ds, ok1.ext.s, ok1.env, e1, fun a vs F' H' x n1 n2 hp r => q _ _ _ (ownNew ok1 x rfl n1 n2 ⟨vs, hp, r⟩) (s1.trans x.f)⟩
end

/-! ### dicts that a def holds: {}, d[k] = v -/
section
variable {S : Static} {e a b : Expr} {pos p p2 : Pos} {f fk fv : Env → Option D} {m : List Bool}
def gNewK (i : Nat) : Sv → Option Out := fun ρ => some (.nx (ρ.set i (.odK [])))
def gNewT (i : Nat) : Sv → Option Out := fun ρ => some (.nx (ρ.set i (.odT [])))
theorem ms_newK {i : Nat} {x : Str} (hN : S.N[i]? = some x) (hx : locB (S.sc.names.lookup x) = true) : MS S (.Assign [.Name x p] (.Dict [] [] p2) pos) (gNewK i) := fun X G O F0 H0 =>
  PS.imp (ps_set (by rw [G.N]; exact G.nd) (by rw [G.N]; exact hN) (G.loc hx).1 pe_dnewK rfl (G.loc hx).2) fun E σ H ⟨F, ρ, o, ok, e, q⟩ => by
    cases e
    intro d hd
    have x := (Ext.refl ok.ext.s).grow (same_new (o := .dK []) hd)
    exact q _ _ _ (ownNew (s := .odK []) ok x rfl hd (Same.none_of ok.ext.s hd) ⟨[], upd_same, .nil⟩) (Same.refl _)
theorem ms_newT {i : Nat} {x : Str} (hN : S.N[i]? = some x) (hx : locB (S.sc.names.lookup x) = true) : MS S (.Assign [.Name x p] (.Dict [] [] p2) pos) (gNewT i) := fun X G O F0 H0 =>
  PS.imp (ps_set (by rw [G.N]; exact G.nd) (by rw [G.N]; exact hN) (G.loc hx).1 pe_dnewT rfl (G.loc hx).2) fun E σ H ⟨F, ρ, o, ok, e, q⟩ => by
    cases e
    intro d hd
    have x := (Ext.refl ok.ext.s).grow (same_new (o := .dT []) hd)
    exact q _ _ _ (ownNew (s := .odT []) ok x rfl hd (Same.none_of ok.ext.s hd) ⟨[], upd_same, .nil⟩) (Same.refl _)
/-- a pair stored in a dict that is held -/
def putS (k d : D) : Slot → Option Slot
  | .odK kvs => (toKey k).bind fun k => if kvs.length < sizeLine then some (.odK (putD kvs k d)) else none
  | .odT kvs => match k with
    | .tup ks => (toKeys ks).bind fun k => if kvs.length < sizeLine then some (.odT (putD kvs k d)) else none
    | _ => none
  | _ => none
theorem putS_own {k d : D} {s s' : Slot} (h : putS k d s = some s') : isOwn s = true ∧ isOwn s' = true := by
  cases s <;> try (cases h; done)
  · obtain ⟨k', _, h⟩ := Option.bind_eq_some_iff.mp h
    split at h <;> cases h
    exact ⟨rfl, rfl⟩
  · simp only [putS] at h
    split at h
    · obtain ⟨k', _, h⟩ := Option.bind_eq_some_iff.mp h
      split at h <;> cases h
      exact ⟨rfl, rfl⟩
    · cases h
def gPut (i : Nat) (m : List Bool) (fk fv : Env → Option D) : Sv → Option Out := fun ρ => (fv (view (frz m ρ))).bind fun d => (fk (view (frz m (post m d ρ)))).bind fun k => ((post m k (post m d ρ))[i]?).bind fun s => (putS k d s).bind fun s' => some (.nx ((post m k (post m d ρ)).set i s'))
theorem ms_put {i : Nat} {x : Str} (m : List Bool) (hN : S.N[i]? = some x) (hv : visB (S.sc.names.lookup x) = true) (hk : ME S a fk) (he : ME S e fv) (hn : notComp e = true := by rfl)
    (hd : (x == ("__debug__" : Str)) = false := by decide) (hcd : (x == ("__classdict__" : Str)) = false := by decide) :
    MS S (.Assign [.Subscript (.Name x p) a p2] e pos) (gPut i m fk fv) := fun X G O F0 H0 =>
  PS.imp (ps_dput (by have := G.units; omega) (pe_var (i := i) (by rw [G.N]; exact hN) (G.vis hv) hd hcd) (hk X G) (he X G) (swaps_no hn)) fun E σ H ⟨F, ρ, o, ok, e, q⟩ => by
    obtain ⟨d, e1, e⟩ := Option.bind_eq_some_iff.mp e
    obtain ⟨k, e2, e⟩ := Option.bind_eq_some_iff.mp e
    obtain ⟨s, e3, e⟩ := Option.bind_eq_some_iff.mp e
    obtain ⟨s', e4, e⟩ := Option.bind_eq_some_iff.mp e
    cases e
    obtain ⟨o1, o2⟩ := putS_own e4
    refine evS ok e1 fun v F1 H1 ok1 rv f1 => ?_
    have h3 : (post m d ρ)[i]? = some s := post_own e3 o1
    obtain ⟨a1, ha1, _⟩ := heldAt ok1 h3 o1
    refine ⟨.ref a1, ha1, evS ok1 e2 fun y F2 H2 ok2 rk f2 => ?_⟩
    obtain ⟨a2, ha2, h02, hf2, hh2⟩ := heldAt ok2 e3 o1
    rw [ha1] at ha2
    cases ha2
    have rv2 := rv.mono f2
    cases s with
    | odK kvs =>
      obtain ⟨vs, g1, g2⟩ := hh2
      obtain ⟨key, k1, e4⟩ := Option.bind_eq_some_iff.mp e4
      by_cases hz : kvs.length < sizeLine
      case neg => rw [if_neg hz] at e4; cases e4
      rw [if_pos hz] at e4
      cases e4
      refine ⟨a1, _, rfl, ?_, q _ _ _ (ok2.put (s := .odK kvs) (s' := .odK (putD kvs key d)) rfl rfl e3 ha1 ⟨_, upd_same, g2.put key rv2⟩) (f1.trans f2)⟩
      rw [toKey_ok rk k1]
      exact DPut.k g1 (by rw [g2.length]; exact hz)
    | odT kvs =>
      obtain ⟨vs, g1, g2⟩ := hh2
      cases k with
      | tup ks =>
        have e4 : ((toKeys ks).bind fun k => if kvs.length < sizeLine then some (Slot.odT (putD kvs k d)) else none) = some s' := e4
        obtain ⟨key, k1, e4⟩ := Option.bind_eq_some_iff.mp e4
        by_cases hz : kvs.length < sizeLine
        case neg => rw [if_neg hz] at e4; cases e4
        rw [if_pos hz] at e4
        cases e4
        cases rk with
        | tup hb rb =>
          have hkey := toKeys_ok rb k1
          subst hkey
          exact ⟨a1, _, rfl, DPut.t g1 (ok2.ext.s _ _ hb) (by rw [g2.length]; exact hz), q _ _ _ (ok2.put (s := .odT kvs) (s' := .odT (putD kvs key d)) rfl rfl e3 ha1 ⟨_, upd_same, g2.put key rv2⟩) (f1.trans f2)⟩
      | _ => cases e4
    | _ => first | (cases o1; done) | (cases e4; done)
end

/-! ### sorted of a list of ints -/
def insL (x : Int) : List Int → List Int
  | [] => [x]
  | y :: r => if x ≤ y then x :: y :: r else y :: insL x r
def sortL : List Int → List Int
  | [] => []
  | x :: r => insL x (sortL r)
theorem insL_perm (x : Int) : ∀ l : List Int, (insL x l).Perm (x :: l)
  | [] => List.Perm.refl _
  | y :: r => by
    unfold insL
    split
    · exact List.Perm.refl _
    · exact ((insL_perm x r).cons y).trans (List.Perm.swap x y r)
theorem sortL_perm : ∀ l : List Int, (sortL l).Perm l
  | [] => List.Perm.refl _
  | x :: r => (insL_perm x _).trans ((sortL_perm r).cons x)
theorem insL_sorted (x : Int) : ∀ l : List Int, l.Pairwise (· ≤ ·) → (insL x l).Pairwise (· ≤ ·)
  | [], _ => List.pairwise_singleton _ _
  | y :: r, h => by
    obtain ⟨h1, h2⟩ := List.pairwise_cons.mp h
    unfold insL
    split
    · rename_i hx
      refine List.pairwise_cons.mpr ⟨fun z hz => ?_, h⟩
      rcases List.mem_cons.mp hz with rfl | hz
      · exact hx
      · exact Int.le_trans hx (h1 z hz)
    · rename_i hx
      refine List.pairwise_cons.mpr ⟨fun z hz => ?_, insL_sorted x r h2⟩
      rcases List.mem_cons.mp ((insL_perm x r).mem_iff.mp hz) with rfl | hz
      · omega
      · exact h1 z hz
theorem sortL_sorted : ∀ l : List Int, (sortL l).Pairwise (· ≤ ·)
  | [] => List.Pairwise.nil
  | x :: r => insL_sorted x _ (sortL_sorted r)
theorem sortedL_one : ∀ {l m : List Int}, l.Pairwise (· ≤ ·) → m.Pairwise (· ≤ ·) → l.Perm m → l = m
  | [], [], _, _, _ => rfl
  | [], y :: r, _, _, h => absurd h.length_eq (by simp)
  | x :: r, [], _, _, h => absurd h.length_eq (by simp)
  | x :: r, y :: t, h1, h2, h => by
    obtain ⟨a1, a2⟩ := List.pairwise_cons.mp h1
    obtain ⟨b1, b2⟩ := List.pairwise_cons.mp h2
    have hxy : x = y := by
      have p1 : y ≤ x := by
        rcases List.mem_cons.mp (h.mem_iff.mp List.mem_cons_self) with e | e
        · omega
        · exact b1 x e
      have p2 : x ≤ y := by
        rcases List.mem_cons.mp (h.mem_iff.mpr List.mem_cons_self) with e | e
        · omega
        · exact a1 y e
      omega
    subst hxy
    rw [sortedL_one a2 b2 ((List.perm_cons x).mp h)]
theorem sortL_of_nodup {l : List Int} (h : l.Nodup) : sortL l = sortI l :=
  sortedL_one (sortL_sorted l) ((sortI_sorted l).imp Int.le_of_lt) ((sortL_perm l).trans (by
    rw [List.perm_ext_iff_of_nodup h (sorted_nodup (sortI_sorted l))]
    exact fun z => (sortI_mem z l).symm))
def dSorted : D → Option D
  | .lst xs => (intsOf xs).bind fun is => some (.lst ((sortL is).map .int))
  | _ => none
theorem me_sortedL {S : Static} {a : Expr} {p pos : Pos} {fa : Env → Option D} (hm : S.mg "sorted" = none) (ha : ME S a fa) (hg : S.sc.names.lookup ("sorted" : Str) = some .globalImplicit := by rfl) (h1 : notStar a = true := by rfl) :
    ME S (.Call (.Name "sorted" p) [a] [] pos) (f1 dSorted fa) := fun X G =>
  PE.imp (pe_callB cr_sortedI (G.gl hg) (by rw [G.mg]; exact hm) PyProof.Rows.boot_sorted (pa_cons (ha X G) pa_nil (star_one h1)) (by decide) (by decide) (star_one h1)) fun σ H Q h => by
    obtain ⟨F, ρ, d, s, ok, h1, k⟩ := one h
    refine ⟨F, ρ, d, s, ok, h1, fun v F1 H1 x1 r1 => ?_⟩
    obtain ⟨F2, dx, d2, s2, r2, e2, q⟩ := k v F1 H1 x1 r1
    cases r2 <;> simp only [dSorted] at e2 <;> try (cases e2; done)
    rename_i hh rr
    obtain ⟨is, hi, e2⟩ := Option.bind_eq_some_iff.mp e2
    cases e2
    have ei := intsOf_ok rr hi
    subst ei
    refine ⟨_, is, rfl, by rw [G.K]; exact SqL.of (s2 _ _ hh), fun ns p hp hs hn => ?_⟩
    have en : ns = sortL is := sortedL_one hs (sortL_sorted is) (hp.trans (sortL_perm is).symm)
    subst en
    exact q _ _ _ (Ext.new s2 hn) (.lst upd_same (ints_reps _))
end VM
/-! VE -/
namespace VM
open PySem PySem.Spec PyProof.Rows L2

/-- what is not looked into before it is its turn -/
def Tag {α : Sort u} (_ : α) : Type := PUnit
def tag {α : Sort u} (a : α) : Tag a := PUnit.unit
def bnd {α β : Type} (x : Option α) (f : α → Option β) (_ : Tag f) : Option β := x.bind f
/-- one of two ways -/
def way {α : Type} (b : Bool) (x y : Option α) (_ : Tag x) (_ : Tag y) : Option α := if b = true then x else y
theorem bnd_some {α β : Type} {a : α} {f : α → Option β} {t : Tag f} : bnd (some a) f t = f a := rfl
theorem way_true {α : Type} {x y : Option α} {t : Tag x} {u : Tag y} : way true x y t u = x := rfl
theorem way_false {α : Type} {x y : Option α} {t : Tag x} {u : Tag y} : way false x y t u = y := rfl
/-! ### the combinators where they are applied -/
section
variable {g h : Sv → Option Out} {f fa fb : Env → Option D} {fs : Env → Option (List D)} {m : List Bool} {i j : Nat} {ρ : Sv} {e : Env}
theorem a_run (n : Nat) (ds : List D) : runD n g ds = bnd (g (startS n ds)) (fun o => match o with
  | .rt d => some d
  | .nx _ => some .non
  | _ => none) (tag _) := rfl
theorem a_skip : gSkip ρ = some (.nx ρ) := rfl
theorem a_seq : gSeq g h ρ = bnd (g ρ) (fun o => match o with
  | .nx ρ' => h ρ'
  | o => some o) (tag _) := rfl
theorem a_set : gSet i m f ρ = bnd (f (view (frz m ρ))) (fun d => some (.nx ((post m d ρ).set i (.val d)))) (tag _) := rfl
theorem a_own {f : Env → Option (List D)} : gOwn i m f ρ = bnd (f (view (frz m ρ))) (fun ds => some (.nx ((frz m ρ).set i (.own ds)))) (tag _) := rfl
theorem a_fz : gFz m g ρ = bnd (g ρ) (fun o => match o with
  | .nx ρ' => some (.nx (frz m ρ'))
  | o => some o) (tag _) := rfl
theorem a_ret : gRet f ρ = bnd (f (view (frzA ρ))) (fun d => some (.rt d)) (tag _) := rfl
theorem a_retN : gRetN ρ = some (.rt .non) := rfl
theorem a_brk : gBreak ρ = some (.bk ρ) := rfl
theorem a_cont : gCont ρ = some (.ct ρ) := rfl
theorem a_drop : gDrop m f ρ = bnd (f (view (frz m ρ))) (fun d => some (.nx (post m d ρ))) (tag _) := rfl
theorem a_if {c : Env → Option Bool} : gIf m c g h ρ = bnd (c (view (frz m ρ))) (fun b => way b (g ρ) (h ρ) (tag _) (tag _)) (tag _) := rfl
theorem a_app : gApp i m f ρ = bnd (f (view (frz m ρ))) (fun d => bnd (getOwn i (post m d ρ)) (fun xs => if xs.length < sizeLine then some (.nx ((post m d ρ).set i (.own (xs ++ [d])))) else none) (tag _)) (tag _) := rfl
theorem a_ins {f2 : Env → Option D} : gIns i m f f2 ρ = bnd (f (view (frz m ρ))) (fun k => match k with
  | .int k => bnd (f2 (view (frz m ρ))) (fun d => bnd (getOwn i (post m d ρ)) (fun xs => if xs.length < sizeLine ∧ 0 ≤ k ∧ k < 2 ^ 63 then some (.nx ((post m d ρ).set i (.own (xs.take k.toNat ++ [d] ++ xs.drop k.toNat)))) else none) (tag _)) (tag _)
  | _ => none) (tag _) := rfl
theorem a_asg {t : D → Sv → Option Sv} : gAsg m t f ρ = bnd (f (view (frz m ρ))) (fun d => bnd (t d (post m d ρ)) (fun ρ' => some (.nx ρ')) (tag _)) (tag _) := rfl
theorem a_newK : gNewK i ρ = some (.nx (ρ.set i (.odK []))) := rfl
theorem a_newT : gNewT i ρ = some (.nx (ρ.set i (.odT []))) := rfl
theorem a_put {fk fv : Env → Option D} : gPut i m fk fv ρ = bnd (fv (view (frz m ρ))) (fun d => bnd (fk (view (frz m (post m d ρ)))) (fun k => bnd ((post m k (post m d ρ))[i]?) (fun s => bnd (putS k d s) (fun s' => some (.nx ((post m k (post m d ρ)).set i s'))) (tag _)) (tag _)) (tag _)) (tag _) := rfl
theorem x_comp2 {vs vs1 : List Nat} {it it1 : Env → Option (List D)} {t t1 : D → Env → Option Env} {c c1 : Env → Option Bool} : fComp2 vs vs1 it t c it1 t1 c1 f e = bnd (it e) (fun xs => bnd (compL2 vs1 t c it1 t1 c1 f (wipeE e vs) xs) (fun ds => if ds.length < sizeLine then some ds else none) (tag _)) (tag _) := rfl
theorem see_dK {xs : List (Key × D)} : Slot.see (.odK xs) = none := rfl
theorem see_dT {xs : List (List Key × D)} : Slot.see (.odT xs) = none := rfl
theorem a_for {it : Env → Option (List D)} {t : D → Sv → Option Sv} : gFor m it t g ρ = bnd (it (view (frz m ρ))) (fun xs => loopG t g xs (frz m ρ)) (tag _) := rfl
theorem a_while {c : Env → Option Bool} {n : Nat} : gWhile n m c g ρ = whileG m c g n ρ := rfl
theorem x_var : fVar i e = (e[i]?).getD none := rfl
theorem x_c {d : D} : fC d e = some d := rfl
theorem x_1 {k : D → Option D} : f1 k fa e = bnd (fa e) (k) (tag _) := rfl
theorem x_2 {k : D → D → Option D} : f2 k fa fb e = bnd (fa e) (fun x => bnd (fb e) (fun y => k x y) (tag _)) (tag _) := rfl
theorem x_n {k : List D → Option D} : fN k fs e = bnd (fs e) (k) (tag _) := rfl
theorem x_nl {n : Nat} {k : List D → Option D} : fNl n k fs e = bnd (fs e) (fun ds => if ds.length = n then k ds else none) (tag _) := rfl
theorem x_nil : fNil e = some [] := rfl
theorem x_cons : fCons f fs e = bnd (f e) (fun x => bnd (fs e) (fun xs => some (x :: xs)) (tag _)) (tag _) := rfl
theorem x_tup : fTup fs e = bnd (fs e) (fun ds => if ds.length ≤ sizeLine then some (.tup ds) else none) (tag _) := rfl
theorem x_lst : fLst fs e = bnd (fs e) (fun ds => if ds.length ≤ sizeLine then some (.lst ds) else none) (tag _) := rfl
theorem x_l {f : Env → Option (List D)} : fL f e = (f e).map .lst := rfl
theorem x_t : fT f e = bnd (f e) (fun x => match x with
  | .bl b => some b
  | _ => none) (tag _) := rfl
theorem x_notT {c : Env → Option Bool} : fNotT c e = (c e).map (!·) := rfl
theorem x_andT {c k : Env → Option Bool} : fAndT c k e = bnd (c e) (fun b => way b (k e) (some false) (tag _) (tag _)) (tag _) := rfl
theorem x_orT {c k : Env → Option Bool} : fOrT c k e = bnd (c e) (fun b => way b (some true) (k e) (tag _) (tag _)) (tag _) := rfl
theorem x_and : fAnd fa fb e = bnd (fa e) (fun x => match x with
  | .bl true => fb e
  | .bl false => some (.bl false)
  | _ => none) (tag _) := rfl
theorem x_or : fOr fa fb e = bnd (fa e) (fun x => match x with
  | .bl false => fb e
  | .bl true => some (.bl true)
  | _ => none) (tag _) := rfl
theorem x_ite {c : Env → Option Bool} : fIte c fa fb e = bnd (c e) (fun b => way b (fa e) (fb e) (tag _) (tag _)) (tag _) := rfl
theorem x_no : fNo e = some none := rfl
theorem x_yes : fYes f e = bnd (f e) (fun x => match x with
  | .int i => some (some i)
  | _ => none) (tag _) := rfl
theorem x_sl {l r : Env → Option (Option Int)} : fSl fa l r e = bnd (fa e) (fun x => bnd (l e) (fun i => bnd (r e) (fun j => dSl x i j) (tag _)) (tag _)) (tag _) := rfl
theorem x_comp {vs : List Nat} {it : Env → Option (List D)} {t : D → Env → Option Env} {c : Env → Option Bool} : fComp vs it t c f e = bnd (it e) (fun xs => if xs.length < sizeLine then compL t c f (wipeE e vs) xs else none) (tag _) := rfl
theorem x_seq : iSeq f e = bnd (f e) (dSeq) (tag _) := rfl
theorem x_rn1 : iRn1 fs e = bnd (fs e) (dRng1) (tag _) := rfl
theorem x_rn2 : iRn2 fs e = bnd (fs e) (dRng2) (tag _) := rfl
theorem x_en : iEn fs e = bnd (fs e) (dEnum) (tag _) := rfl
theorem x_zp : iZp fs e = bnd (fs e) (dZip) (tag _) := rfl
theorem x_d {f : Env → Option (List (Key × D))} : fD f e = (f e).map .dK := rfl
theorem x_dc {vs : List Nat} {it : Env → Option (List D)} {t : D → Env → Option Env} {c : Env → Option Bool} {fk fv : Env → Option D} : fDc vs it t c fk fv e = bnd (it e) (fun xs => if xs.length < sizeLine then compD t c fk fv (wipeE e vs) [] xs else none) (tag _) := rfl
theorem x_tt : tt e = some true := rfl
theorem post_nil {d : D} : post [] d ρ = ρ := by unfold post; split <;> first | rfl | (cases ρ <;> rfl)
theorem solid_int {i : Int} : solid (.int i) = true := by rw [solid]
theorem solid_str {x : Str} : solid (.str x) = true := by rw [solid]
theorem solid_bl {b : Bool} : solid (.bl b) = true := by rw [solid]
theorem solid_non : solid .non = true := by rw [solid]
theorem solid_tup {xs : List D} : solid (.tup xs) = solids xs := by rw [solid]
theorem solids_nil : solids [] = true := by rw [solids]
theorem solids_cons {x : D} {xs : List D} : solids (x :: xs) = (solid x && solids xs) := by rw [solids]
theorem frz_nil : frz [] ρ = ρ := by cases ρ <;> rfl
theorem t_eN {d : D} : eN i d e = some (e.set i (some d)) := rfl
theorem t_sN {d : D} : sN i d ρ = some (ρ.set i (.val d)) := rfl
theorem see_val {d : D} : Slot.see (.val d) = some d := rfl
theorem see_own {xs : List D} : Slot.see (.own xs) = none := rfl
theorem see_non : Slot.see .non = none := rfl
theorem fz_val {d : D} : Slot.frz (.val d) = .val d := rfl
theorem fz_own {xs : List D} : Slot.frz (.own xs) = .val (.lst xs) := rfl
theorem fz_non : Slot.frz .non = .non := rfl
theorem fz_dK {xs : List (Key × D)} : Slot.frz (.odK xs) = .val (.dK xs) := rfl
theorem fz_dT {xs : List (List Key × D)} : Slot.frz (.odT xs) = .val (.dT xs) := rfl
theorem view_nil : view [] = [] := rfl
theorem view_cons {s : Slot} : view (s :: ρ) = s.see :: view ρ := rfl
theorem frzA_nil : frzA [] = [] := rfl
theorem frzA_cons {s : Slot} : frzA (s :: ρ) = s.frz :: frzA ρ := rfl
theorem frz_t {s : Slot} {bs : List Bool} : frz (true :: bs) (s :: ρ) = s.frz :: frz bs ρ := rfl
theorem frz_f {s : Slot} {bs : List Bool} : frz (false :: bs) (s :: ρ) = s :: frz bs ρ := rfl
theorem post_int {i : Int} : post m (.int i) ρ = ρ := by unfold post; rw [solid_int, if_pos rfl]
theorem post_bl {b : Bool} : post m (.bl b) ρ = ρ := by unfold post; rw [solid_bl, if_pos rfl]
theorem post_str {x : Str} : post m (.str x) ρ = ρ := by unfold post; rw [solid_str, if_pos rfl]
theorem post_non : post m .non ρ = ρ := by unfold post; rw [solid_non, if_pos rfl]
theorem post_lst {xs : List D} : post m (.lst xs) ρ = frz m ρ := by unfold post; rw [solid, if_neg Bool.false_ne_true]
theorem solids_map {α : Type} {f : α → D} (h : ∀ a, solid (f a) = true) : ∀ as : List α, solids (as.map f) = true
  | [] => solids_nil
  | a :: as => by rw [List.map_cons, solids_cons, h a, solids_map h as]; rfl
theorem solids_mint {as : List Int} : solids (as.map .int) = true := solids_map (fun _ => solid_int) as
theorem solids_mstr {as : List Str} : solids (as.map .str) = true := solids_map (fun _ => solid_str) as
theorem post_tup {b : Bool} {xs : List D} : post (b :: m) (.tup xs) ρ = if solids xs = true then ρ else frz (b :: m) ρ := by unfold post; rw [solid_tup]
theorem post_ro {xs : List D} : post m (.ro xs) ρ = frz m ρ := by unfold post; rw [solid, if_neg Bool.false_ne_true]
theorem post_ins {C : Nat} {fs : List (Str × D)} : post m (.ins C fs) ρ = frz m ρ := by unfold post; rw [solid, if_neg Bool.false_ne_true]
theorem s_nil {n : Nat} : startS n [] = List.replicate n .non := by unfold startS; rfl
theorem s_cons {n : Nat} {d : D} {ds : List D} : startS (n + 1) (d :: ds) = .val d :: startS n ds := by
  unfold startS
  rw [List.map_cons, List.cons_append, List.length_cons, Nat.add_sub_add_right]
theorem r_zero {α : Type} {a : α} : List.replicate 0 a = [] := rfl
theorem r_succ {α : Type} {n : Nat} {a : α} : List.replicate (n + 1) a = a :: List.replicate n a := rfl
theorem x_own : getOwn i ρ = (ρ[i]?).bind Slot.list := rfl
theorem own_list {xs : List D} : Slot.list (.own xs) = some xs := rfl
theorem own_own {xs : List D} (h : ρ[i]? = some (.own xs)) : getOwn i ρ = some xs := by unfold getOwn; rw [h]; rfl
theorem seq_lst {xs : List D} : dSeq (.lst xs) = some xs := rfl
theorem seq_tup {xs : List D} : dSeq (.tup xs) = some xs := rfl
theorem seq_tpd {xs : List D} : dSeq (.tpd xs) = some xs := rfl
theorem post_tpd {b : Bool} {xs : List D} : post (b :: m) (.tpd xs) ρ = frz (b :: m) ρ := by unfold post; rw [solid, if_neg Bool.false_ne_true]
theorem seq_ro {xs : List D} : dSeq (.ro xs) = some xs := rfl
end

/-! ### loops -/
theorem loop_all {t : D → Sv → Option Sv} {body : Sv → Option Out} (J : Nat → Sv → Prop) (B : Sv → Prop) (R : D → Prop) : ∀ (xs : List D) (k : Nat) (ρ : Sv), J k ρ →
    (∀ i x ρ, xs[i]? = some x → J (k + i) ρ → ∃ ρ1 o, t x ρ = some ρ1 ∧ body ρ1 = some o ∧ match o with | .nx ρ2 => J (k + i + 1) ρ2 | .ct ρ2 => J (k + i + 1) ρ2 | .bk ρ2 => B ρ2 | .rt d => R d) →
    ∃ o, loopG t body xs ρ = some o ∧ match o with | .nx ρ' => J (k + xs.length) ρ' ∨ B ρ' | .rt d => R d | _ => False
  | [], k, ρ, h, _ => ⟨.nx ρ, rfl, .inl h⟩
  | x :: xs, k, ρ, h, hs => by
    obtain ⟨ρ1, o, h1, h2, h3⟩ := hs 0 x ρ rfl h
    unfold loopG
    rw [h1, Option.bind_some, h2, Option.bind_some]
    have next : ∀ ρ2, J (k + 1) ρ2 → ∃ o, loopG t body xs ρ2 = some o ∧ match o with | .nx ρ' => J (k + (x :: xs).length) ρ' ∨ B ρ' | .rt d => R d | _ => False := fun ρ2 q => by
      have e : k + (x :: xs).length = k + 1 + xs.length := by rw [List.length_cons]; omega
      rw [e]
      refine loop_all J B R xs (k + 1) ρ2 q fun i y ρ hy hj => ?_
      have := hs (i + 1) y ρ (by simpa using hy) (by rw [show k + (i + 1) = k + 1 + i by omega]; exact hj)
      rw [show k + (i + 1) + 1 = k + 1 + i + 1 by omega] at this
      exact this
    cases o with
    | nx ρ2 => exact next ρ2 h3
    | ct ρ2 => exact next ρ2 h3
    | bk ρ2 => exact ⟨_, rfl, .inr h3⟩
    | rt d => exact ⟨_, rfl, h3⟩
/-- a loop that only goes on -/
theorem loop_go {t : D → Sv → Option Sv} {body : Sv → Option Out} (J : Nat → Sv → Prop) {xs : List D} {ρ : Sv} (h : J 0 ρ)
    (hs : ∀ i x ρ, xs[i]? = some x → J i ρ → ∃ ρ1 ρ2, t x ρ = some ρ1 ∧ body ρ1 = some (.nx ρ2) ∧ J (i + 1) ρ2) : ∃ ρ', loopG t body xs ρ = some (.nx ρ') ∧ J xs.length ρ' := by
  obtain ⟨o, h1, h2⟩ := loop_all J (fun _ => False) (fun _ => False) xs 0 ρ h fun i x ρ hx hj => by
    rw [Nat.zero_add] at hj ⊢
    obtain ⟨ρ1, ρ2, a, b, c⟩ := hs i x ρ hx hj
    exact ⟨ρ1, _, a, b, c⟩
  rw [Nat.zero_add] at h2
  cases o with
  | nx ρ' => exact ⟨ρ', h1, h2.resolve_right id⟩
  | rt d => exact h2.elim
  | bk _ => exact h2.elim
  | ct _ => exact h2.elim
/-- a loop that goes on or returns -/
theorem loop_or {t : D → Sv → Option Sv} {body : Sv → Option Out} (J : Nat → Sv → Prop) (R : D → Prop) {xs : List D} {ρ : Sv} (h : J 0 ρ)
    (hs : ∀ i x ρ, xs[i]? = some x → J i ρ → ∃ ρ1 o, t x ρ = some ρ1 ∧ body ρ1 = some o ∧ match o with | .nx ρ2 => J (i + 1) ρ2 | .rt d => R d | _ => False) :
    (∃ ρ', loopG t body xs ρ = some (.nx ρ') ∧ J xs.length ρ') ∨ ∃ d, loopG t body xs ρ = some (.rt d) ∧ R d := by
  obtain ⟨o, h1, h2⟩ := loop_all J (fun _ => False) R xs 0 ρ h fun i x ρ hx hj => by
    rw [Nat.zero_add] at hj ⊢
    obtain ⟨ρ1, o, a, b, c⟩ := hs i x ρ hx hj
    refine ⟨ρ1, o, a, b, ?_⟩
    cases o with
    | nx ρ2 => exact c
    | rt d => exact c
    | bk _ => exact c
    | ct _ => exact c.elim
  rw [Nat.zero_add] at h2
  cases o with
  | nx ρ' => exact .inl ⟨ρ', h1, h2.resolve_right id⟩
  | rt d => exact .inr ⟨d, h1, h2⟩
  | bk _ => exact h2.elim
  | ct _ => exact h2.elim
theorem while_go {m : List Bool} {c : Env → Option Bool} {body : Sv → Option Out} (J : Sv → Prop) (size : Sv → Nat)
    (hs : ∀ ρ, J ρ → ∃ b, c (view (frz m ρ)) = some b ∧ (b = true → ∃ ρ2, body ρ = some (.nx ρ2) ∧ J ρ2 ∧ size ρ2 < size ρ)) : ∀ (n : Nat) (ρ : Sv), J ρ → size ρ < n → ∃ ρ', whileG m c body n ρ = some (.nx ρ') ∧ J ρ' ∧ c (view (frz m ρ')) = some false
  | 0, _, _, h => by omega
  | n + 1, ρ, h, hn => by
    obtain ⟨b, h1, h2⟩ := hs ρ h
    unfold whileG
    rw [h1, Option.bind_some]
    cases b with
    | false => exact ⟨ρ, rfl, h, h1⟩
    | true =>
      obtain ⟨ρ2, h3, h4, h5⟩ := h2 rfl
      rw [if_pos rfl, h3, Option.bind_some]
      exact while_go J size hs n ρ2 h4 (by omega)

/-! ### lists beside lists -/
inductive All2 {α β : Type} (R : α → β → Prop) : List α → List β → Prop
  | nil : All2 R [] []
  | cons {a b as bs} : R a b → All2 R as bs → All2 R (a :: as) (b :: bs)
section
variable {α β γ : Type} {R : α → β → Prop}
theorem All2.length : ∀ {as : List α} {bs : List β}, All2 R as bs → as.length = bs.length
  | _, _, .nil => rfl
  | _, _, .cons _ r => congrArg (· + 1) r.length
theorem All2.get : ∀ {as : List α} {bs : List β} {i : Nat} {a : α}, All2 R as bs → as[i]? = some a → ∃ b, bs[i]? = some b ∧ R a b
  | _, _, _, _, .nil, e => by simp at e
  | _, _, 0, _, .cons h _, e => by
    have e := Option.some.inj e
    subst e
    exact ⟨_, rfl, h⟩
  | _, _, i + 1, a, .cons _ r, e => by
    obtain ⟨b, h1, h2⟩ := r.get (i := i) (a := a) (by simpa using e)
    exact ⟨b, by simpa using h1, h2⟩
theorem All2.of_map {f : β → α} (h : ∀ b, R (f b) b) : ∀ bs : List β, All2 R (bs.map f) bs
  | [] => .nil
  | b :: bs => .cons (h b) (All2.of_map h bs)
theorem All2.of_map_mem {f : β → α} : ∀ bs : List β, (∀ b ∈ bs, R (f b) b) → All2 R (bs.map f) bs
  | [], _ => .nil
  | b :: bs, h => .cons (h b List.mem_cons_self) (All2.of_map_mem bs fun x hx => h x (List.mem_cons_of_mem _ hx))
theorem All2.imp {R' : α → β → Prop} (h : ∀ a b, R a b → R' a b) : ∀ {as : List α} {bs : List β}, All2 R as bs → All2 R' as bs
  | _, _, .nil => .nil
  | _, _, .cons q r => .cons (h _ _ q) (r.imp h)
theorem All2.append : ∀ {as cs : List α} {bs ds : List β}, All2 R as bs → All2 R cs ds → All2 R (as ++ cs) (bs ++ ds)
  | _, _, _, _, .nil, r => r
  | _, _, _, _, .cons q r, r' => .cons q (r.append r')
theorem All2.take : ∀ {as : List α} {bs : List β} (n : Nat), All2 R as bs → All2 R (as.take n) (bs.take n)
  | _, _, 0, _ => .nil
  | _, _, _ + 1, .nil => .nil
  | _, _, n + 1, .cons q r => .cons q (r.take n)
theorem All2.drop : ∀ {as : List α} {bs : List β} (n : Nat), All2 R as bs → All2 R (as.drop n) (bs.drop n)
  | _, _, 0, r => r
  | _, _, _ + 1, .nil => .nil
  | _, _, n + 1, .cons q r => r.drop n
end
/-! ### comprehensions -/
section
variable {β : Type} {R : D → β → Prop} {t : D → Env → Option Env} {h : Env → Option Bool} {f : Env → Option D} {e : Env}
theorem comp_sel (p : β → Bool) (φ : β → D) : ∀ {xs : List D} {ys : List β}, All2 R xs ys → (∀ x y, R x y → y ∈ ys → ∃ e1, t x e = some e1 ∧ h e1 = some (p y) ∧ (p y = true → f e1 = some (φ y))) → compL t h f e xs = some ((ys.filter p).map φ)
  | _, _, .nil, _ => rfl
  | _, _, .cons (a := x) (b := y) (as := xs) (bs := ys) q r, k => by
    obtain ⟨e1, h1, h2, h3⟩ := k x y q List.mem_cons_self
    unfold compL
    rw [h1, Option.bind_some, h2, Option.bind_some]
    have ih := comp_sel p φ r fun x y q hy => k x y q (List.mem_cons_of_mem _ hy)
    cases hp : p y with
    | true =>
      rw [if_pos rfl, h3 hp, Option.bind_some, ih, Option.bind_some, List.filter_cons_of_pos hp, List.map_cons]
    | false =>
      rw [if_neg Bool.false_ne_true, ih, List.filter_cons_of_neg (by rw [hp]; exact Bool.false_ne_true)]
theorem comp_all (φ : β → D) {xs : List D} {ys : List β} (r : All2 R xs ys) (k : ∀ x y, R x y → y ∈ ys → ∃ e1, t x e = some e1 ∧ h e1 = some true ∧ f e1 = some (φ y)) : compL t h f e xs = some (ys.map φ) := by
  have := comp_sel (p := fun _ => true) φ r fun x y q hy => by
    obtain ⟨e1, h1, h2, h3⟩ := k x y q hy
    exact ⟨e1, h1, h2, fun _ => h3⟩
  rw [this, List.filter_eq_self.mpr fun _ _ => rfl]
end

/-! ### data by an encoding -/
structure Nice (n : Nat) (x : D) : Prop where
  d : isData x = true
  l : (toPy x).canLay0 = true
  n : (toPy x).depth ≤ n
theorem Nice.ok {n : Nat} {d : D} (h : Nice n d) (hn : n ≤ 64) : okD d = true := by
  unfold okD SeqAt.shaped
  rw [h.d, h.l, Bool.true_and, Bool.true_and, decide_eq_true_iff]
  exact Nat.le_trans h.n hn
theorem Nice.mono {n m : Nat} {d : D} (h : Nice n d) (hn : n ≤ m) : Nice m d := ⟨h.d, h.l, Nat.le_trans h.n hn⟩
theorem nice_int (i : Int) : Nice 0 (.int i) := ⟨rfl, rfl, by show (PyData.int i).depth ≤ 0; simp [PyData.depth]⟩
theorem nice_bl (b : Bool) : Nice 0 (.bl b) := ⟨rfl, rfl, by show (PyData.bool b).depth ≤ 0; simp [PyData.depth]⟩
theorem nice_non : Nice 0 .non := ⟨rfl, rfl, by show (PyData.none).depth ≤ 0; simp [PyData.depth]⟩
def Word (x : Str) : Prop := PyData.canLay0 (.str x) = true
theorem nice_str {x : Str} (h : Word x) : Nice 0 (.str x) := ⟨rfl, h, by show (PyData.str x).depth ≤ 0; simp [PyData.depth]⟩
theorem nices {n : Nat} : ∀ {ds : List D}, (∀ d ∈ ds, Nice n d) → isDatas ds = true ∧ PyData.canLayAll0 (toPys ds) = true ∧ PyData.depthAll (toPys ds) ≤ n
  | [], _ => ⟨rfl, rfl, by simp [toPys, PyData.depthAll]⟩
  | d :: ds, h => by
    obtain ⟨a, b, c⟩ := nices fun x hx => h x (List.mem_cons_of_mem _ hx)
    have q := h d List.mem_cons_self
    refine ⟨by rw [isDatas, q.d, a]; rfl, by rw [toPys, PyData.canLayAll0, q.l, b]; rfl, ?_⟩
    rw [toPys, PyData.depthAll]
    exact Nat.max_le.mpr ⟨q.n, c⟩
theorem nice_lst {n : Nat} {ds : List D} (h : ∀ d ∈ ds, Nice n d) : Nice (n + 1) (.lst ds) := by
  obtain ⟨a, b, c⟩ := nices h
  refine ⟨by rw [isData]; exact a, by rw [toPy, PyData.canLay0]; exact b, ?_⟩
  rw [toPy, PyData.depth]
  omega
theorem nice_tup {n : Nat} {ds : List D} (h : ∀ d ∈ ds, Nice n d) : Nice (n + 1) (.tup ds) := by
  obtain ⟨a, b, c⟩ := nices h
  refine ⟨by rw [isData]; exact a, by rw [toPy, PyData.canLay0]; exact b, ?_⟩
  rw [toPy, PyData.depth]
  omega
/-- equal data, equal values -/
def Eqv {α : Type} [DecidableEq α] (f : α → D) : Prop := ∀ a b, PyData.eqv (toPy (f a)) (toPy (f b)) = decide (a = b)
section
variable {α β : Type} [DecidableEq α] [DecidableEq β] {f : α → D} {g : β → D}
theorem eqv_int : Eqv D.int := fun a b => by
  show PyData.eqv (.int a) (.int b) = _
  rw [PyData.eqv]
  exact Bool.beq_eq_decide_eq a b
theorem eqv_str : Eqv D.str := fun a b => by
  show PyData.eqv (.str a) (.str b) = _
  rw [PyData.eqv]
  by_cases e : a = b
  · subst e; simp
  · rw [decide_eq_false e]; simpa using e
theorem eqv_list (h : Eqv f) : ∀ as bs : List α, PyData.eqvAll (toPys (as.map f)) (toPys (bs.map f)) = decide (as = bs)
  | [], [] => rfl
  | [], _ :: _ => rfl
  | _ :: _, [] => rfl
  | a :: as, b :: bs => by
    simp only [List.map_cons, toPys, PyData.eqvAll, h a b, eqv_list h as bs]
    by_cases e : a = b <;> by_cases e' : as = bs <;> simp [e, e']
theorem eqv_lst (h : Eqv f) : Eqv (fun as : List α => D.lst (as.map f)) := fun as bs => by
  show PyData.eqv (toPy (.lst _)) (toPy (.lst _)) = _
  rw [toPy, toPy, PyData.eqv]
  exact eqv_list h as bs
theorem eqv_tups (h : Eqv f) : Eqv (fun as : List α => D.tup (as.map f)) := fun as bs => by
  show PyData.eqv (toPy (.tup _)) (toPy (.tup _)) = _
  rw [toPy, toPy, PyData.eqv]
  exact eqv_list h as bs
theorem eqv_pair (h : Eqv f) (k : Eqv g) : Eqv (fun p : α × β => D.tup [f p.1, g p.2]) := fun p q => by
  show PyData.eqv (toPy (.tup _)) (toPy (.tup _)) = _
  simp only [toPy, toPys, PyData.eqv, PyData.eqvAll, h p.1 q.1, k p.2 q.2]
  obtain ⟨a, b⟩ := p
  obtain ⟨c, d⟩ := q
  by_cases e : a = c <;> by_cases e' : b = d <;> simp [e, e']
theorem dEq_enc (h : Eqv f) {a b : α} (ha : okD (f a) = true) (hb : okD (f b) = true) : dEq (f a) (f b) = some (.bl (decide (a = b))) := by
  unfold dEq
  rw [if_pos ⟨ha, hb⟩, h a b]
theorem dNe_enc (h : Eqv f) {a b : α} (ha : okD (f a) = true) (hb : okD (f b) = true) : dNe (f a) (f b) = some (.bl (!decide (a = b))) := by
  unfold dNe
  rw [if_pos ⟨ha, hb⟩, h a b]
end
end VM
/-! G_k01 -/
namespace VM
open PySem PySem.Spec PyProof.Rows L2
def g__law_cell : Sv → Option Out := (gSeq (gIf [] (fT (f2 dLt (fVar 1) (fN dLen (fCons (fVar 0) fNil)))) (gRet (f2 dIx (fVar 0) (fVar 1))) gSkip)
  (gRet (fC (.int 0))))
def m__law_cell : List D → Option D := runD 2 g__law_cell
def g__law_row : Sv → Option Out := (gSeq (gOwn 2 [] (fun ρ => (fNil ρ).bind fun ds => if ds.length ≤ sizeLine then some ds else none))
  (gSeq (gSet 3 [] (fVar 0))
  (gSeq (gSet 4 [] (f2 dAdd (f2 dMod (fN dInt (fCons (fVar 0) fNil)) (fC (.int 2147483629))) (fC (.int 1))))
  (gSeq (gFor [] (iRn1 (fCons (fVar 1) fNil)) (sN 5) (gIf [] (fT (f2 dGe (fVar 0) (f2 dPow (fC (.int 10)) (fC (.int 18))))) (gSeq (gApp 2 [] (f2 dMod (fN dInt (fCons (fVar 3) fNil)) (fC (.int 840))))
  (gSet 3 [] (f2 dDiv (fVar 3) (fC (.int 840))))) (gSeq (gSet 4 [] (f2 dMod (fN dInt (fCons (f2 dAdd (f2 dMul (fVar 4) (fC (.int 48271))) (fVar 5)) fNil)) (fC (.int 2147483647))))
  (gApp 2 [] (f2 dMod (f2 dDiv (f2 dMod (fN dInt (fCons (f2 dMul (fVar 4) (fC (.int 69621))) fNil)) (fC (.int 2147483629))) (fC (.int 7))) (fC (.int 840)))))))
  (gRet (fVar 2))))))
def m__law_row : List D → Option D := runD 6 g__law_row
def g__law_word : Sv → Option Out := (gSeq (gSet 1 [] (fC (.str "abcdefghijklmnopqrstuvwxyz")))
  (gSeq (gSet 2 [] (f2 dIx (fVar 1) (f2 dMod (fVar 0) (fC (.int 26)))))
  (gSeq (gIf [] (fT (f2 dGt (f2 dMod (f2 dDiv (fVar 0) (fC (.int 26))) (fC (.int 3))) (fC (.int 0)))) (gSet 2 [] (f2 dAdd (fVar 2) (f2 dIx (fVar 1) (f2 dMod (f2 dDiv (fVar 0) (fC (.int 3))) (fC (.int 26)))))) gSkip)
  (gSeq (gIf [] (fT (f2 dEq (f2 dMod (f2 dDiv (fVar 0) (fC (.int 26))) (fC (.int 3))) (fC (.int 2)))) (gSet 2 [] (f2 dAdd (f2 dAdd (f2 dAdd (fVar 2) (f2 dIx (fVar 1) (f2 dMod (f2 dDiv (fVar 0) (fC (.int 5))) (fC (.int 26))))) (f2 dIx (fVar 1) (f2 dMod (f2 dDiv (fVar 0) (fC (.int 11))) (fC (.int 26))))) (f2 dIx (fVar 1) (f2 dMod (f2 dDiv (fVar 0) (fC (.int 2))) (fC (.int 26)))))) gSkip)
  (gRet (fVar 2))))))
def m__law_word : List D → Option D := runD 3 g__law_word
def g__law_words : Sv → Option Out := (gSeq (gOwn 2 [] (fun ρ => (fNil ρ).bind fun ds => if ds.length ≤ sizeLine then some ds else none))
  (gSeq (gFor [] (iRn1 (fCons (fVar 1) fNil)) (sN 3) (gSeq (gSet 4 [] (fNl 1 m__law_word (fCons (f2 dIx (fVar 0) (fVar 3)) fNil)))
  (gSeq (gFor [] (iRn1 (fCons (fC (.int 3)) fNil)) (sN 5) (gIf [false, false, true] (fT (f2 dIn (fVar 4) (fVar 2))) (gSet 4 [] (f2 dAdd (fVar 4) (fC (.str "q")))) gSkip))
  (gApp 2 [] (fVar 4)))))
  (gRet (fN dTuple (fCons (fVar 2) fNil)))))
def m__law_words : List D → Option D := runD 6 g__law_words
def g__law_input : Sv → Option Out := (gSeq (gOwn 3 [] (fun ρ => (fNil ρ).bind fun ds => if ds.length ≤ sizeLine then some ds else none))
  (gSeq (gFor [] (iSeq (fNl 2 m__law_row (fCons (fVar 1) (fCons (fVar 2) fNil)))) (sN 4) (gApp 3 [] (fTup (fCons (f2 dIx (fVar 0) (f2 dMod (fVar 4) (fN dLen (fCons (fVar 0) fNil)))) (fCons (f2 dSub (f2 dMod (f2 dDiv (fVar 4) (fC (.int 4))) (fC (.int 5))) (fC (.int 2))) fNil)))))
  (gSeq (gIf [] (fT (f2 dEq (f2 dMod (fN dInt (fCons (fVar 1) fNil)) (fC (.int 3))) (fC (.int 0)))) (gOwn 3 [false, false, false, true] (fComp [5] (iSeq (fVar 3)) (eN 5) tt (fTup (fCons (f2 dIx (fVar 5) (fC (.int 0))) (fCons (f2 dAdd (f2 dMul (f2 dIx (fVar 5) (fC (.int 1))) (fC (.int 1000003))) (fC (.int 17))) fNil))))) gSkip)
  (gRet (fVar 3)))))
def m__law_input : List D → Option D := runD 6 g__law_input
def g__law_dense : Sv → Option Out := (gSeq (gOwn 1 [] (fun ρ => (fNil ρ).bind fun ds => if ds.length ≤ sizeLine then some ds else none))
  (gSeq (gFor [] (iSeq (fVar 0)) (sN 2) (gIf [false, true] (fT (f2 dNotIn (f2 dIx (fVar 2) (fC (.int 1))) (fVar 1))) (gApp 1 [] (f2 dIx (fVar 2) (fC (.int 1)))) gSkip))
  (gRet (fL (fComp [2] (iSeq (fVar 0)) (eN 2) tt (fTup (fCons (f2 dIx (fVar 2) (fC (.int 0))) (fCons (fN dLen (fCons (fL (fComp [3] (iSeq (fVar 1)) (eN 3) (fT (f2 dLt (fVar 3) (f2 dIx (fVar 2) (fC (.int 1))))) (fVar 3))) fNil)) fNil))))))))
def m__law_dense : List D → Option D := runD 4 g__law_dense
def g_different : Sv → Option Out := (gRet (f1 dSortSet (fL (fComp [1, 2] (iSeq (fVar 0)) (eTL [1, 2]) tt (fVar 2)))))
def m_different : List D → Option D := runD 3 g_different
def g_dense : Sv → Option Out := (gSeq (gSet 1 [] (fD (fDc [2, 3] (iEn (fCons (fNl 1 m_different (fCons (fVar 0) fNil)) fNil)) (eTL [2, 3]) tt (fVar 3) (fVar 2))))
  (gRet (fL (fComp [4, 3] (iSeq (fVar 0)) (eTL [4, 3]) tt (fTup (fCons (fVar 4) (fCons (f2 dGetI (fVar 1) (fVar 3)) fNil)))))))
def m_dense : List D → Option D := runD 5 g_dense
def g_position : Sv → Option Out := (gSeq (gSet 2 [] (fC (.int 0)))
  (gSeq (gSet 3 [] (fN dLen (fCons (fVar 0) fNil)))
  (gSeq (gWhile fuel [] (fT (f2 dLt (fVar 2) (fVar 3))) (gSeq (gSet 4 [] (f2 dDiv (f2 dAdd (fVar 2) (fVar 3)) (fC (.int 2))))
  (gIf [] (fT (f2 dLt (f2 dIx (fVar 0) (fVar 4)) (fVar 1))) (gSet 2 [] (f2 dAdd (fVar 4) (fC (.int 1)))) (gSet 3 [] (fVar 4)))))
  (gSeq (gIf [] (fAndT (fT (f2 dLt (fVar 2) (fN dLen (fCons (fVar 0) fNil)))) (fT (f2 dEq (f2 dIx (fVar 0) (fVar 2)) (fVar 1)))) (gRet (f2 dAdd (f2 dMul (fC (.int 2)) (fVar 2)) (fC (.int 1)))) gSkip)
  (gRet (f2 dMul (fC (.int 2)) (fVar 2)))))))
def m_position : List D → Option D := runD 5 g_position
def g_code : Sv → Option Out := (gSeq (gOwn 1 [] (fun ρ => (fNil ρ).bind fun ds => if ds.length ≤ sizeLine then some ds else none))
  (gSeq (gOwn 2 [] (fun ρ => (fNil ρ).bind fun ds => if ds.length ≤ sizeLine then some ds else none))
  (gSeq (gFor [] (iSeq (fVar 0)) (sTL [3, 4]) (gSeq (gSet 5 [false, true] (fNl 2 m_position (fCons (fVar 1) (fCons (fVar 4) fNil))))
  (gSeq (gIf [] (fT (f2 dEq (f2 dMod (fVar 5) (fC (.int 2))) (fC (.int 0)))) (gIns 1 [] (f2 dDiv (fVar 5) (fC (.int 2))) (fVar 4)) gSkip)
  (gApp 2 [] (fTup (fCons (fVar 3) (fCons (fVar 5) fNil)))))))
  (gRet (fVar 2)))))
def m_code : List D → Option D := runD 6 g_code
def g__law_position : Sv → Option Out := (gSeq (gSet 2 [] (fN dLen (fCons (fL (fComp [3] (iSeq (fVar 1)) (eN 3) (fT (f2 dLt (fVar 3) (fVar 0))) (fVar 3))) fNil)))
  (gRet (f2 dAdd (f2 dMul (fC (.int 2)) (fVar 2)) (fN dLen (fCons (fL (fComp [3] (iSeq (fVar 1)) (eN 3) (fT (f2 dEq (fVar 3) (fVar 0))) (fVar 3))) fNil)))))
def m__law_position : List D → Option D := runD 4 g__law_position
def g__law_code : Sv → Option Out := (gSeq (gOwn 1 [] (fun ρ => (fNil ρ).bind fun ds => if ds.length ≤ sizeLine then some ds else none))
  (gSeq (gOwn 2 [] (fun ρ => (fNil ρ).bind fun ds => if ds.length ≤ sizeLine then some ds else none))
  (gSeq (gFor [] (iSeq (fVar 0)) (sN 3) (gSeq (gApp 2 [false, true] (fTup (fCons (f2 dIx (fVar 3) (fC (.int 0))) (fCons (fNl 2 m__law_position (fCons (f2 dIx (fVar 3) (fC (.int 1))) (fCons (fVar 1) fNil))) fNil))))
  (gIf [false, true] (fT (f2 dNotIn (f2 dIx (fVar 3) (fC (.int 1))) (fVar 1))) (gApp 1 [] (f2 dIx (fVar 3) (fC (.int 1)))) gSkip)))
  (gRet (fVar 2)))))
def m__law_code : List D → Option D := runD 4 g__law_code
def g_alike : Sv → Option Out := (gRet (f2 dEq (fNl 1 m_dense (fCons (fVar 0) fNil)) (fNl 1 m_dense (fCons (fVar 1) fNil))))
def m_alike : List D → Option D := runD 2 g_alike
def g_law_k01 : Sv → Option Out := (gSeq (gSet 1 [] (fNl 2 m__law_words (fCons (fNl 2 m__law_row (fCons (fNl 2 m__law_cell (fCons (fVar 0) (fCons (fC (.int 0)) fNil))) (fCons (fC (.int 4)) fNil))) (fCons (f2 dAdd (fC (.int 1)) (f2 dMod (fNl 2 m__law_cell (fCons (fVar 0) (fCons (fC (.int 1)) fNil))) (fC (.int 3)))) fNil))))
  (gSeq (gSet 2 [] (fNl 3 m__law_input (fCons (fVar 1) (fCons (fNl 2 m__law_cell (fCons (fVar 0) (fCons (fC (.int 2)) fNil))) (fCons (f2 dMod (fNl 2 m__law_cell (fCons (fVar 0) (fCons (fC (.int 3)) fNil))) (fC (.int 30))) fNil)))))
  (gSeq (gSet 2 [] (f2 dAdd (fVar 2) (fL (fComp [3] (iSeq (fSl (fVar 0) (fYes (fC (.int 5))) fNo)) (eN 3) tt (fTup (fCons (f2 dIx (fVar 1) (f2 dMod (fVar 3) (fN dLen (fCons (fVar 1) fNil)))) (fCons (fVar 3) fNil)))))))
  (gSeq (gFz [false, false, false, false, true] (gOwn 4 [] (fComp [5] (iSeq (fVar 2)) (eN 5) tt (fTup (fCons (f2 dIx (fVar 5) (fC (.int 0))) (fCons (f2 dSub (f2 dMul (fC (.int 7)) (f2 dIx (fVar 5) (fC (.int 1)))) (fC (.int 3))) fNil))))))
  (gSeq (gIf [] (fAndT (fT (f2 dEq (f2 dMod (fNl 2 m__law_cell (fCons (fVar 0) (fCons (fC (.int 4)) fNil))) (fC (.int 2))) (fC (.int 1)))) (fT (f2 dGt (fN dLen (fCons (fVar 4) fNil)) (fC (.int 0))))) (gSeq (gSet 6 [] (f2 dMod (f2 dDiv (fNl 2 m__law_cell (fCons (fVar 0) (fCons (fC (.int 4)) fNil))) (fC (.int 2))) (fN dLen (fCons (fVar 4) fNil))))
  (gSet 4 [] (f2 dAdd (f2 dAdd (fSl (fVar 4) fNo (fYes (fVar 6))) (fLst (fCons (fTup (fCons (f2 dIx (fVar 1) (f2 dMod (fVar 6) (fN dLen (fCons (fVar 1) fNil)))) (fCons (f2 dIx (f2 dIx (fVar 4) (f2 dSub (fVar 6) (fC (.int 1)))) (fC (.int 1))) fNil))) fNil))) (fSl (fVar 4) (fYes (f2 dAdd (fVar 6) (fC (.int 1)))) fNo)))) gSkip)
  (gSeq (gSet 7 [] (fN dList (fCons (fVar 2) fNil)))
  (gSeq (gSet 8 [] (fNl 1 m__law_dense (fCons (fVar 2) fNil)))
  (gSeq (gIf [] (fOrT (fT (f2 dNe (fNl 1 m_dense (fCons (fVar 7) fNil)) (fVar 8))) (fOrT (fT (f2 dNe (fNl 1 m_code (fCons (fVar 7) fNil)) (fNl 1 m__law_code (fCons (fVar 2) fNil)))) (fOrT (fT (f2 dNe (fVar 7) (fVar 2))) (fT (f2 dNe (fNl 1 m_dense (fCons (fVar 8) fNil)) (fVar 8)))))) (gRet (fC (.bl false))) gSkip)
  (gSeq (gSet 9 [] (fN dTuple (fCons (fL (fComp [5] (iSeq (fVar 2)) (eN 5) tt (fN dList (fCons (fVar 5) fNil)))) fNil)))
  (gSeq (gIf [] (fOrT (fT (f2 dNe (fNl 1 m_dense (fCons (fVar 9) fNil)) (fVar 8))) (fOrT (fT (f2 dNe (fNl 1 m_code (fCons (fVar 9) fNil)) (fNl 1 m__law_code (fCons (fVar 2) fNil)))) (fNotT (fT (fNl 2 m_alike (fCons (fVar 9) (fCons (fVar 2) fNil))))))) (gRet (fC (.bl false))) gSkip)
  (gSeq (gSet 10 [] (f2 dEq (fNl 1 m__law_dense (fCons (fVar 4) fNil)) (fVar 8)))
  (gSeq (gIf [] (fT (f2 dNe (fVar 10) (f2 dEq (fNl 1 m__law_code (fCons (fVar 4) fNil)) (fNl 1 m__law_code (fCons (fVar 2) fNil))))) (gRet (fC (.bl false))) gSkip)
  (gSeq (gSet 11 [] (fNl 2 m_alike (fCons (fVar 2) (fCons (fVar 4) fNil))))
  (gRet (fAnd (f1 (dIsi "bool") (fVar 11)) (fAnd (f2 dEq (fVar 11) (fVar 10)) (f2 dIs (fNl 2 m_alike (fCons (fVar 2) (fCons (fVar 8) fNil))) (fC (.bl true)))))))))))))))))))
def m_law_k01 : List D → Option D := runD 12 g_law_k01
end VM
/-! VF -/
namespace VM
open PySem PySem.Spec PyProof.Rows L2
/-! ### operations of known data -/
section
variable {i j : Int} {k : Nat} {x y : Str} {xs ys : List D} {d : D} {α : Type} {f : α → D} {as : List α}
theorem d_add_int : dAdd (.int i) (.int j) = some (.int (i + j)) := rfl
theorem d_sub_int : dSub (.int i) (.int j) = some (.int (i - j)) := rfl
theorem d_neg_int : dNeg (.int i) = some (.int (-i)) := rfl
theorem d_add_str (h : x.length + y.length ≤ 16777216) : dAdd (.str x) (.str y) = some (.str (x ++ y)) := by
  unfold dAdd; dsimp only; rw [if_pos (by rw [sizeLine_eq]; exact h)]
theorem d_add_lst (h : xs.length + ys.length ≤ 16777216) : dAdd (.lst xs) (.lst ys) = some (.lst (xs ++ ys)) := by
  unfold dAdd; dsimp only; rw [if_pos (by rw [sizeLine_eq]; exact h)]
theorem d_add_tup (h : xs.length + ys.length ≤ 16777216) : dAdd (.tup xs) (.tup ys) = some (.tup (xs ++ ys)) := by
  unfold dAdd; dsimp only; rw [if_pos (by rw [sizeLine_eq]; exact h)]
theorem d_mul_r (h1 : -18446744073709551616 < j) (h2 : j < 18446744073709551616) : dMul (.int i) (.int j) = some (.int (i * j)) := by
  unfold dMul; dsimp only; rw [if_pos (.inl (.inr ⟨by omega, by omega⟩))]
theorem d_mul_l (h1 : -18446744073709551616 < i) (h2 : i < 18446744073709551616) : dMul (.int i) (.int j) = some (.int (i * j)) := by
  unfold dMul; dsimp only; rw [if_pos (.inl (.inl ⟨by omega, by omega⟩))]
theorem d_div (h1 : 0 < j) (h2 : j < 1073741824) : dDiv (.int i) (.int j) = some (.int (i / j)) := by
  unfold dDiv; dsimp only; rw [if_pos ⟨by omega, by omega⟩, Int.fdiv_eq_ediv_of_nonneg _ (by omega)]
theorem d_mod (h1 : 0 < j) : dMod (.int i) (.int j) = some (.int (i % j)) := by
  unfold dMod; dsimp only; rw [if_pos (by omega), Int.fmod_eq_emod_of_nonneg _ (by omega)]
theorem d_pow10_18 : dPow (.int 10) (.int 18) = some (.int 1000000000000000000) := by
  unfold dPow; dsimp only; rw [if_pos (by decide)]; rfl
theorem d_pow10_9 : dPow (.int 10) (.int 9) = some (.int 1000000000) := by
  unfold dPow; dsimp only; rw [if_pos (by decide)]; rfl
theorem d_len_lst : dLen [.lst xs] = some (.int xs.length) := rfl
theorem d_len_tup : dLen [.tup xs] = some (.int xs.length) := rfl
theorem d_len_ro : dLen [.ro xs] = some (.int xs.length) := rfl
theorem d_len_str (h : x.length ≤ 16777216) : dLen [.str x] = some (.int x.length) := by
  unfold dLen; dsimp only; rw [if_pos (by rw [sizeLine_eq]; exact h)]
theorem d_int_int : dInt [.int i] = some (.int i) := rfl
theorem d_tuple_lst : dTuple [.lst xs] = some (.tpd xs) := rfl
theorem d_tuple_tpd : dTuple [.tpd xs] = some (.tpd xs) := rfl
theorem d_len_tpd : dLen [.tpd xs] = some (.int xs.length) := rfl
theorem d_list_tpd : dList [.tpd xs] = some (.lst xs) := rfl
theorem d_listL_tpd : dListL [.tpd xs] = some xs := rfl
theorem d_ix_tpd (h : atI xs i = some d) : dIx (.tpd xs) (.int i) = some d := h
theorem d_ix_tpd0 : dIx (.tpd (d :: xs)) (.int 0) = some d := atI_nat (j := 0) rfl
theorem d_ix_tpd1 {e : D} : dIx (.tpd (e :: d :: xs)) (.int 1) = some d := atI_nat (j := 1) rfl
theorem d_tuple_tup : dTuple [.tup xs] = some (.tup xs) := rfl
theorem d_list_lst : dList [.lst xs] = some (.lst xs) := rfl
theorem d_list_tup : dList [.tup xs] = some (.lst xs) := rfl
theorem d_listL_lst : dListL [.lst xs] = some xs := rfl
theorem d_listL_tup : dListL [.tup xs] = some xs := rfl
theorem d_lt_int : dLt (.int i) (.int j) = some (.bl (decide (i < j))) := rfl
theorem d_le_int : dLe (.int i) (.int j) = some (.bl (decide (i ≤ j))) := rfl
theorem d_gt_int : dGt (.int i) (.int j) = some (.bl (decide (j < i))) := rfl
theorem d_ge_int : dGe (.int i) (.int j) = some (.bl (decide (j ≤ i))) := rfl
theorem d_eq_int : dEq (.int i) (.int j) = some (.bl (decide (i = j))) := dEq_enc eqv_int ((nice_int i).ok (by decide)) ((nice_int j).ok (by decide))
theorem d_ne_int : dNe (.int i) (.int j) = some (.bl (!decide (i = j))) := dNe_enc eqv_int ((nice_int i).ok (by decide)) ((nice_int j).ok (by decide))
theorem d_eq_str (hx : Word x) (hy : Word y) : dEq (.str x) (.str y) = some (.bl (decide (x = y))) := dEq_enc eqv_str ((nice_str hx).ok (by decide)) ((nice_str hy).ok (by decide))
theorem d_ne_str (hx : Word x) (hy : Word y) : dNe (.str x) (.str y) = some (.bl (!decide (x = y))) := dNe_enc eqv_str ((nice_str hx).ok (by decide)) ((nice_str hy).ok (by decide))
theorem eqv_bl : Eqv D.bl := fun a b => by
  show PyData.eqv (.bool a) (.bool b) = _
  rw [PyData.eqv]
  cases a <;> cases b <;> rfl
theorem d_eq_bl {a b : Bool} : dEq (.bl a) (.bl b) = some (.bl (decide (a = b))) := dEq_enc eqv_bl ((nice_bl a).ok (by decide)) ((nice_bl b).ok (by decide))
theorem d_ne_bl {a b : Bool} : dNe (.bl a) (.bl b) = some (.bl (!decide (a = b))) := dNe_enc eqv_bl ((nice_bl a).ok (by decide)) ((nice_bl b).ok (by decide))
theorem atI_at {β : Type} {l : List β} (h0 : 0 ≤ i) (h1 : i.toNat < l.length) : atI l i = some l[i.toNat] := by
  have := atI_nat (List.getElem?_eq_getElem h1)
  rw [Int.toNat_of_nonneg h0] at this
  exact this
theorem d_ix_lst (h : atI xs i = some d) : dIx (.lst xs) (.int i) = some d := h
theorem d_ix_tup (h : atI xs i = some d) : dIx (.tup xs) (.int i) = some d := h
theorem d_ix_ro (h : atI xs i = some d) : dIx (.ro xs) (.int i) = some d := h
theorem d_ix_str {c : Nat} (hz : x.length ≤ 16777216) (h : atI x.cps.toList i = some c) : dIx (.str x) (.int i) = some (.str ⟨#[c]⟩) := by
  unfold dIx; dsimp only; rw [if_pos (by rw [sizeLine_eq]; exact hz), h]; rfl
theorem d_ix_lst0 : dIx (.lst (d :: xs)) (.int 0) = some d := atI_nat (j := 0) rfl
theorem d_ix_tup0 : dIx (.tup (d :: xs)) (.int 0) = some d := atI_nat (j := 0) rfl
theorem d_ix_lst1 {e : D} : dIx (.lst (e :: d :: xs)) (.int 1) = some d := atI_nat (j := 1) rfl
theorem d_ix_tup1 {e : D} : dIx (.tup (e :: d :: xs)) (.int 1) = some d := atI_nat (j := 1) rfl
theorem d_ix_tmap (h0 : 0 ≤ i) (h1 : i.toNat < as.length) : dIx (.tup (as.map f)) (.int i) = some (f as[i.toNat]) := by
  show atI _ _ = _
  rw [atI_at h0 (by rw [List.length_map]; exact h1), List.getElem_map]
theorem d_ix_pmap (h0 : 0 ≤ i) (h1 : i.toNat < as.length) : dIx (.tpd (as.map f)) (.int i) = some (f as[i.toNat]) := by
  show atI _ _ = _
  rw [atI_at h0 (by rw [List.length_map]; exact h1), List.getElem_map]
theorem d_ix_lmap (h0 : 0 ≤ i) (h1 : i.toNat < as.length) : dIx (.lst (as.map f)) (.int i) = some (f as[i.toNat]) := by
  show atI _ _ = _
  rw [atI_at h0 (by rw [List.length_map]; exact h1), List.getElem_map]
theorem d_is_bl {a b : Bool} : dIs (.bl a) (.bl b) = some (.bl (decide (a = b))) := rfl
theorem d_not_bl {b : Bool} : dNot (.bl b) = some (.bl (!b)) := rfl
theorem d_isi_bl {b : Bool} : dIsi "bool" (.bl b) = some (.bl true) := by
  unfold dIsi tyD
  rw [Option.bind_some, show kitB "bool" "bool" = some true from by decide +kernel]
  rfl
/-- slices -/
theorem d_sl_lst {a b : Option Int} : dSl (.lst xs) a b = some (.lst (dCut xs a b)) := rfl
theorem d_sl_tup {a b : Option Int} : dSl (.tup xs) a b = some (.tup (dCut xs a b)) := rfl
theorem d_sl_ro {a b : Option Int} : dSl (.ro xs) a b = some (.lst (dCut xs a b)) := rfl
theorem cut_from (h : 0 ≤ i) : dCut xs (some i) none = xs.drop i.toNat := by
  obtain ⟨k, rfl⟩ := Int.eq_ofNat_of_zero_le h
  unfold dCut
  rw [show HT.sIx xs.length 0 (some (k : Int)) = min k xs.length from HT.sIx_nat .., HT.sIx_none, Int.toNat_natCast]
  by_cases hk : k ≤ xs.length
  · rw [Nat.min_eq_left hk, List.take_of_length_le (by rw [List.length_drop]; omega)]
  · rw [Nat.min_eq_right (by omega), Nat.sub_self, List.take_zero, List.drop_eq_nil_of_le (by omega)]
theorem cut_to (h : 0 ≤ i) : dCut xs none (some i) = xs.take i.toNat := by
  obtain ⟨k, rfl⟩ := Int.eq_ofNat_of_zero_le h
  unfold dCut
  rw [show HT.sIx xs.length xs.length (some (k : Int)) = min k xs.length from HT.sIx_nat .., HT.sIx_none, Int.toNat_natCast, Nat.sub_zero, List.drop_zero]
  by_cases hk : k ≤ xs.length
  · rw [Nat.min_eq_left hk]
  · rw [Nat.min_eq_right (by omega), List.take_length, List.take_of_length_le (by omega)]
theorem cut_mid (h : 0 ≤ i) (h' : 0 ≤ j) : dCut xs (some i) (some j) = (xs.drop i.toNat).take (j.toNat - i.toNat) := by
  obtain ⟨k, rfl⟩ := Int.eq_ofNat_of_zero_le h
  obtain ⟨l, rfl⟩ := Int.eq_ofNat_of_zero_le h'
  unfold dCut
  rw [show HT.sIx xs.length xs.length (some (l : Int)) = min l xs.length from HT.sIx_nat .., show HT.sIx xs.length 0 (some (k : Int)) = min k xs.length from HT.sIx_nat .., Int.toNat_natCast, Int.toNat_natCast]
  by_cases hk : k ≤ xs.length
  · rw [Nat.min_eq_left hk]
    by_cases hl : l ≤ xs.length
    · rw [Nat.min_eq_left hl]
    · rw [Nat.min_eq_right (by omega), List.take_of_length_le (by rw [List.length_drop]; omega), List.take_of_length_le (by rw [List.length_drop]; omega)]
  · rw [Nat.min_eq_right (by omega : xs.length ≤ k), List.drop_eq_nil_of_le (Nat.le_refl _), List.drop_eq_nil_of_le (by omega), List.take_nil, List.take_nil]
end
/-! ### ranges -/
theorem rng1 {n : Int} (h : n < 4611686018427387904) (h0 : 0 ≤ n) : dRng1 [.int n] = some ((List.range n.toNat).map fun i => .int (i : Nat)) := by
  unfold dRng1
  dsimp only
  rw [if_pos ⟨by omega, by omega⟩]
  unfold rngD
  congr 1
  exact List.map_congr_left fun i _ => by rw [Int.zero_add]
theorem rng1' {n : Nat} (h : n < 4611686018427387904) : dRng1 [.int (n : Int)] = some ((List.range n).map fun i => .int (i : Nat)) := by
  rw [rng1 (by omega) (by omega), Int.toNat_natCast]
theorem range_get {n i : Nat} {x : D} (h : ((List.range n).map fun i => D.int (i : Nat))[i]? = some x) : i < n ∧ x = .int (i : Nat) := by
  rw [List.getElem?_map] at h
  obtain ⟨j, hj, rfl⟩ := Option.map_eq_some_iff.mp h
  obtain ⟨h1, h2⟩ := List.getElem?_eq_some_iff.mp hj
  rw [List.getElem_range] at h2
  subst h2
  rw [List.length_range] at h1
  exact ⟨h1, rfl⟩
/-! ### in -/
theorem inD_map {α : Type} [DecidableEq α] {f : α → D} (h : ∀ a b, eqD (f a) (f b) = decide (a = b)) (x : α) : ∀ ys : List α, inD (f x) (ys.map f) = decide (x ∈ ys)
  | [] => rfl
  | y :: ys => by
    have ih := inD_map h x ys
    unfold inD at ih ⊢
    rw [List.map_cons, List.any_cons, ih, h y x]
    by_cases e : y = x
    · subst e; simp
    · have e' : ¬ x = y := fun z => e z.symm
      simp [e, e']
theorem eqD_int (a b : Int) : eqD (.int a) (.int b) = decide (a = b) := Bool.beq_eq_decide_eq a b
theorem eqD_str (a b : Str) : eqD (.str a) (.str b) = decide (a = b) := Bool.beq_eq_decide_eq a b
theorem flat_map {α : Type} {f : α → D} (h : ∀ a, flatD (f a) = true) (ys : List α) : (ys.map f).all flatD = true := by
  rw [List.all_eq_true]
  intro d hd
  obtain ⟨a, _, rfl⟩ := List.mem_map.mp hd
  exact h a
theorem d_in_lint (x : Int) (ys : List Int) : dIn (.int x) (.lst (ys.map .int)) = some (.bl (decide (x ∈ ys))) := by
  unfold dIn dInB
  dsimp only
  rw [if_pos ⟨rfl, flat_map (fun _ => rfl) ys⟩, inD_map eqD_int]
  rfl
theorem d_notIn_lint (x : Int) (ys : List Int) : dNotIn (.int x) (.lst (ys.map .int)) = some (.bl (!decide (x ∈ ys))) := by
  unfold dNotIn dInB
  dsimp only
  rw [if_pos ⟨rfl, flat_map (fun _ => rfl) ys⟩, inD_map eqD_int]
  rfl
theorem d_in_lstr (x : Str) (ys : List Str) : dIn (.str x) (.lst (ys.map .str)) = some (.bl (decide (x ∈ ys))) := by
  unfold dIn dInB
  dsimp only
  rw [if_pos ⟨rfl, flat_map (fun _ => rfl) ys⟩, inD_map eqD_str]
  rfl
end VM
/-! VG -/
namespace VM
open PySem PySem.Spec PyProof.Rows L2
/-! ### what a reckoning gives -/
def Gives {α : Type} (x : Option α) (Q : α → Prop) : Prop := ∃ a, x = some a ∧ Q a
section
variable {α β : Type} {x : Option α} {k : α → Option β} {P : α → Prop} {Q : β → Prop} {a : α}
theorem gives_some {Q : α → Prop} (h : Q a) : Gives (some a) Q := ⟨a, rfl, h⟩
theorem gives_eq {Q : α → Prop} (e : x = some a) (h : Q a) : Gives x Q := ⟨a, e, h⟩
theorem gives_of {Q : α → Prop} (h : ∃ a, x = some a ∧ Q a) : Gives x Q := h
theorem gives_bind (h : Gives x P) (hk : ∀ a, P a → Gives (k a) Q) : Gives (x.bind k) Q := by
  obtain ⟨a, e, q⟩ := h
  rw [e, Option.bind_some]
  exact hk a q
theorem gives_then (e : x = some a) (hk : Gives (k a) Q) : Gives (x.bind k) Q := by
  rw [e, Option.bind_some]
  exact hk
theorem Gives.imp {Q Q' : α → Prop} (h : Gives x Q) (i : ∀ a, Q a → Q' a) : Gives x Q' := by
  obtain ⟨a, e, q⟩ := h
  exact ⟨a, e, i a q⟩
theorem gives_is (h : Gives x fun b => b = a) : x = some a := by
  obtain ⟨b, e, rfl⟩ := h
  exact e
theorem is_gives (h : x = some a) : Gives x fun b => b = a := ⟨a, h, rfl⟩
end
section
variable {α β γ : Type} {x : Option α} {k : α → Option β} {P : α → Prop} {Q : β → Prop} {a : α} {u : Tag k}
theorem bnd_eq : bnd x k u = x.bind k := rfl
theorem g_bnd (h : Gives x P) (hk : ∀ a, P a → Gives (k a) Q) : Gives (bnd x k u) Q := gives_bind h hk
theorem g_then (e : x = some a) (hk : Gives (k a) Q) : Gives (bnd x k u) Q := gives_then e hk
/-- what stands within is reckoned first -/
theorem g_in {k2 : β → Option γ} {v : Tag k2} {R : γ → Prop} (h : Gives (bnd x (fun a => bnd (k a) k2 v) (tag _)) R) : Gives (bnd (bnd x k u) k2 v) R := by
  rw [bnd_eq, bnd_eq, Option.bind_assoc]
  exact h
end
def isNx (J : Sv → Prop) : Out → Prop
  | .nx ρ => J ρ
  | _ => False
def nxOr (J : Sv → Prop) (R : D → Prop) : Out → Prop
  | .nx ρ => J ρ
  | .rt d => R d
  | _ => False
section
variable {t : D → Sv → Option Sv} {body : Sv → Option Out} {xs : List D} {ρ : Sv}
theorem gives_loop (J : Nat → Sv → Prop) (h : J 0 ρ) (hs : ∀ i x ρ, xs[i]? = some x → J i ρ → Gives (t x ρ) fun ρ1 => Gives (body ρ1) (isNx (J (i + 1)))) : Gives (loopG t body xs ρ) (isNx (J xs.length)) := by
  obtain ⟨ρ', h1, h2⟩ := loop_go J h fun i x ρ hx hj => by
    obtain ⟨ρ1, e1, o, e2, q⟩ := hs i x ρ hx hj
    cases o with
    | nx ρ2 => exact ⟨ρ1, ρ2, e1, e2, q⟩
    | _ => exact q.elim
  exact ⟨_, h1, h2⟩
theorem gives_for {β : Type} {k : Out → Option β} {u : Tag k} {Q : β → Prop} (J : Nat → Sv → Prop) (h : J 0 ρ) (hs : ∀ i x ρ, xs[i]? = some x → J i ρ → Gives (t x ρ) fun ρ1 => Gives (body ρ1) (isNx (J (i + 1)))) (hk : ∀ ρ', J xs.length ρ' → Gives (k (.nx ρ')) Q) : Gives (bnd (loopG t body xs ρ) k u) Q :=
  gives_bind (gives_loop J h hs) fun o q => by
    cases o with
    | nx ρ' => exact hk ρ' q
    | _ => exact q.elim
/-- a loop that may return -/
theorem gives_forR {β : Type} {k : Out → Option β} {u : Tag k} {Q : β → Prop} (J : Nat → Sv → Prop) (R : D → Prop) (h : J 0 ρ) (hs : ∀ i x ρ, xs[i]? = some x → J i ρ → Gives (t x ρ) fun ρ1 => Gives (body ρ1) (nxOr (J (i + 1)) R)) (hk : ∀ ρ', J xs.length ρ' → Gives (k (.nx ρ')) Q) (hr : ∀ d, R d → Gives (k (.rt d)) Q) : Gives (bnd (loopG t body xs ρ) k u) Q := by
  rcases loop_or J R h (fun i x ρ hx hj => by
    obtain ⟨ρ1, e1, o, e2, q⟩ := hs i x ρ hx hj
    refine ⟨ρ1, o, e1, e2, ?_⟩
    cases o <;> exact q) with ⟨ρ', h1, h2⟩ | ⟨d, h1, h2⟩
  · exact gives_then h1 (hk _ h2)
  · exact gives_then h1 (hr _ h2)
theorem gives_while {m : List Bool} {c : Env → Option Bool} {n : Nat} {β : Type} {k : Out → Option β} {u : Tag k} {Q : β → Prop} (J : Sv → Prop) (size : Sv → Nat) (h : J ρ) (hn : size ρ < n)
    (hs : ∀ ρ, J ρ → Gives (c (view (frz m ρ))) fun b => b = true → Gives (body ρ) (isNx fun ρ2 => J ρ2 ∧ size ρ2 < size ρ)) (hk : ∀ ρ', J ρ' → c (view (frz m ρ')) = some false → Gives (k (.nx ρ')) Q) : Gives (bnd (whileG m c body n ρ) k u) Q := by
  obtain ⟨ρ', h1, h2, h3⟩ := while_go J size (fun ρ hj => by
    obtain ⟨b, e, q⟩ := hs ρ hj
    refine ⟨b, e, fun hb => ?_⟩
    obtain ⟨o, e2, q2⟩ := q hb
    cases o with
    | nx ρ2 => exact ⟨ρ2, e2, q2.1, q2.2⟩
    | _ => exact q2.elim) n ρ h hn
  exact gives_then h1 (hk ρ' h2 h3)
end
theorem ite_some {α : Type} {c : Prop} [Decidable c] {a : Option α} (h : c) : (if c then a else none) = a := if_pos h
/-- a test whose outcome is open -/
theorem g_way {β : Type} {b : Bool} {x y : Option β} {u : Tag x} {v : Tag y} {Q : β → Prop} (h1 : b = true → Gives x Q) (h2 : b = false → Gives y Q) : Gives (way b x y u v) Q := by
  cases b with
  | true => exact h1 rfl
  | false => exact h2 rfl
theorem g_wayB {β γ : Type} {b : Bool} {x y : Option β} {k : β → Option γ} {u : Tag x} {v : Tag y} {w : Tag k} {Q : γ → Prop} (h1 : b = true → Gives (bnd x k w) Q) (h2 : b = false → Gives (bnd y k w) Q) : Gives (bnd (way b x y u v) k w) Q := by
  cases b with
  | true => exact h1 rfl
  | false => exact h2 rfl
end VM
local macro_rules
  | `(tactic| walk_at "vm") => `(tactic| simp -implicitDefEqProofs -dsimp (disch := first | omega | (simp only [List.length_map, List.length_append, List.length_cons, List.length_nil, List.length_drop, List.length_take, List.length_range]; omega)) only [VM.a_run, VM.a_skip, VM.a_seq, VM.a_set, VM.a_own, VM.a_fz, VM.a_ret, VM.a_retN, VM.a_brk, VM.a_cont, VM.a_drop, VM.a_if, VM.a_app, VM.a_ins, VM.a_asg, VM.a_newK, VM.a_newT, VM.a_put, VM.x_comp2, VM.a_for, VM.a_while, VM.x_var, VM.x_c, VM.x_1, VM.x_2, VM.x_n, VM.x_nl, VM.x_nil, VM.x_cons, VM.x_tup, VM.x_lst, VM.x_l, VM.x_t, VM.x_notT, VM.x_andT, VM.x_orT, VM.x_and, VM.x_or, VM.x_ite, VM.x_no, VM.x_yes, VM.x_sl, VM.x_comp, VM.x_seq, VM.x_rn1, VM.x_rn2, VM.x_en, VM.x_zp, VM.x_d, VM.x_dc, VM.x_tt, VM.t_eN, VM.t_sN, VM.wipeE, VM.bnd_some, VM.way_true, VM.way_false, VM.see_val, VM.see_own, VM.see_dK, VM.see_dT, VM.see_non, VM.fz_val, VM.fz_own, VM.fz_non, VM.fz_dK, VM.fz_dT, VM.view_nil, VM.view_cons, VM.frzA_nil, VM.frzA_cons, VM.frz_nil, VM.frz_t, VM.frz_f, VM.post_nil, VM.post_int, VM.post_bl, VM.post_str, VM.post_non, VM.post_lst, VM.post_tup, VM.post_ro, VM.post_ins, VM.solid_int, VM.solid_str, VM.solid_bl, VM.solid_non, VM.solid_tup, VM.solids_mint, VM.solids_mstr, VM.solids_nil, VM.solids_cons, Bool.and_self, Bool.and_true, Bool.true_and, VM.s_nil, VM.s_cons, VM.r_zero, VM.r_succ, VM.x_own, VM.own_list, VM.seq_lst, VM.seq_tup, VM.seq_ro, VM.seq_tpd, VM.post_tpd, List.map_cons, List.map_nil, List.length_cons, List.length_nil, List.length_map, List.length_range, List.cons_append, List.nil_append, List.getElem?_cons_zero, List.getElem?_cons_succ, List.set_cons_zero, List.set_cons_succ, Option.getD_some, Option.bind_some, Option.map_some, Nat.reduceAdd, Nat.reduceSub, Nat.reduceLeDiff, Nat.add_eq, if_true, if_false, Bool.false_eq_true, reduceIte, Bool.not_true, Bool.not_false, VM.ite_some, VM.d_add_int, VM.d_sub_int, VM.d_neg_int, VM.d_mul_r, VM.d_mul_l, VM.d_div, VM.d_mod, VM.d_pow10_18, VM.d_pow10_9, VM.d_len_lst, VM.d_len_tup, VM.d_len_ro, VM.d_int_int, VM.d_tuple_lst, VM.d_tuple_tup, VM.d_tuple_tpd, VM.d_len_tpd, VM.d_list_tpd, VM.d_listL_tpd, VM.d_list_lst, VM.d_list_tup, VM.d_listL_lst, VM.d_listL_tup, VM.d_lt_int, VM.d_le_int, VM.d_gt_int, VM.d_ge_int, VM.d_eq_int, VM.d_ne_int, VM.d_eq_bl, VM.d_ne_bl, VM.d_ix_lst0, VM.d_ix_lst1, VM.d_ix_tup0, VM.d_ix_tup1, VM.d_ix_tpd0, VM.d_ix_tpd1, VM.d_is_bl, VM.d_not_bl, VM.d_isi_bl, VM.d_sl_lst, VM.d_sl_tup, VM.d_sl_ro, VM.d_add_lst, VM.d_add_tup, VM.d_in_lint, VM.d_notIn_lint, VM.d_in_lstr, VM.rng1', VM.rng1, Int.reduceToNat, Int.toNat_natCast, VM.isNx])
local macro_rules
  | `(tactic| exists $es,*) => `(tactic| simp -implicitDefEqProofs -dsimp (disch := first | omega | (simp only [List.length_map, List.length_append, List.length_cons, List.length_nil, List.length_drop, List.length_take, List.length_range]; omega)) only [VM.a_run, VM.a_skip, VM.a_seq, VM.a_set, VM.a_own, VM.a_fz, VM.a_ret, VM.a_retN, VM.a_brk, VM.a_cont, VM.a_drop, VM.a_if, VM.a_app, VM.a_ins, VM.a_asg, VM.a_newK, VM.a_newT, VM.a_put, VM.x_comp2, VM.a_for, VM.a_while, VM.x_var, VM.x_c, VM.x_1, VM.x_2, VM.x_n, VM.x_nl, VM.x_nil, VM.x_cons, VM.x_tup, VM.x_lst, VM.x_l, VM.x_t, VM.x_notT, VM.x_andT, VM.x_orT, VM.x_and, VM.x_or, VM.x_ite, VM.x_no, VM.x_yes, VM.x_sl, VM.x_comp, VM.x_seq, VM.x_rn1, VM.x_rn2, VM.x_en, VM.x_zp, VM.x_d, VM.x_dc, VM.x_tt, VM.t_eN, VM.t_sN, VM.wipeE, VM.bnd_some, VM.way_true, VM.way_false, VM.see_val, VM.see_own, VM.see_dK, VM.see_dT, VM.see_non, VM.fz_val, VM.fz_own, VM.fz_non, VM.fz_dK, VM.fz_dT, VM.view_nil, VM.view_cons, VM.frzA_nil, VM.frzA_cons, VM.frz_nil, VM.frz_t, VM.frz_f, VM.post_nil, VM.post_int, VM.post_bl, VM.post_str, VM.post_non, VM.post_lst, VM.post_tup, VM.post_ro, VM.post_ins, VM.solid_int, VM.solid_str, VM.solid_bl, VM.solid_non, VM.solid_tup, VM.solids_mint, VM.solids_mstr, VM.solids_nil, VM.solids_cons, Bool.and_self, Bool.and_true, Bool.true_and, VM.s_nil, VM.s_cons, VM.r_zero, VM.r_succ, VM.x_own, VM.own_list, VM.seq_lst, VM.seq_tup, VM.seq_ro, VM.seq_tpd, VM.post_tpd, List.map_cons, List.map_nil, List.length_cons, List.length_nil, List.length_map, List.length_range, List.cons_append, List.nil_append, List.getElem?_cons_zero, List.getElem?_cons_succ, List.set_cons_zero, List.set_cons_succ, Option.getD_some, Option.bind_some, Option.map_some, Nat.reduceAdd, Nat.reduceSub, Nat.reduceLeDiff, Nat.add_eq, if_true, if_false, Bool.false_eq_true, reduceIte, Bool.not_true, Bool.not_false, VM.ite_some, VM.d_add_int, VM.d_sub_int, VM.d_neg_int, VM.d_mul_r, VM.d_mul_l, VM.d_div, VM.d_mod, VM.d_pow10_18, VM.d_pow10_9, VM.d_len_lst, VM.d_len_tup, VM.d_len_ro, VM.d_int_int, VM.d_tuple_lst, VM.d_tuple_tup, VM.d_tuple_tpd, VM.d_len_tpd, VM.d_list_tpd, VM.d_listL_tpd, VM.d_list_lst, VM.d_list_tup, VM.d_listL_lst, VM.d_listL_tup, VM.d_lt_int, VM.d_le_int, VM.d_gt_int, VM.d_ge_int, VM.d_eq_int, VM.d_ne_int, VM.d_eq_bl, VM.d_ne_bl, VM.d_ix_lst0, VM.d_ix_lst1, VM.d_ix_tup0, VM.d_ix_tup1, VM.d_ix_tpd0, VM.d_ix_tpd1, VM.d_is_bl, VM.d_not_bl, VM.d_isi_bl, VM.d_sl_lst, VM.d_sl_tup, VM.d_sl_ro, VM.d_add_lst, VM.d_add_tup, VM.d_in_lint, VM.d_notIn_lint, VM.d_in_lstr, VM.rng1', VM.rng1, Int.reduceToNat, Int.toNat_natCast, VM.isNx, $[$es:term],*])
/-! S1 -/
namespace VM
open PySem PySem.Spec PyProof.Rows L2
/-! ### _law_cell -/
theorem spec__law_cell (ns : List Int) (k : Nat) : m__law_cell [.ro (ns.map .int), .int (k : Int)] = some (.int (ns.getD k 0)) := by
  unfold m__law_cell g__law_cell
  walk_at "vm"
  by_cases h : k < ns.length
  · rw [decide_eq_true (by omega : (k : Int) < ns.length)]
    have eix : dIx (.ro (ns.map .int)) (.int (k : Int)) = some (.int ns[k]) := d_ix_ro (atI_nat (by rw [List.getElem?_map, List.getElem?_eq_getElem h]; rfl))
    exists eix
    rw [List.getD_eq_getElem?_getD, List.getElem?_eq_getElem h]
    rfl
  · rw [decide_eq_false (by omega : ¬ (k : Int) < ns.length), List.getD_eq_getElem?_getD, List.getElem?_eq_none (by omega)]
    rfl

/-! ### _law_row -/
theorem spec__law_row (c : Int) (n : Nat) (hn : n ≤ 1000) : Gives (m__law_row [.int c, .int n]) fun d => ∃ l : List Int, d = .lst (l.map .int) ∧ l.length = n ∧ ∀ z ∈ l, 0 ≤ z ∧ z < 840 := by
  unfold m__law_row g__law_row
  have hz := sizeLine_eq
  walk_at "vm"
  refine g_in (gives_for (fun i ρ => ∃ (l : List Int) (r s : Int) (o : Slot), ρ = [.val (.int c), .val (.int n), .own (l.map .int), .val (.int r), .val (.int s), o] ∧ l.length = i ∧ i ≤ n ∧ (∀ z ∈ l, 0 ≤ z ∧ z < 840) ∧ 0 ≤ s ∧ s < 2147483648) ?_ ?_ ?_)
  · exact ⟨[], _, _, _, rfl, rfl, by omega, by simp, by omega, by omega⟩
  · rintro i x ρ hx ⟨l, r, s, o, rfl, hl, hi, hz, hs0, hs1⟩
    obtain ⟨hin, rfl⟩ := range_get hx
    walk_at "vm"
    refine gives_some ?_
    walk_at "vm"
    refine g_way (fun hc => ?_) (fun hc => ?_)
    · walk_at "vm"
      refine gives_some ⟨l ++ [r % 840], _, _, _, by rw [List.map_append]; rfl, by simp [hl], by omega, fun z hz' => ?_, hs0, hs1⟩
      rcases List.mem_append.mp hz' with h | h
      · exact hz z h
      · rw [List.mem_singleton.mp h]; omega
    · walk_at "vm"
      refine gives_some ⟨l ++ [_], _, _, _, by rw [List.map_append]; rfl, by simp [hl], by omega, fun z hz' => ?_, by omega, by omega⟩
      rcases List.mem_append.mp hz' with h | h
      · exact hz z h
      · rw [List.mem_singleton.mp h]; omega
  · rintro ρ ⟨l, r, s, o, rfl, hl, hi, hz, _, _⟩
    walk_at "vm"
    exact gives_some ⟨l, rfl, by rw [hl]; simp, hz⟩

/-! ### words -/
def abc : Str := "abcdefghijklmnopqrstuvwxyz"
def qq : Str := "q"
/-- a word's letters -/
def Low (w : Str) : Prop := ∀ c ∈ w.cps.toList, 97 ≤ c ∧ c ≤ 122
theorem abc_len : abc.cps.toList.length = 26 := by decide +kernel
theorem abc_low : Low abc := by unfold Low; decide +kernel
theorem qq_low : Low qq := by unfold Low; decide +kernel
theorem qq_len : qq.length = 1 := by decide +kernel
theorem Low.append {x y : Str} (h : Low x) (h' : Low y) : Low (x ++ y) := fun c hc => by
  have e : (x ++ y).cps = x.cps ++ y.cps := rfl
  rw [e, Array.toList_append, List.mem_append] at hc
  rcases hc with hc | hc
  · exact h c hc
  · exact h' c hc
theorem Low.word {x : Str} (h : Low x) : Word x := by
  show PyData.canLay0 (.str x) = true
  rw [PyData.canLay0]
  show x.cps.all (· < 0x110000) = true
  rw [Array.all_eq_true']
  intro c hc
  have := h c (Array.mem_toList_iff.mpr hc)
  simp only [decide_eq_true_eq]
  omega
theorem d_abc (i : Int) (h0 : 0 ≤ i) (h1 : i < 26) : ∃ w : Str, dIx (.str abc) (.int i) = some (.str w) ∧ Low w ∧ w.length = 1 := by
  have hi : i.toNat < abc.cps.toList.length := by rw [abc_len]; omega
  refine ⟨⟨#[abc.cps.toList[i.toNat]]⟩, d_ix_str (by have : abc.length = 26 := by decide +kernel
                                                     omega) (atI_at h0 hi), fun c hc => ?_, rfl⟩
  have e : c = abc.cps.toList[i.toNat] := by simpa using hc
  rw [e]
  exact abc_low _ (List.getElem_mem hi)
theorem spec__law_word (n : Int) (h0 : 0 ≤ n) : Gives (m__law_word [.int n]) fun d => ∃ w : Str, d = .str w ∧ Low w ∧ 1 ≤ w.length ∧ w.length ≤ 5 := by
  unfold m__law_word g__law_word
  obtain ⟨w1, e1, l1, n1⟩ := d_abc (n % 26) (by omega) (by omega)
  obtain ⟨w2, e2, l2, n2⟩ := d_abc (n / 3 % 26) (by omega) (by omega)
  obtain ⟨w3, e3, l3, n3⟩ := d_abc (n / 5 % 26) (by omega) (by omega)
  obtain ⟨w4, e4, l4, n4⟩ := d_abc (n / 11 % 26) (by omega) (by omega)
  obtain ⟨w5, e5, l5, n5⟩ := d_abc (n / 2 % 26) (by omega) (by omega)
  have ha : ("abcdefghijklmnopqrstuvwxyz" : Str) = abc := rfl
  have L2 := Str.length_append w1 w2
  have L3 := Str.length_append w1 w3
  have L4 := Str.length_append (w1 ++ w3) w4
  have L5 := Str.length_append (w1 ++ w3 ++ w4) w5
  have M3 := Str.length_append (w1 ++ w2) w3
  have M4 := Str.length_append (w1 ++ w2 ++ w3) w4
  have M5 := Str.length_append (w1 ++ w2 ++ w3 ++ w4) w5
  exists ha, e1
  refine g_in (g_wayB (fun c1 => ?_) (fun c1 => ?_)) <;> exists e2, d_add_str
  · refine g_in (g_wayB (fun c2 => ?_) (fun c2 => ?_)) <;> exists e3, e4, e5, d_add_str
    · exact gives_some ⟨_, rfl, ((((l1.append l2).append l3).append l4).append l5), by omega, by omega⟩
    · exact gives_some ⟨_, rfl, (l1.append l2), by omega, by omega⟩
  · refine g_in (g_wayB (fun c2 => ?_) (fun c2 => ?_)) <;> exists e3, e4, e5, d_add_str
    · exact gives_some ⟨_, rfl, (((l1.append l3).append l4).append l5), by omega, by omega⟩
    · exact gives_some ⟨_, rfl, l1, by omega, by omega⟩
end VM
/-! S2 -/
namespace VM
open PySem PySem.Spec PyProof.Rows L2

/-! ### _law_words -/
def GoodW (w : Str) : Prop := Low w ∧ 1 ≤ w.length ∧ w.length ≤ 8
def addq (w : Str) : Nat → Str
  | 0 => w
  | t + 1 => addq w t ++ qq
theorem addq_len (w : Str) : ∀ t, (addq w t).length = w.length + t
  | 0 => rfl
  | t + 1 => by
    show (addq w t ++ qq).length = _
    rw [Str.length_append, addq_len w t, qq_len]
    omega
theorem addq_low {w : Str} (h : Low w) : ∀ t, Low (addq w t)
  | 0 => h
  | t + 1 => (addq_low h t).append qq_low
theorem spec__law_words (l : List Int) (n : Nat) (hn : n ≤ l.length) (h4 : n ≤ 4) (hl : ∀ z ∈ l, 0 ≤ z) :
    Gives (m__law_words [.lst (l.map .int), .int n]) fun d => ∃ ws : List Str, d = .tpd (ws.map .str) ∧ ws.length = n ∧ ws.Nodup ∧ ∀ w ∈ ws, GoodW w := by
  unfold m__law_words g__law_words
  have hz := sizeLine_eq
  walk_at "vm"
  refine g_in (gives_for (fun i ρ => ∃ (ws : List Str) (o3 o4 o5 : Slot), ρ = [.val (.lst (l.map .int)), .val (.int n), .own (ws.map .str), o3, o4, o5] ∧ ws.length = i ∧ ws.Nodup ∧ ∀ w ∈ ws, GoodW w) ?_ ?_ ?_)
  · exact ⟨[], _, _, _, rfl, rfl, List.nodup_nil, by simp⟩
  · rintro i x ρ hx ⟨ws, o3, o4, o5, rfl, hw, nd, hg⟩
    obtain ⟨hin, rfl⟩ := range_get hx
    refine gives_some ?_
    obtain ⟨d, ew, w0, rfl, low0, l1, l5⟩ := spec__law_word (l[i]'(by omega)) (hl _ (List.getElem_mem _))
    have eix : dIx (.lst (l.map .int)) (.int (i : Int)) = some (.int (l[i]'(by omega))) := d_ix_lst (atI_nat (by rw [List.getElem?_map, List.getElem?_eq_getElem (by omega)]; rfl))
    exists eix, ew
    refine gives_for (fun j ρ => ∃ (t : Nat) (o5 : Slot), ρ = [.val (.lst (l.map .int)), .val (.int n), .own (ws.map .str), .val (.int i), .val (.str (addq w0 t)), o5] ∧ t ≤ j ∧ (∀ s, s < t → addq w0 s ∈ ws) ∧ (addq w0 t ∉ ws ∨ t = j)) ?_ ?_ ?_
    · exact ⟨0, _, rfl, Nat.le_refl _, fun s h => absurd h (Nat.not_lt_zero _), .inr rfl⟩
    · rintro j x ρ hx ⟨t, o5, rfl, ht, hs, hor⟩
      obtain ⟨hj, rfl⟩ := range_get hx
      refine gives_some ?_
      have el := addq_len w0 t
      have e1 : dAdd (.str (addq w0 t)) (.str ("q" : Str)) = some (.str (addq w0 (t + 1))) := d_add_str (by
        have : ("q" : Str).length = 1 := qq_len
        have hj' : j < 3 := by simpa using hj
        omega)
      walk_at "vm"
      refine g_way (fun hc => ?_) (fun hc => ?_)
      · have hc := of_decide_eq_true hc
        exists e1
        refine gives_some ⟨t + 1, _, rfl, by omega, fun s hs' => ?_, .inr (by rcases hor with h | h; exact absurd hc h; omega)⟩
        by_cases q : s = t
        · rw [q]; exact hc
        · exact hs s (by omega)
      · have hc := of_decide_eq_false hc
        walk_at "vm"
        exact gives_some ⟨t, _, rfl, by omega, hs, .inl hc⟩
    · rintro ρ ⟨t, o5, rfl, ht, hs, hor⟩
      have ht3 : t ≤ 3 := by simpa using ht
      have hnew : addq w0 t ∉ ws := by
        rcases hor with h | h
        · exact h
        · have ht : t = 3 := by simpa using h
          subst ht
          intro hmem
          have nd4 : [addq w0 0, addq w0 1, addq w0 2, addq w0 3].Nodup := by
            have ne : ∀ a b : Nat, a ≠ b → addq w0 a ≠ addq w0 b := fun a b hab e => by
              have := congrArg Str.length e
              rw [addq_len, addq_len] at this
              omega
            simp [ne]
          have := nodup_le nd4 (m := ws) fun z hz => by
            simp only [List.mem_cons, List.not_mem_nil, or_false] at hz
            rcases hz with rfl | rfl | rfl | rfl
            · exact hs 0 (by omega)
            · exact hs 1 (by omega)
            · exact hs 2 (by omega)
            · exact hmem
          simp at this
          omega
      walk_at "vm"
      refine gives_some ⟨ws ++ [addq w0 t], _, _, _, by rw [List.map_append]; rfl, by simp [hw], ?_, fun w hw' => ?_⟩
      · exact List.nodup_append.mpr ⟨nd, by simp, fun a ha b hb => by rw [List.mem_singleton.mp hb]; exact fun q => hnew (by rw [← q]; exact ha)⟩
      · rcases List.mem_append.mp hw' with h | h
        · exact hg w h
        · rw [List.mem_singleton.mp h]
          have := addq_len w0 t
          exact ⟨addq_low low0 t, by omega, by omega⟩
  · rintro ρ ⟨ws, o3, o4, o5, rfl, hw, nd, hg⟩
    walk_at "vm"
    exact gives_some ⟨ws, rfl, by simpa using hw, nd, hg⟩

/-! ### messages -/
def eMsg (m : Str × Int) : D := .tup [.str m.1, .int m.2]
def IsMsg (d : D) (m : Str × Int) : Prop := d = eMsg m ∨ d = .lst [.str m.1, .int m.2]
theorem IsMsg.ix0 {d : D} {m : Str × Int} (h : IsMsg d m) : dIx d (.int 0) = some (.str m.1) := by
  rcases h with rfl | rfl
  · exact d_ix_tup0
  · exact d_ix_lst0
theorem IsMsg.ix1 {d : D} {m : Str × Int} (h : IsMsg d m) : dIx d (.int 1) = some (.int m.2) := by
  rcases h with rfl | rfl
  · exact d_ix_tup1
  · exact d_ix_lst1
theorem IsMsg.eTL {d : D} {m : Str × Int} (h : IsMsg d m) (i j : Nat) (e : Env) : eTL [i, j] d e = some ((e.set i (some (.str m.1))).set j (some (.int m.2))) := by
  rcases h with rfl | rfl <;> rfl
theorem IsMsg.sTL {d : D} {m : Str × Int} (h : IsMsg d m) (i j : Nat) (ρ : Sv) : sTL [i, j] d ρ = some ((ρ.set i (.val (.str m.1))).set j (.val (.int m.2))) := by
  rcases h with rfl | rfl <;> rfl
theorem isMsgs (ms : Inp Str) : All2 IsMsg (ms.map eMsg) ms := All2.of_map (fun m => .inl rfl) ms
theorem ix_e0 (m : Str × Int) : dIx (eMsg m) (.int 0) = some (.str m.1) := d_ix_tup0
theorem ix_e1 (m : Str × Int) : dIx (eMsg m) (.int 1) = some (.int m.2) := d_ix_tup1
theorem e_msg (n : Str) (i : Int) : D.tup [.str n, .int i] = eMsg (n, i) := rfl
theorem eqv_msg : Eqv eMsg := eqv_pair eqv_str eqv_int
theorem nice_msg {m : Str × Int} (h : Word m.1) : Nice 1 (eMsg m) := nice_tup fun d hd => by
  simp only [List.mem_cons, List.not_mem_nil, or_false] at hd
  rcases hd with rfl | rfl
  · exact nice_str h
  · exact nice_int _
def Words (ms : Inp Str) : Prop := ∀ m ∈ ms, Word m.1
theorem nice_msgs {ms : Inp Str} (h : Words ms) : Nice 2 (.lst (ms.map eMsg)) := nice_lst fun d hd => by
  obtain ⟨m, hm, rfl⟩ := List.mem_map.mp hd
  exact nice_msg (h m hm)
theorem d_eq_msgs {a b : Inp Str} (ha : Words a) (hb : Words b) : dEq (.lst (a.map eMsg)) (.lst (b.map eMsg)) = some (.bl (decide (a = b))) :=
  dEq_enc (eqv_lst eqv_msg) ((nice_msgs ha).ok (by decide)) ((nice_msgs hb).ok (by decide))
theorem d_ne_msgs {a b : Inp Str} (ha : Words a) (hb : Words b) : dNe (.lst (a.map eMsg)) (.lst (b.map eMsg)) = some (.bl (!decide (a = b))) :=
  dNe_enc (eqv_lst eqv_msg) ((nice_msgs ha).ok (by decide)) ((nice_msgs hb).ok (by decide))
theorem words_dense {ms : Inp Str} (h : Words ms) : Words (dense ms) := fun m hm => by
  obtain ⟨k, hk, rfl⟩ := List.mem_map.mp hm
  exact h k hk
theorem words_codeGo : ∀ {ms : Inp Str} {seen : List Int}, Words ms → Words (codeGo seen ms)
  | [], _, _ => fun m hm => by cases hm
  | m :: r, seen, h => fun k hk => by
    rcases List.mem_cons.mp hk with rfl | hk
    · exact h m List.mem_cons_self
    · exact words_codeGo (fun x hx => h x (List.mem_cons_of_mem _ hx)) k hk
theorem words_code {ms : Inp Str} (h : Words ms) : Words (code ms) := words_codeGo h

/-! ### _law_input -/
theorem d_pick {α : Type} {f : α → D} (ws : List α) (h : 0 < ws.length) (z : Int) : ∃ w ∈ ws, dIx (.tpd (ws.map f)) (.int (z % (ws.length : Int))) = some (f w) := by
  have h0 := Int.emod_nonneg z (show (ws.length : Int) ≠ 0 by omega)
  have h1 := Int.emod_lt_of_pos z (show (0 : Int) < ws.length by omega)
  exact ⟨_, List.getElem_mem (show (z % (ws.length : Int)).toNat < ws.length by omega), d_ix_pmap h0 (by omega)⟩
theorem spec__law_input (ws : List Str) (c : Int) (n : Nat) (hw : 0 < ws.length) (hn : n ≤ 1000) :
    Gives (m__law_input [.tpd (ws.map .str), .int c, .int n]) fun d => ∃ ms : Inp Str, d = .lst (ms.map eMsg) ∧ ms.length = n ∧ ∀ m ∈ ms, m.1 ∈ ws := by
  unfold m__law_input g__law_input
  have hz := sizeLine_eq
  obtain ⟨d, er, l, rfl, hl, hr⟩ := spec__law_row c n hn
  exists er
  refine g_in (gives_for (fun i ρ => ∃ (ms : Inp Str) (o4 o5 : Slot), ρ = [.val (.tpd (ws.map .str)), .val (.int c), .val (.int n), .own (ms.map eMsg), o4, o5] ∧ ms.length = i ∧ ∀ m ∈ ms, m.1 ∈ ws) ?_ ?_ ?_)
  · exact ⟨[], _, _, rfl, rfl, by simp⟩
  · rintro i x ρ hx ⟨ms, o4, o5, rfl, hm, hg⟩
    rw [List.getElem?_map] at hx
    obtain ⟨z, hz2, rfl⟩ := Option.map_eq_some_iff.mp hx
    have hi := (List.getElem?_eq_some_iff.mp hz2).1
    refine gives_some ?_
    obtain ⟨w, hww, ew⟩ := d_pick (f := .str) ws hw z
    exists ew
    refine gives_some ⟨ms ++ [(w, z / 4 % 5 - 2)], _, _, by rw [List.map_append]; rfl, by simp [hm], fun m hm' => ?_⟩
    rcases List.mem_append.mp hm' with h | h
    · exact hg m h
    · rw [List.mem_singleton.mp h]; exact hww
  · rintro ρ ⟨ms, o4, o5, rfl, hm, hg⟩
    have hm : ms.length = n := by simpa [hl] using hm
    walk_at "vm"
    refine g_in (g_wayB (fun hc => ?_) (fun hc => ?_))
    · walk_at "vm"
      rw [comp_all (R := IsMsg) (φ := fun m : Str × Int => eMsg (m.1, m.2 * 1000003 + 17)) (isMsgs ms)]
      · walk_at "vm"
        refine gives_some ⟨mapV (fun v => v * 1000003 + 17) ms, ?_, by unfold mapV; rw [List.length_map, hm], fun m hm' => ?_⟩
        · unfold mapV
          rw [List.map_map]
          rfl
        · obtain ⟨k, hk, rfl⟩ := List.mem_map.mp hm'
          exact hg k hk
      · intro x m hx _
        refine ⟨_, t_eN, x_tt, ?_⟩
        exists hx.ix0, hx.ix1
        rfl
    · walk_at "vm"
      exact gives_some ⟨ms, rfl, hm, hg⟩
end VM
/-! S3 -/
namespace VM
open PySem PySem.Spec PyProof.Rows L2

theorem vals_take (ms : Inp Str) (i : Nat) : vals (ms.take i) = (vals ms).take i := by unfold vals; rw [List.map_take]
theorem take_snoc {α : Type} {l : List α} {i : Nat} {x : α} (h : l[i]? = some x) : l.take (i + 1) = l.take i ++ [x] := by
  rw [List.take_add_one, h]
  rfl
/-- a row of integers: a list or a tuple of them -/
def IsInts (c : D) (s : List Int) : Prop := c = .lst (s.map .int) ∨ c = .tup (s.map .int)
theorem IsInts.len {c : D} {s : List Int} (h : IsInts c s) : dLen [c] = some (.int s.length) := by
  rcases h with rfl | rfl
  · rw [d_len_lst, List.length_map]
  · rw [d_len_tup, List.length_map]
theorem IsInts.seq {c : D} {s : List Int} (h : IsInts c s) : dSeq c = some (s.map .int) := by
  rcases h with rfl | rfl <;> rfl
theorem IsInts.ix {c : D} {s : List Int} (h : IsInts c s) {i : Nat} {v : Int} (e : s[i]? = some v) : dIx c (.int (i : Int)) = some (.int v) := by
  have a : atI (s.map D.int) (i : Int) = some (.int v) := atI_nat (by rw [List.getElem?_map, e]; rfl)
  rcases h with rfl | rfl
  · exact d_ix_lst a
  · exact d_ix_tup a
theorem isInt2 (s : List Int) : All2 (fun (d : D) (v : Int) => d = .int v) (s.map D.int) s := All2.of_map (R := fun (d : D) (v : Int) => d = .int v) (f := D.int) (fun _ => rfl) s

/-! ### _law_dense -/
theorem spec__law_dense {c : D} {xs : List D} {ms : Inp Str} (hc : dSeq c = some xs) (ha : All2 IsMsg xs ms) (hl : ms.length ≤ 4000) : m__law_dense [c] = some (.lst ((dense ms).map eMsg)) := by
  unfold m__law_dense g__law_dense
  have hz := sizeLine_eq
  have hxl := ha.length
  apply gives_is
  exists hc
  refine g_in (gives_for (fun i ρ => ∃ (o2 o3 : Slot), ρ = [.val c, .own ((fo [] ((vals ms).take i)).map .int), o2, o3]) ?_ ?_ ?_)
  · exact ⟨_, _, rfl⟩
  · rintro i x ρ hx ⟨o2, o3, rfl⟩
    obtain ⟨m, hm, im⟩ := ha.get hx
    have hv : (vals ms)[i]? = some m.2 := by unfold vals; rw [List.getElem?_map, hm]; rfl
    have hfl := fo_len ((vals ms).take i)
    rw [List.length_take] at hfl
    have hvl : (vals ms).length = ms.length := List.length_map ..
    rw [take_snoc hv, fo_snoc]
    refine gives_some ?_
    exists im.ix1
    refine g_way (fun hq => ?_) (fun hq => ?_)
    · have hn : ¬ m.2 ∈ fo [] ((vals ms).take i) := by simpa using hq
      exists im.ix1
      exact gives_some ⟨_, _, by rw [if_neg hn, List.map_append]; rfl⟩
    · have hn : m.2 ∈ fo [] ((vals ms).take i) := by simpa using hq
      walk_at "vm"
      exact gives_some ⟨_, _, by rw [if_pos hn]⟩
  · rintro ρ ⟨o2, o3, rfl⟩
    have hfl := fo_len (vals ms)
    have hvl : (vals ms).length = ms.length := List.length_map ..
    have ht : (vals ms).take xs.length = vals ms := List.take_of_length_le (by omega)
    rw [ht]
    exists hc
    rw [comp_all (R := IsMsg) (φ := fun m : Str × Int => eMsg (m.1, (less (vals ms) m.2 : Int))) ha]
    · walk_at "vm"
      refine gives_some ?_
      unfold dense
      rw [List.map_map]
      rfl
    · intro x m hx hm
      refine ⟨_, t_eN, x_tt, ?_⟩
      exists hx.ix0
      rw [comp_sel (R := fun (d : D) (v : Int) => d = .int v) (p := fun v => decide (v < m.2)) (φ := D.int) (isInt2 _)]
      · walk_at "vm"
        rw [show ((fo [] (vals ms)).filter fun v => decide (v < m.2)).length = less (vals ms) m.2 from fo_less _ _]
        rfl
      · rintro _ v rfl hv
        refine ⟨_, t_eN, ?_, fun _ => ?_⟩
        · exists hx.ix1
        · walk_at "vm"

/-! ### different, dense -/
theorem spec_different {c : D} {xs : List D} {ms : Inp Str} (hc : dSeq c = some xs) (ha : All2 IsMsg xs ms) (hl : ms.length ≤ 4000) : m_different [c] = some (.lst ((sortI (vals ms)).map .int)) := by
  unfold m_different g_different
  have hz := sizeLine_eq
  have hxl := ha.length
  apply gives_is
  exists hc
  rw [comp_all (R := IsMsg) (φ := fun m : Str × Int => D.int m.2) ha]
  · have hs : dSortSet (.lst (ms.map fun m => D.int m.2)) = some (.lst ((sortI (vals ms)).map .int)) := by
      have e : (ms.map fun m => D.int m.2) = (vals ms).map .int := by unfold vals; rw [List.map_map]; rfl
      rw [e]
      unfold dSortSet
      dsimp only
      rw [intsOf_map, Option.bind_some, if_pos (by unfold vals; rw [List.length_map]; omega)]
    exists hs
    exact gives_some rfl
  · intro x m hx _
    refine ⟨_, hx.eTL .., x_tt, ?_⟩
    walk_at "vm"
def rk : Nat → List Int → List (Key × D)
  | _, [] => []
  | k, v :: r => (.inl v, .int (k : Nat)) :: rk (k + 1) r
def en : Nat → List Int → List D
  | _, [] => []
  | k, v :: r => .tup [.int (k : Nat), .int v] :: en (k + 1) r
theorem mapIdx_en : ∀ (s : List Int) (k : Nat), ((s.map D.int).mapIdx fun i d => D.tup [.int ((i + k : Nat) : Int), d]) = en k s
  | [], _ => rfl
  | v :: r, k => by
    rw [List.map_cons, List.mapIdx_cons, en, ← mapIdx_en r (k + 1)]
    congr 1
    · rw [Nat.zero_add]
    · congr 1
      funext i d
      rw [show i + 1 + k = i + (k + 1) by omega]
theorem enum_en (s : List Int) : enumD (s.map .int) = en 0 s := mapIdx_en s 0
theorem en_len : ∀ (s : List Int) (k : Nat), (en k s).length = s.length
  | [], _ => rfl
  | _ :: r, k => congrArg (· + 1) (en_len r (k + 1))
theorem putD_new {acc : List (Key × D)} {v : Int} {d : D} (h : ∀ p ∈ acc, p.1 ≠ .inl v) : putD acc (.inl v) d = acc ++ [(.inl v, d)] := by
  unfold putD
  rw [if_neg]
  intro q
  obtain ⟨p, hp, hq⟩ := List.any_eq_true.mp q
  exact h p hp (of_decide_eq_true hq)
theorem compD_en {t : D → Env → Option Env} {h : Env → Option Bool} {fk fv : Env → Option D} {e : Env} (ht : ∀ (k : Nat) (v : Int), ∃ e1, t (.tup [.int (k : Nat), .int v]) e = some e1 ∧ h e1 = some true ∧ fk e1 = some (.int v) ∧ fv e1 = some (.int (k : Nat))) :
    ∀ (s : List Int) (k : Nat) (acc : List (Key × D)), s.Nodup → (∀ p ∈ acc, ∀ v ∈ s, p.1 ≠ .inl v) → compD t h fk fv e acc (en k s) = some (acc ++ rk k s)
  | [], _, acc, _, _ => by rw [en, rk, List.append_nil]; rfl
  | v :: r, k, acc, nd, hd => by
    obtain ⟨h1, h2⟩ := List.nodup_cons.mp nd
    obtain ⟨e1, a, b, c, d⟩ := ht k v
    rw [en]
    unfold compD
    rw [a, Option.bind_some, b, Option.bind_some, if_pos rfl, c, Option.bind_some]
    show ((some (Sum.inl v : Key)).bind _) = _
    rw [Option.bind_some, d, Option.bind_some, putD_new fun p hp => hd p hp v List.mem_cons_self, compD_en ht r (k + 1) _ h2 fun p hp w hw => ?_, rk, List.append_assoc]
    · rfl
    · rcases List.mem_append.mp hp with hp | hp
      · exact hd p hp w (List.mem_cons_of_mem _ hw)
      · rw [List.mem_singleton.mp hp]
        exact fun q => h1 (by have q : v = w := Sum.inl.inj q
                              rw [q]; exact hw)
theorem rk_val : ∀ (s : List Int) (k : Nat) (v : Int), s.Pairwise (· < ·) → v ∈ s → valD (rk k s) (.inl v) = some (.int ((k + cnt s v : Nat) : Int))
  | w :: r, k, v, hs, hv => by
    obtain ⟨h1, h2⟩ := List.pairwise_cons.mp hs
    unfold valD
    rw [rk]
    by_cases e : w = v
    · subst e
      rw [List.find?_cons_of_pos (by simp), Option.map_some, cnt_cons, if_neg (by omega), cnt_zero fun y hy => by have := h1 y hy; omega]
      simp
    · rw [List.find?_cons_of_neg (by simpa using e)]
      have hv' : v ∈ r := by
        rcases List.mem_cons.mp hv with q | q
        · exact absurd q.symm e
        · exact q
      have ih := rk_val r (k + 1) v h2 hv'
      unfold valD at ih
      rw [ih, cnt_cons, if_pos (h1 v hv')]
      congr 2
      omega
theorem spec_dense {c : D} {xs : List D} {ms : Inp Str} (hc : dSeq c = some xs) (ha : All2 IsMsg xs ms) (hl : ms.length ≤ 4000) : m_dense [c] = some (.lst ((dense ms).map eMsg)) := by
  unfold m_dense g_dense
  have hz := sizeLine_eq
  have hxl := ha.length
  have hsl := sortI_len (vals ms)
  have hvl : (vals ms).length = ms.length := List.length_map ..
  have hen := en_len (sortI (vals ms)) 0
  have he : dEnum [.lst ((sortI (vals ms)).map .int)] = some (en 0 (sortI (vals ms))) := congrArg some (enum_en _)
  apply gives_is
  exists hc, spec_different hc ha hl, he
  rw [compD_en (fun k v => ⟨_, rfl, x_tt, ?_, ?_⟩) _ _ _ (sorted_nodup (sortI_sorted _)) (fun p hp => by cases hp)]
  · exists hc
    rw [comp_all (R := IsMsg) (φ := fun m : Str × Int => eMsg (m.1, (less (vals ms) m.2 : Int))) ha]
    · walk_at "vm"
      refine gives_some ?_
      unfold dense
      rw [List.map_map]
      rfl
    · intro x m hx hm
      refine ⟨_, hx.eTL .., x_tt, ?_⟩
      have hv := rk_val (sortI (vals ms)) 0 m.2 (sortI_sorted _) ((sortI_mem _ _).mpr (mem_vals hm))
      have hg : dGetI (.dK (rk 0 (sortI (vals ms)))) (.int m.2) = some (.int (less (vals ms) m.2 : Int)) := by
        show ((toKey (.int m.2)).bind fun k => valD (rk 0 (sortI (vals ms))) k) = _
        show valD (rk 0 (sortI (vals ms))) (.inl m.2) = _
        rw [hv]
        unfold less
        rw [Nat.zero_add]
      exists hg
      rfl
  · walk_at "vm"
  · walk_at "vm"
theorem spec_alike {c c' : D} {xs xs' : List D} {ms ms' : Inp Str} (hc : dSeq c = some xs) (ha : All2 IsMsg xs ms) (hl : ms.length ≤ 4000) (hw : Words ms) (hc' : dSeq c' = some xs') (ha' : All2 IsMsg xs' ms') (hl' : ms'.length ≤ 4000) (hw' : Words ms') :
    m_alike [c, c'] = some (.bl (decide (dense ms = dense ms'))) := by
  unfold m_alike g_alike
  have hz := sizeLine_eq
  apply gives_is
  exists spec_dense hc ha hl, spec_dense hc' ha' hl', d_eq_msgs (words_dense hw) (words_dense hw')
  exact gives_some rfl
end VM
/-! S4 -/
namespace VM
open PySem PySem.Spec PyProof.Rows L2

/-! ### position -/
def gap : Sv → Nat
  | [_, _, .val (.int a), .val (.int b), _] => (b - a).toNat
  | _ => 0
theorem spec_position {c : D} {s : List Int} (hc : IsInts c s) (hs : s.Pairwise (· < ·)) (hl : s.length ≤ 4000) (v : Int) : m_position [c, .int v] = some (.int (2 * (cnt s v : Int) + if v ∈ s then 1 else 0)) := by
  unfold m_position g_position
  have hz := sizeLine_eq
  have hcl := cnt_le s v
  apply gives_is
  exists hc.len
  refine g_in (gives_while (fun ρ => ∃ (lo hi : Nat) (o : Slot), ρ = [.val c, .val (.int v), .val (.int lo), .val (.int hi), o] ∧ lo ≤ cnt s v ∧ cnt s v ≤ hi ∧ hi ≤ s.length) gap ?_ ?_ ?_ ?_)
  · exact ⟨0, s.length, _, rfl, by omega, by omega, Nat.le_refl _⟩
  · show ((s.length : Int) - 0).toNat < 1000000
    omega
  · rintro ρ ⟨lo, hi, o, rfl, h1, h2, h3⟩
    walk_at "vm"
    refine gives_some fun hq => ?_
    have hlt : lo < hi := by have := of_decide_eq_true hq; omega
    have emid : ((lo : Int) + (hi : Int)) / 2 = (((lo + hi) / 2 : Nat) : Int) := by omega
    have hmid : (lo + hi) / 2 < s.length := by omega
    have ex := List.getElem?_eq_getElem hmid
    have eix := hc.ix ex
    have hord := sorted_lt (x := v) hs ex
    exists emid, eix
    refine g_way (fun hc' => ?_) (fun hc' => ?_)
    · have hc' := of_decide_eq_true hc'
      walk_at "vm"
      refine gives_some ⟨⟨(lo + hi) / 2 + 1, hi, _, by rw [Int.natCast_add]; rfl, by omega, h2, h3⟩, ?_⟩
      show ((hi : Int) - ((((lo + hi) / 2 : Nat) : Int) + 1)).toNat < ((hi : Int) - (lo : Int)).toNat
      omega
    · have hc' := of_decide_eq_false hc'
      walk_at "vm"
      refine gives_some ⟨⟨lo, (lo + hi) / 2, _, rfl, h1, by omega, by omega⟩, ?_⟩
      show ((((lo + hi) / 2 : Nat) : Int) - (lo : Int)).toNat < ((hi : Int) - (lo : Int)).toNat
      omega
  · rintro ρ ⟨lo, hi, o, rfl, h1, h2, h3⟩ hq
    have hge : ¬ lo < hi := by
      have e : (fT (f2 dLt (fVar 2) (fVar 3))) (view (frz [] [.val c, .val (.int v), .val (.int lo), .val (.int hi), o])) = some (decide ((lo : Int) < (hi : Int))) := rfl
      rw [e] at hq
      have := of_decide_eq_false (Option.some.inj hq)
      omega
    have elo : lo = cnt s v := by omega
    subst elo
    exists hc.len
    by_cases hb : cnt s v < s.length
    · have ex := List.getElem?_eq_getElem hb
      have eix := hc.ix ex
      rw [decide_eq_true (show ((cnt s v : Nat) : Int) < (s.length : Int) by omega)]
      exists eix
      refine g_in (g_wayB (fun hq => ?_) (fun hq => ?_))
      · have hq := of_decide_eq_true hq
        walk_at "vm"
        have hm : v ∈ s := by rw [← hq]; exact List.getElem_mem hb
        exact gives_some (by rw [if_pos hm])
      · have hq := of_decide_eq_false hq
        walk_at "vm"
        have hm : ¬ v ∈ s := fun q => hq (by have := sorted_cnt hs q; rw [ex] at this; exact Option.some.inj this)
        exact gives_some (by rw [if_neg hm, Int.add_zero])
    · rw [decide_eq_false (show ¬ ((cnt s v : Nat) : Int) < (s.length : Int) by omega)]
      walk_at "vm"
      have hm : ¬ v ∈ s := fun q => by
        have := (List.getElem?_eq_some_iff.mp (sorted_cnt hs q)).1
        omega
      exact gives_some (by rw [if_neg hm, Int.add_zero])
/-- a position by any list with the same members -/
theorem posOf_ext {a b : List Int} (h : ∀ z, z ∈ a ↔ z ∈ b) (x : Int) : posOf a x = posOf b x := by
  unfold posOf
  rw [less_ext h]
  congr 1
  by_cases hx : x ∈ a
  · rw [if_pos hx, if_pos ((h x).mp hx)]
  · rw [if_neg hx, if_neg fun q => hx ((h x).mpr q)]
theorem posOf_sorted (vs : List Int) (v : Int) : 2 * (cnt (sortI vs) v : Int) + (if v ∈ sortI vs then 1 else 0) = posOf vs v := by
  unfold posOf less
  congr 1
  by_cases hx : v ∈ vs
  · rw [if_pos hx, if_pos ((sortI_mem _ _).mpr hx)]
  · rw [if_neg hx, if_neg fun q => hx ((sortI_mem _ _).mp q)]
theorem codeGo_get : ∀ (ms : Inp Str) (seen : List Int) (i : Nat), (codeGo seen ms)[i]? = (ms[i]?).map fun m => (m.1, posOf (seen ++ (vals ms).take i) m.2)
  | [], _, _ => by simp [codeGo]
  | m :: r, seen, 0 => by simp [codeGo]
  | m :: r, seen, i + 1 => by
    show (codeGo (m.2 :: seen) r)[i]? = (r[i]?).map _
    rw [codeGo_get r (m.2 :: seen) i]
    congr 1
    funext k
    refine congrArg (Prod.mk k.1) (posOf_ext (fun z => ?_) _)
    show z ∈ (m.2 :: seen) ++ (vals r).take i ↔ z ∈ seen ++ (m.2 :: vals r).take (i + 1)
    simp only [List.take_succ_cons, List.mem_append, List.mem_cons]
    constructor
    · rintro ((h | h) | h) <;> simp [h]
    · rintro (h | h | h) <;> simp [h]
theorem codeGo_len : ∀ (ms : Inp Str) (seen : List Int), (codeGo seen ms).length = ms.length
  | [], _ => rfl
  | m :: r, seen => congrArg (· + 1) (codeGo_len r _)
theorem code_len (ms : Inp Str) : (code ms).length = ms.length := codeGo_len ms []
theorem code_get {ms : Inp Str} {i : Nat} {m : Str × Int} (h : ms[i]? = some m) : (code ms)[i]? = some (m.1, posOf ((vals ms).take i) m.2) := by
  unfold code
  rw [codeGo_get, h]
  rfl
theorem spec_code {c : D} {xs : List D} {ms : Inp Str} (hc : dSeq c = some xs) (ha : All2 IsMsg xs ms) (hl : ms.length ≤ 4000) : m_code [c] = some (.lst ((code ms).map eMsg)) := by
  unfold m_code g_code
  have hz := sizeLine_eq
  have hxl := ha.length
  have hvl : (vals ms).length = ms.length := List.length_map ..
  apply gives_is
  exists hc
  refine g_in (gives_for (fun i ρ => ∃ (o3 o4 o5 : Slot), ρ = [.val c, .own ((sortI ((vals ms).take i)).map .int), .own (((code ms).take i).map eMsg), o3, o4, o5]) ?_ ?_ ?_)
  · exact ⟨_, _, _, rfl⟩
  · rintro i x ρ hx ⟨o3, o4, o5, rfl⟩
    obtain ⟨m, hm, im⟩ := ha.get hx
    have hi := (List.getElem?_eq_some_iff.mp hm).1
    have hv : (vals ms)[i]? = some m.2 := by unfold vals; rw [List.getElem?_map, hm]; rfl
    have hsl := sortI_len ((vals ms).take i)
    rw [List.length_take] at hsl
    have hcl := cnt_le (sortI ((vals ms).take i)) m.2
    have ep := spec_position (c := .lst ((sortI ((vals ms).take i)).map .int)) (.inl rfl) (sortI_sorted _) (by omega) m.2
    rw [posOf_sorted] at ep
    have hct : ((code ms).take i).length ≤ 4000 := by rw [List.length_take, code_len]; omega
    refine gives_eq (im.sTL ..) ?_
    rw [take_snoc hv, take_snoc (code_get hm)]
    exists ep
    have hins : (sortI ((vals ms).take i ++ [m.2])) = sortI (m.2 :: sortI ((vals ms).take i)) := sortI_ext fun z => by
      rw [List.mem_append, List.mem_singleton, List.mem_cons, sortI_mem]
      exact Or.comm
    rw [hins]
    by_cases hmem : m.2 ∈ (vals ms).take i
    · have e1 : posOf ((vals ms).take i) m.2 % 2 = 1 := by unfold posOf; rw [if_pos hmem]; omega
      rw [e1, decide_eq_false (by decide)]
      walk_at "vm"
      have es : sortI (m.2 :: sortI ((vals ms).take i)) = sortI ((vals ms).take i) := by
        refine Eq.trans (sortI_ext fun z => ?_) (sortI_of_sorted (sortI_sorted _))
        rw [List.mem_cons]
        exact ⟨fun q => by rcases q with rfl | q; exact (sortI_mem _ _).mpr hmem; exact q, .inr⟩
      exact gives_some ⟨_, _, _, by rw [es, List.map_append]; rfl⟩
    · have e1 : posOf ((vals ms).take i) m.2 = 2 * (cnt (sortI ((vals ms).take i)) m.2 : Int) := by unfold posOf less; rw [if_neg hmem, Int.add_zero]
      have e2 : posOf ((vals ms).take i) m.2 % 2 = 0 := by omega
      have e3 : posOf ((vals ms).take i) m.2 / 2 = (cnt (sortI ((vals ms).take i)) m.2 : Int) := by omega
      rw [e2, decide_eq_true (by decide)]
      exists e3
      exact gives_some ⟨_, _, _, by
        rw [← insert_at (sortI_sorted _) (fun q => hmem ((sortI_mem _ _).mp q))]
        simp only [List.map_append, List.map_take, List.map_drop, Int.toNat_natCast]
        rfl⟩
  · rintro ρ ⟨o3, o4, o5, rfl⟩
    have ht : (code ms).take xs.length = code ms := List.take_of_length_le (by rw [code_len]; omega)
    rw [ht]
    walk_at "vm"
    exact gives_some rfl

/-! ### _law_position, _law_code -/
theorem spec__law_position {c : D} {s vs : List Int} (hc : IsInts c s) (hn : s.Nodup) (hm : ∀ z, z ∈ s ↔ z ∈ vs) (hl : s.length ≤ 4000) (v : Int) : m__law_position [.int v, c] = some (.int (posOf vs v)) := by
  unfold m__law_position g__law_position
  have hz := sizeLine_eq
  apply gives_is
  exists hc.seq
  rw [comp_sel (R := fun (d : D) (v : Int) => d = .int v) (p := fun y => decide (y < v)) (φ := D.int) (isInt2 _)]
  · exists hc.seq
    rw [comp_sel (R := fun (d : D) (v : Int) => d = .int v) (p := fun y => decide (y = v)) (φ := D.int) (isInt2 _)]
    · have e1 : 2 * ((s.filter fun y => decide (y < v)).length : Int) = 2 * (less vs v : Int) := by
        rw [show (s.filter fun y => decide (y < v)).length = less vs v from cnt_less hn hm v]
      exists d_mul_l
      refine gives_some ?_
      rw [e1, count_mem hn]
      unfold posOf
      by_cases hv : v ∈ vs
      · rw [if_pos hv, if_pos ((hm v).mpr hv)]; rfl
      · rw [if_neg hv, if_neg fun q => hv ((hm v).mp q)]; rfl
    · rintro _ y rfl hv
      refine ⟨_, t_eN, ?_, fun _ => ?_⟩
      · walk_at "vm"
      · walk_at "vm"
  · rintro _ y rfl hv
    refine ⟨_, t_eN, ?_, fun _ => ?_⟩
    · walk_at "vm"
    · walk_at "vm"
theorem spec__law_code {c : D} {xs : List D} {ms : Inp Str} (hc : dSeq c = some xs) (ha : All2 IsMsg xs ms) (hl : ms.length ≤ 4000) : m__law_code [c] = some (.lst ((code ms).map eMsg)) := by
  unfold m__law_code g__law_code
  have hz := sizeLine_eq
  have hxl := ha.length
  have hvl : (vals ms).length = ms.length := List.length_map ..
  apply gives_is
  exists hc
  refine g_in (gives_for (fun i ρ => ∃ (o3 : Slot), ρ = [.val c, .own ((fo [] ((vals ms).take i)).map .int), .own (((code ms).take i).map eMsg), o3]) ?_ ?_ ?_)
  · exact ⟨_, rfl⟩
  · rintro i x ρ hx ⟨o3, rfl⟩
    obtain ⟨m, hm, im⟩ := ha.get hx
    have hi := (List.getElem?_eq_some_iff.mp hm).1
    have hv : (vals ms)[i]? = some m.2 := by unfold vals; rw [List.getElem?_map, hm]; rfl
    have hfl := fo_len ((vals ms).take i)
    rw [List.length_take] at hfl
    have ep := spec__law_position (c := .lst ((fo [] ((vals ms).take i)).map .int)) (.inl rfl) (fo_nodup _ _ List.nodup_nil) (vs := (vals ms).take i) (fun z => by rw [fo_mem]; simp) (by omega) m.2
    have hct : ((code ms).take i).length ≤ 4000 := by rw [List.length_take, code_len]; omega
    refine gives_some ?_
    rw [take_snoc hv, fo_snoc, take_snoc (code_get hm)]
    exists im.ix0, im.ix1, ep
    refine g_way (fun hq => ?_) (fun hq => ?_)
    · have hn : ¬ m.2 ∈ fo [] ((vals ms).take i) := by simpa using hq
      exists im.ix1
      exact gives_some ⟨_, by rw [if_neg hn, List.map_append, List.map_append]; rfl⟩
    · have hn : m.2 ∈ fo [] ((vals ms).take i) := by simpa using hq
      walk_at "vm"
      exact gives_some ⟨_, by rw [if_pos hn, List.map_append]; rfl⟩
  · rintro ρ ⟨o3, rfl⟩
    have ht : (code ms).take xs.length = code ms := List.take_of_length_le (by rw [code_len]; omega)
    rw [ht]
    walk_at "vm"
    exact gives_some rfl
end VM
/-! G_k03 -/
namespace VM
open PySem PySem.Spec PyProof.Rows L2
def g__law_small : Sv → Option Out := (gSeq (gIf [] (fT (f2 dEq (f2 dMod (f2 dDiv (fN dInt (fCons (fVar 1) fNil)) (fC (.int 35))) (fC (.int 6))) (fC (.int 0)))) (gRet (fL (fComp [2] (iSeq (fNl 3 m__law_input (fCons (fVar 0) (fCons (fVar 1) (fCons (f2 dAdd (fC (.int 4)) (f2 dMod (f2 dDiv (fN dInt (fCons (fVar 1) fNil)) (fC (.int 7))) (fC (.int 3)))) fNil))))) (eN 2) tt (fTup (fCons (f2 dIx (fVar 2) (fC (.int 0))) (fCons (f2 dMod (f2 dIx (fVar 2) (fC (.int 1))) (fC (.int 5))) fNil)))))) gSkip)
  (gRet (fL (fComp [2] (iSeq (fNl 3 m__law_input (fCons (fVar 0) (fCons (fVar 1) (fCons (f2 dMod (f2 dDiv (fN dInt (fCons (fVar 1) fNil)) (fC (.int 7))) (fC (.int 5))) fNil))))) (eN 2) tt (fTup (fCons (f2 dIx (fVar 2) (fC (.int 0))) (fCons (f2 dMod (f2 dIx (fVar 2) (fC (.int 1))) (fC (.int 3))) fNil)))))))
def m__law_small : List D → Option D := runD 3 g__law_small
def g__law_distinct : Sv → Option Out := (gSeq (gOwn 1 [] (fun ρ => (fNil ρ).bind fun ds => if ds.length ≤ sizeLine then some ds else none))
  (gSeq (gFor [] (iSeq (fVar 0)) (sN 2) (gIf [false, true] (fT (f2 dNotIn (f2 dIx (fVar 2) (fC (.int 1))) (fVar 1))) (gApp 1 [] (f2 dIx (fVar 2) (fC (.int 1)))) gSkip))
  (gRet (f1 dSorted (fVar 1)))))
def m__law_distinct : List D → Option D := runD 3 g__law_distinct
def g__law_placings : Sv → Option Out := (gSeq (gSet 2 [] (fN dLen (fCons (fNl 1 m__law_distinct (fCons (fVar 1) fNil)) fNil)))
  (gSeq (gSet 3 [] (fLst (fCons (fTup fNil) fNil)))
  (gSeq (gFor [] (iRn1 (fCons (fN dLen (fCons (fNl 1 m__law_distinct (fCons (fVar 0) fNil)) fNil)) fNil)) (sN 4) (gSeq (gOwn 5 [] (fun ρ => (fNil ρ).bind fun ds => if ds.length ≤ sizeLine then some ds else none))
  (gSeq (gFor [] (iSeq (fVar 3)) (sN 6) (gFor [] (iRn1 (fCons (f2 dAdd (f2 dMul (fC (.int 2)) (fVar 2)) (fC (.int 1))) fNil)) (sN 7) (gIf [] (fOrT (fT (f2 dEq (fN dLen (fCons (fVar 6) fNil)) (fC (.int 0)))) (fOrT (fT (f2 dGt (fVar 7) (f2 dIx (fVar 6) (f1 dNeg (fC (.int 1)))))) (fAndT (fT (f2 dEq (fVar 7) (f2 dIx (fVar 6) (f1 dNeg (fC (.int 1)))))) (fT (f2 dEq (f2 dMod (fVar 7) (fC (.int 2))) (fC (.int 0))))))) (gApp 5 [] (f2 dAdd (fVar 6) (fTup (fCons (fVar 7) fNil)))) gSkip)))
  (gSet 3 [false, false, false, false, false, true] (fVar 5)))))
  (gRet (fVar 3)))))
def m__law_placings : List D → Option D := runD 8 g__law_placings
def g_lowest : Sv → Option Out := (gSeq (gIf [] (fT (f2 dEq (fN dLen (fCons (fVar 0) fNil)) (fC (.int 0)))) (gRet (fC (.int 0))) gSkip)
  (gRet (f2 dAdd (f2 dIx (fVar 0) (f1 dNeg (fC (.int 1)))) (f2 dMod (f2 dIx (fVar 0) (f1 dNeg (fC (.int 1)))) (fC (.int 2))))))
def m_lowest : List D → Option D := runD 1 g_lowest
def g_placings : Sv → Option Out := (gSeq (gSet 2 [] (f2 dMul (fC (.int 2)) (fN dLen (fCons (fNl 1 m_different (fCons (fVar 1) fNil)) fNil))))
  (gSeq (gSet 3 [] (fLst (fCons (fTup fNil) fNil)))
  (gSeq (gFor [] (iSeq (fNl 1 m_different (fCons (fVar 0) fNil))) (sN 4) (gFz [false, false, false, true] (gOwn 3 [] (fComp2 [5, 6] [6] (iSeq (fVar 3)) (eN 5) tt (iRn2 (fCons (fNl 1 m_lowest (fCons (fVar 5) fNil)) (fCons (f2 dAdd (fVar 2) (fC (.int 1))) fNil))) (eN 6) tt (f2 dAdd (fVar 5) (fTup (fCons (fVar 6) fNil)))))))
  (gRet (fVar 3)))))
def m_placings : List D → Option D := runD 7 g_placings
def g_joined : Sv → Option Out := (gSeq (gSet 3 [] (fNl 1 m_different (fCons (fVar 0) fNil)))
  (gSeq (gSet 4 [] (fNl 1 m_different (fCons (fVar 1) fNil)))
  (gSeq (gSet 5 [] (f2 dAdd (fN dLen (fCons (fVar 3) fNil)) (fC (.int 1))))
  (gSeq (gSet 6 [] (fD (fDc [7, 8] (iEn (fCons (fVar 4) fNil)) (eTL [7, 8]) tt (fVar 8) (f2 dMul (f2 dAdd (f2 dMul (fC (.int 2)) (fVar 7)) (fC (.int 1))) (fVar 5)))))
  (gSeq (gNewK 9)
  (gSeq (gFor [] (iEn (fCons (fVar 3) fNil)) (sTL [7, 8]) (gSeq (gSet 10 [] (f2 dIx (fVar 2) (fVar 7)))
  (gPut 9 [] (fVar 8) (fIte (fT (f2 dEq (f2 dMod (fVar 10) (fC (.int 2))) (fC (.int 1)))) (f2 dMul (fVar 10) (fVar 5)) (f2 dAdd (f2 dMul (fVar 10) (fVar 5)) (fVar 7))))))
  (gSeq (gFz [false, false, false, false, false, false, false, false, false, false, false, true] (gOwn 11 [false, false, false, false, false, false, false, false, false, true] (fComp [12, 8] (iSeq (fVar 0)) (eTL [12, 8]) tt (fTup (fCons (fVar 12) (fCons (f2 dGetI (fVar 9) (fVar 8)) fNil))))))
  (gRet (fNl 1 m_dense (fCons (f2 dAdd (fVar 11) (fL (fComp [12, 8] (iSeq (fVar 1)) (eTL [12, 8]) tt (fTup (fCons (fVar 12) (fCons (f2 dGetI (fVar 6) (fVar 8)) fNil)))))) fNil))))))))))
def m_joined : List D → Option D := runD 13 g_joined
def g__law_joined : Sv → Option Out := (gSeq (gSet 3 [] (fNl 1 m__law_distinct (fCons (fVar 0) fNil)))
  (gSeq (gSet 4 [] (fNl 1 m__law_distinct (fCons (fVar 1) fNil)))
  (gSeq (gOwn 5 [] (fun ρ => (fNil ρ).bind fun ds => if ds.length ≤ sizeLine then some ds else none))
  (gSeq (gFor [] (iSeq (fVar 0)) (sN 6) (gSeq (gSet 7 [] (fN dLen (fCons (fL (fComp [8] (iSeq (fVar 3)) (eN 8) (fT (f2 dLt (fVar 8) (f2 dIx (fVar 6) (fC (.int 1))))) (fVar 8))) fNil)))
  (gSeq (gSet 9 [] (f2 dAdd (f2 dMul (fC (.int 100)) (f2 dDiv (f2 dIx (fVar 2) (fVar 7)) (fC (.int 2)))) (f2 dIx (fLst (fCons (f2 dAdd (fVar 7) (fC (.int 1))) (fCons (fC (.int 100)) fNil))) (f2 dMod (f2 dIx (fVar 2) (fVar 7)) (fC (.int 2))))))
  (gApp 5 [] (fTup (fCons (f2 dIx (fVar 6) (fC (.int 0))) (fCons (fVar 9) fNil)))))))
  (gRet (fNl 1 m__law_dense (fCons (f2 dAdd (fVar 5) (fL (fComp [6] (iSeq (fVar 1)) (eN 6) tt (fTup (fCons (f2 dIx (fVar 6) (fC (.int 0))) (fCons (f2 dAdd (fC (.int 100)) (f2 dMul (fC (.int 100)) (fN dLen (fCons (fL (fComp [8] (iSeq (fVar 4)) (eN 8) (fT (f2 dLt (fVar 8) (f2 dIx (fVar 6) (fC (.int 1))))) (fVar 8))) fNil)))) fNil)))))) fNil)))))))
def m__law_joined : List D → Option D := runD 10 g__law_joined
def g__law_positions : Sv → Option Out := (gSeq (gSet 2 [] (fNl 1 m__law_distinct (fCons (fSl (fVar 0) fNo (fYes (fVar 1))) fNil)))
  (gSeq (gSet 3 [] (fNl 1 m__law_distinct (fCons (fSl (fVar 0) (fYes (fVar 1)) fNo) fNil)))
  (gRet (fN dTuple (fCons (fL (fComp [4] (iSeq (fVar 2)) (eN 4) tt (fNl 2 m__law_position (fCons (fVar 4) (fCons (fVar 3) fNil))))) fNil)))))
def m__law_positions : List D → Option D := runD 5 g__law_positions
def g__law_spread : Sv → Option Out := (gSeq (gSet 2 [] (fNl 1 m__law_distinct (fCons (fVar 0) fNil)))
  (gSeq (gOwn 3 [] (fun ρ => (fNil ρ).bind fun ds => if ds.length ≤ sizeLine then some ds else none))
  (gSeq (gSet 4 [] (f1 dNeg (fC (.int 3))))
  (gSeq (gFor [] (iRn1 (fCons (fN dLen (fCons (fVar 2) fNil)) fNil)) (sN 5) (gSeq (gSet 4 [] (f2 dAdd (f2 dAdd (fVar 4) (fC (.int 1))) (f2 dMod (f2 dIx (fVar 1) (fVar 5)) (fC (.int 4)))))
  (gApp 3 [] (fVar 4))))
  (gRet (fL (fComp [7] (iSeq (fVar 0)) (eN 7) tt (fTup (fCons (f2 dIx (fVar 7) (fC (.int 0))) (fCons (f2 dIx (fVar 3) (fN dLen (fCons (fL (fComp [6] (iSeq (fVar 2)) (eN 6) (fT (f2 dLt (fVar 6) (f2 dIx (fVar 7) (fC (.int 1))))) (fVar 6))) fNil))) fNil))))))))))
def m__law_spread : List D → Option D := runD 8 g__law_spread
def g_law_k03 : Sv → Option Out := (gSeq (gSet 1 [] (fNl 2 m__law_words (fCons (fNl 2 m__law_row (fCons (fNl 2 m__law_cell (fCons (fVar 0) (fCons (fC (.int 0)) fNil))) (fCons (fC (.int 4)) fNil))) (fCons (f2 dAdd (fC (.int 1)) (f2 dMod (fNl 2 m__law_cell (fCons (fVar 0) (fCons (fC (.int 1)) fNil))) (fC (.int 3)))) fNil))))
  (gSeq (gSet 2 [] (fNl 2 m__law_small (fCons (fVar 1) (fCons (fNl 2 m__law_cell (fCons (fVar 0) (fCons (fC (.int 2)) fNil))) fNil))))
  (gSeq (gSet 3 [] (fNl 2 m__law_small (fCons (fVar 1) (fCons (fNl 2 m__law_cell (fCons (fVar 0) (fCons (fC (.int 3)) fNil))) fNil))))
  (gSeq (gIf [] (fT (f2 dGt (fN dLen (fCons (fNl 1 m__law_distinct (fCons (fVar 2) fNil)) fNil)) (fC (.int 3)))) (gSet 3 [] (fSl (fVar 3) fNo (fYes (fC (.int 2))))) gSkip)
  (gSeq (gSet 4 [] (fNl 2 m__law_placings (fCons (fVar 2) (fCons (fVar 3) fNil))))
  (gSeq (gSet 5 [] (fLst (fCons (fN dList (fCons (fVar 2) fNil)) (fCons (fN dList (fCons (fVar 3) fNil)) fNil))))
  (gSeq (gSet 6 [] (fNl 2 m_placings (fCons (f2 dIx (fVar 5) (fC (.int 0))) (fCons (f2 dIx (fVar 5) (fC (.int 1))) fNil))))
  (gSeq (gIf [] (fOrT (fT (f2 dNe (fVar 6) (fVar 4))) (fT (f2 dNe (fNl 2 m_placings (fCons (fN dTuple (fCons (fL (fComp [7] (iSeq (fVar 2)) (eN 7) tt (fN dList (fCons (fVar 7) fNil)))) fNil)) (fCons (fVar 3) fNil))) (fVar 4)))) (gRet (fC (.bl false))) gSkip)
  (gSeq (gOwn 8 [] (fun ρ => (fNil ρ).bind fun ds => if ds.length ≤ sizeLine then some ds else none))
  (gSeq (gFor [] (iSeq (fVar 4)) (sN 9) (gSeq (gSet 10 [] (fNl 3 m_joined (fCons (fVar 2) (fCons (fVar 3) (fCons (fVar 9) fNil)))))
  (gSeq (gIf [] (fOrT (fT (f2 dNe (fVar 10) (fNl 3 m__law_joined (fCons (fVar 2) (fCons (fVar 3) (fCons (fVar 9) fNil)))))) (fT (f2 dNe (fNl 2 m__law_positions (fCons (fVar 10) (fCons (fN dLen (fCons (fVar 2) fNil)) fNil))) (fVar 9)))) (gRet (fC (.bl false))) gSkip)
  (gSeq (gIf [false, false, false, false, false, false, false, false, true] (fOrT (fNotT (fT (fNl 2 m_alike (fCons (fSl (fVar 10) fNo (fYes (fN dLen (fCons (fVar 2) fNil)))) (fCons (fVar 2) fNil))))) (fOrT (fNotT (fT (fNl 2 m_alike (fCons (fSl (fVar 10) (fYes (fN dLen (fCons (fVar 2) fNil))) fNo) (fCons (fVar 3) fNil))))) (fT (f2 dIn (fVar 10) (fVar 8))))) (gRet (fC (.bl false))) gSkip)
  (gSeq (gApp 8 [] (fVar 10))
  (gIf [] (fOrT (fT (f2 dNe (fNl 3 m_joined (fCons (f2 dIx (fVar 5) (fC (.int 0))) (fCons (f2 dIx (fVar 5) (fC (.int 1))) (fCons (fN dList (fCons (fVar 9) fNil)) fNil)))) (fVar 10))) (fT (f2 dNe (fVar 5) (fLst (fCons (fN dList (fCons (fVar 2) fNil)) (fCons (fN dList (fCons (fVar 3) fNil)) fNil)))))) (gRet (fC (.bl false))) gSkip))))))
  (gSeq (gFor [] (iSeq (f2 dAdd (fLst (fCons (fNl 2 m__law_cell (fCons (fVar 0) (fCons (fC (.int 4)) fNil))) (fCons (fNl 2 m__law_cell (fCons (fVar 0) (fCons (fC (.int 5)) fNil))) fNil))) (fSl (fVar 0) (fYes (fC (.int 6))) (fYes (fC (.int 14)))))) (sN 11) (gSeq (gSet 12 [] (fNl 2 m__law_row (fCons (fVar 11) (fCons (fC (.int 12)) fNil))))
  (gSeq (gSet 13 [] (fNl 1 m__law_dense (fCons (f2 dAdd (fNl 2 m__law_spread (fCons (fVar 2) (fCons (fSl (fVar 12) fNo (fYes (fC (.int 6)))) fNil))) (fNl 2 m__law_spread (fCons (fVar 3) (fCons (fSl (fVar 12) (fYes (fC (.int 6))) fNo) fNil)))) fNil)))
  (gIf [false, false, false, false, false, false, false, false, true] (fT (f2 dNe (fN dLen (fCons (fL (fComp [10] (iSeq (fVar 8)) (eN 10) (fT (f2 dEq (fVar 10) (fVar 13))) (fC (.int 1)))) fNil)) (fC (.int 1)))) (gRet (fC (.bl false))) gSkip))))
  (gRet (fC (.bl true))))))))))))))
def m_law_k03 : List D → Option D := runD 14 g_law_k03
end VM
/-! M3 -/
namespace VM
/-! Placings and joined inputs. -/
def lowP (r : List Int) : Int := match r.getLast? with
  | none => 0
  | some p => p + p % 2
/-- the numbers from a on, below b -/
def upTo (a b : Int) : List Int := (List.range (b - a).toNat).map fun i => a + (i : Nat)
theorem upTo_mem {a b z : Int} : z ∈ upTo a b ↔ a ≤ z ∧ z < b := by
  unfold upTo
  rw [List.mem_map]
  constructor
  · rintro ⟨i, hi, rfl⟩
    have := List.mem_range.mp hi
    omega
  · intro ⟨h1, h2⟩
    exact ⟨(z - a).toNat, List.mem_range.mpr (by omega), by omega⟩
theorem upTo_sorted (a b : Int) : (upTo a b).Pairwise (· < ·) := by
  unfold upTo
  rw [List.pairwise_map]
  exact List.Pairwise.imp (fun {i j} h => by omega) List.pairwise_lt_range
theorem upTo_len (a b : Int) : (upTo a b).length = (b - a).toNat := by unfold upTo; rw [List.length_map, List.length_range]
def stepP (top : Int) (rows : List (List Int)) : List (List Int) := rows.flatMap fun r => (upTo (lowP r) (top + 1)).map fun p => r ++ [p]
def plc (top : Int) : Nat → List (List Int)
  | 0 => [[]]
  | n + 1 => stepP top (plc top n)
theorem filter_upTo {a b k : Int} (h : a ≤ k) : (upTo a b).filter (fun p => decide (k ≤ p)) = upTo k b := by
  refine sorted_one ((upTo_sorted a b).filter _) (upTo_sorted k b) fun z => ?_
  rw [List.mem_filter, upTo_mem, upTo_mem, decide_eq_true_eq]
  omega
inductive OkP (top : Int) : List Int → Prop
  | nil : OkP top []
  | snoc {r : List Int} {p : Int} : OkP top r → lowP r ≤ p → p ≤ top → OkP top (r ++ [p])
theorem plc_ok {top : Int} : ∀ (n : Nat) (r : List Int), r ∈ plc top n ↔ OkP top r ∧ r.length = n
  | 0, r => by
    show r ∈ [[]] ↔ _
    rw [List.mem_singleton]
    constructor
    · rintro rfl; exact ⟨.nil, rfl⟩
    · intro ⟨_, h⟩; exact List.eq_nil_of_length_eq_zero h
  | n + 1, r => by
    show r ∈ stepP top (plc top n) ↔ _
    unfold stepP
    rw [List.mem_flatMap]
    constructor
    · rintro ⟨q, hq, hr⟩
      obtain ⟨p, hp, rfl⟩ := List.mem_map.mp hr
      obtain ⟨h1, h2⟩ := (plc_ok n q).mp hq
      obtain ⟨h3, h4⟩ := upTo_mem.mp hp
      exact ⟨.snoc h1 h3 (by omega), by rw [List.length_append, h2]; rfl⟩
    · rintro ⟨h1, h2⟩
      cases h1 with
      | nil => simp at h2
      | snoc a b c =>
        rw [List.length_append] at h2
        exact ⟨_, (plc_ok n _).mpr ⟨a, by simpa using h2⟩, List.mem_map.mpr ⟨_, upTo_mem.mpr ⟨b, by omega⟩, rfl⟩⟩
theorem plc_nodup (top : Int) : ∀ n, (plc top n).Nodup
  | 0 => by show [[]].Nodup; simp
  | n + 1 => by
    show (stepP top (plc top n)).Nodup
    unfold stepP
    refine List.pairwise_flatMap.mpr ⟨fun r hr => ?_, ?_⟩
    · rw [List.pairwise_map]
      exact (upTo_sorted _ _).imp fun {x y} h q => by
        have := List.append_inj_right' q rfl
        simp at this
        omega
    · refine (plc_nodup top n).imp fun {r q} h x hx y hy => ?_
      obtain ⟨p, _, rfl⟩ := List.mem_map.mp hx
      obtain ⟨p', _, rfl⟩ := List.mem_map.mp hy
      exact fun e => h (List.append_inj_left' e rfl)
theorem lowP_nil : lowP [] = 0 := rfl
theorem lowP_snoc (r : List Int) (p : Int) : lowP (r ++ [p]) = p + p % 2 := by
  unfold lowP
  rw [List.getLast?_append]
  rfl
theorem okP_nonneg {top : Int} {r : List Int} (h : OkP top r) : 0 ≤ lowP r ∧ ∀ z ∈ r, 0 ≤ z ∧ z ≤ top := by
  induction h with
  | nil => exact ⟨by decide, by simp⟩
  | snoc a b c ih =>
    rename_i r p
    refine ⟨by rw [lowP_snoc]; omega, fun z hz => ?_⟩
    rcases List.mem_append.mp hz with hz | hz
    · exact ih.2 z hz
    · rw [List.mem_singleton.mp hz]
      omega
theorem okP_le {top : Int} {r : List Int} (h : OkP top r) : ∀ (i : Nat) (x : Int), r[i]? = some x → x + x % 2 ≤ lowP r := by
  induction h with
  | nil => intro i x e; simp at e
  | snoc a b c ih =>
    rename_i r p
    intro i x e
    rw [lowP_snoc]
    by_cases hi : i < r.length
    · rw [List.getElem?_append_left hi] at e
      have := ih i x e
      omega
    · rw [List.getElem?_append_right (by omega)] at e
      have hi2 : i - r.length = 0 := by
        have := (List.getElem?_eq_some_iff.mp e).1
        simp at this
        omega
      rw [hi2] at e
      have e : p = x := by simpa using e
      subst e
      omega
theorem okP_order {top : Int} {r : List Int} (h : OkP top r) : ∀ (i j : Nat) (x y : Int), i < j → r[i]? = some x → r[j]? = some y → x + x % 2 ≤ y := by
  induction h with
  | nil => intro i j x y _ e; simp at e
  | snoc a b c ih =>
    rename_i r p
    intro i j x y hij ex ey
    have hj := (List.getElem?_eq_some_iff.mp ey).1
    rw [List.length_append, List.length_singleton] at hj
    have hi : i < r.length := by omega
    rw [List.getElem?_append_left hi] at ex
    by_cases hj2 : j < r.length
    · rw [List.getElem?_append_left hj2] at ey
      exact ih i j x y hij ex ey
    · have ej : j = r.length := by omega
      subst ej
      rw [List.getElem?_append_right (Nat.le_refl _), Nat.sub_self] at ey
      have ey : p = y := by simpa using ey
      subst ey
      exact Int.le_trans (okP_le a i x ex) b
/-- a row is a placing if each item goes on from the one before -/
theorem okP_of {top : Int} {r : List Int} (h0 : ∀ z ∈ r, 0 ≤ z ∧ z ≤ top) (hs : ∀ (i : Nat) (x y : Int), r[i]? = some x → r[i + 1]? = some y → x + x % 2 ≤ y) : ∀ n, n ≤ r.length → OkP top (r.take n)
  | 0, _ => .nil
  | n + 1, hn => by
    have ih := okP_of h0 hs n (by omega)
    have e : r.take (n + 1) = r.take n ++ [r[n]] := by
      rw [List.take_add_one, List.getElem?_eq_getElem (by omega)]
      rfl
    rw [e]
    refine .snoc ih ?_ (h0 _ (List.getElem_mem (by omega))).2
    cases n with
    | zero => exact (h0 _ (List.getElem_mem (by omega))).1
    | succ n =>
      have e2 : r.take (n + 1) = r.take n ++ [r[n]] := by
        rw [List.take_add_one, List.getElem?_eq_getElem (by omega)]
        rfl
      rw [e2, lowP_snoc]
      exact hs n _ _ (List.getElem?_eq_getElem (by omega)) (List.getElem?_eq_getElem (by omega))
theorem stepP_len (top : Int) (hb : 0 ≤ top) (m : Nat) (rows : List (List Int)) (h0 : ∀ r ∈ rows, 0 ≤ lowP r) (h : rows.length ≤ m) : (stepP top rows).length ≤ m * (top + 1).toNat := by
  unfold stepP
  induction rows generalizing m with
  | nil => simp
  | cons r rows ih =>
    rw [List.flatMap_cons, List.length_append, List.length_map, upTo_len]
    obtain ⟨k, rfl⟩ : ∃ k, m = k + 1 := ⟨m - 1, by rw [List.length_cons] at h; omega⟩
    have := ih k (fun q hq => h0 q (List.mem_cons_of_mem _ hq)) (by simpa using h)
    have h1 := h0 r List.mem_cons_self
    have : (top + 1 - lowP r).toNat ≤ (top + 1).toNat := by omega
    rw [Nat.succ_mul]
    omega
theorem plc_len (top : Int) (hb : 0 ≤ top) : ∀ n, (plc top n).length ≤ (top + 1).toNat ^ n
  | 0 => by simp [plc]
  | n + 1 => by
    have := stepP_len top hb _ (plc top n) (fun r hr => (okP_nonneg ((plc_ok n r).mp hr).1).1) (plc_len top hb n)
    rw [Nat.pow_succ]
    exact this

/-! ### joined inputs -/
section
variable {α : Type}
/-- the integer of the first input with the rank k, at its place -/
def spot (wide : Int) (p : Int) (k : Nat) : Int := if p % 2 = 1 then p * wide else p * wide + (k : Int)
def e1 (wide : Int) (r A : List Int) (x : Int) : Int := spot wide (r.getD (cnt A x) 0) (cnt A x)
def e2 (wide : Int) (B : List Int) (y : Int) : Int := (2 * (cnt B y : Int) + 1) * wide
/-- both inputs, each integer at its place -/
def jn (r A B : List Int) (fs es : Inp α) : Inp α := mapV (e1 ((A.length : Int) + 1) r A) fs ++ mapV (e2 ((A.length : Int) + 1) B) es
theorem vals_append (a b : Inp α) : vals (a ++ b) = vals a ++ vals b := List.map_append
theorem mapV_append (f : Int → Int) (a b : Inp α) : mapV f (a ++ b) = mapV f a ++ mapV f b := List.map_append
theorem mapV_mapV (f g : Int → Int) (a : Inp α) : mapV g (mapV f a) = mapV (fun x => g (f x)) a := by
  unfold mapV
  rw [List.map_map]
  rfl
theorem mapV_congr {f g : Int → Int} {a : Inp α} (h : ∀ x ∈ vals a, f x = g x) : mapV f a = mapV g a := by
  unfold mapV
  exact List.map_congr_left fun m hm => by rw [h m.2 (mem_vals hm)]
theorem spot_div {w p : Int} {k : Nat} (h : (k : Int) < w) : spot w p k / w = p ∧ (p % 2 = 0 → spot w p k % w = k) := by
  unfold spot
  split
  · refine ⟨Int.mul_ediv_cancel _ (by omega), fun z => by omega⟩
  · refine ⟨?_, fun _ => ?_⟩
    · rw [Int.add_comm, Int.add_mul_ediv_right _ _ (by omega), Int.ediv_eq_zero_of_lt (by omega) h, Int.zero_add]
    · rw [Int.add_comm, Int.add_mul_emod_self_right, Int.emod_eq_of_lt (by omega) h]
theorem spot_lt {w p q : Int} {k l : Nat} (hw : 0 < w) (hk : (k : Int) < w) (hl : (l : Int) < w) : spot w p k < spot w q l ↔ p < q ∨ (p = q ∧ p % 2 = 0 ∧ k < l) := by
  have key : ∀ (p q : Int) (k l : Nat), (k : Int) < w → p < q → spot w p k < spot w q l := fun p q k l hk h => by
    have h1 : (p + 1) * w ≤ q * w := Int.mul_le_mul_of_nonneg_right (by omega) (by omega)
    have h2 : (p + 1) * w = p * w + w := by rw [Int.add_mul, Int.one_mul]
    unfold spot
    split <;> split <;> omega
  constructor
  · intro h
    by_cases h1 : p < q
    · exact .inl h1
    · by_cases h2 : q < p
      · have := key q p l k hl h2
        omega
      · have e : p = q := by omega
        subst e
        refine .inr ⟨rfl, ?_⟩
        unfold spot at h
        by_cases h3 : p % 2 = 1
        · rw [if_pos h3, if_pos h3] at h; omega
        · rw [if_neg h3, if_neg h3] at h; omega
  · rintro (h | ⟨rfl, h1, h2⟩)
    · exact key p q k l hk h
    · unfold spot
      rw [if_neg (by omega), if_neg (by omega)]
      omega
theorem e2_spot (w : Int) (B : List Int) (y : Int) : e2 w B y = spot w (2 * (cnt B y : Int) + 1) 0 := by
  unfold e2 spot
  rw [if_pos (by omega)]
end
end VM
/-! M4 -/
namespace VM
section
variable {α : Type}
/-- what is known of a first input, an ending and a placing -/
structure Pl (r A B : List Int) (fs es : Inp α) : Prop where
  a : A = sortI (vals fs)
  b : B = sortI (vals es)
  ok : OkP (2 * (B.length : Int)) r
  len : r.length = A.length
variable {r A B : List Int} {fs es : Inp α}
theorem Pl.sa (h : Pl r A B fs es) : A.Pairwise (· < ·) := by rw [h.a]; exact sortI_sorted _
theorem Pl.sb (h : Pl r A B fs es) : B.Pairwise (· < ·) := by rw [h.b]; exact sortI_sorted _
theorem Pl.ma (h : Pl r A B fs es) {x : Int} (hx : x ∈ vals fs) : x ∈ A := by rw [h.a]; exact (sortI_mem _ _).mpr hx
theorem Pl.mb (h : Pl r A B fs es) {x : Int} (hx : x ∈ vals es) : x ∈ B := by rw [h.b]; exact (sortI_mem _ _).mpr hx
theorem cnt_lt_len {s : List Int} (hs : s.Pairwise (· < ·)) {x : Int} (hx : x ∈ s) : cnt s x < s.length := (List.getElem?_eq_some_iff.mp (sorted_cnt hs hx)).1
/-- the placing's item for an integer -/
def at_ (r A : List Int) (x : Int) : Int := r.getD (cnt A x) 0
theorem Pl.at (h : Pl r A B fs es) {x : Int} (hx : x ∈ A) : r[cnt A x]? = some (at_ r A x) := by
  have := cnt_lt_len h.sa hx
  unfold at_
  rw [List.getD_eq_getElem?_getD, List.getElem?_eq_getElem (by rw [h.len]; exact this)]
  rfl
theorem Pl.range (h : Pl r A B fs es) {x : Int} (hx : x ∈ A) : 0 ≤ at_ r A x ∧ at_ r A x ≤ 2 * (B.length : Int) := (okP_nonneg h.ok).2 _ (List.mem_of_getElem? (h.at hx))
theorem e1_eq (w x : Int) : e1 w r A x = spot w (at_ r A x) (cnt A x) := rfl
theorem Pl.wid (h : Pl r A B fs es) {x : Int} (hx : x ∈ A) : ((cnt A x : Nat) : Int) < (A.length : Int) + 1 := by
  have := cnt_lt_len h.sa hx
  omega
theorem Pl.mono1 (h : Pl r A B fs es) : Mono (e1 ((A.length : Int) + 1) r A) A := fun x hx y hy hxy => by
  rw [e1_eq, e1_eq, spot_lt (by omega) (h.wid hx) (h.wid hy)]
  have hlt := cnt_lt (sorted_nodup h.sa) hx hxy
  have := okP_order h.ok _ _ _ _ hlt (h.at hx) (h.at hy)
  omega
theorem Pl.mono2 (h : Pl r A B fs es) : Mono (e2 ((A.length : Int) + 1) B) B := fun x hx y hy hxy => by
  rw [e2_spot, e2_spot, spot_lt (by omega) (by omega) (by omega)]
  have hlt := cnt_lt (sorted_nodup h.sb) hx hxy
  omega
theorem Pl.lt12 (h : Pl r A B fs es) {x : Int} (hx : x ∈ A) (y : Int) : e1 ((A.length : Int) + 1) r A x < e2 ((A.length : Int) + 1) B y ↔ at_ r A x < 2 * (cnt B y : Int) + 1 := by
  rw [e1_eq, e2_spot, spot_lt (by omega) (h.wid hx) (by omega)]
  omega
theorem Pl.lt21 (h : Pl r A B fs es) {x : Int} (hx : x ∈ A) (y : Int) : e2 ((A.length : Int) + 1) B y < e1 ((A.length : Int) + 1) r A x ↔ 2 * (cnt B y : Int) + 1 < at_ r A x := by
  rw [e1_eq, e2_spot, spot_lt (by omega) (by omega) (h.wid hx)]
  omega
theorem Pl.mono1v (h : Pl r A B fs es) : Mono (e1 ((A.length : Int) + 1) r A) (vals fs) := h.mono1.sub fun x hx => h.ma hx
theorem Pl.mono2v (h : Pl r A B fs es) : Mono (e2 ((A.length : Int) + 1) B) (vals es) := h.mono2.sub fun x hx => h.mb hx
/-- the made input -/
def made (r A B : List Int) (fs es : Inp α) : Inp α := dense (jn r A B fs es)
theorem made_eq : made r A B fs es = mapV (fun x => (less (vals (jn r A B fs es)) x : Int)) (jn r A B fs es) := rfl
theorem made_take : (made r A B fs es).take fs.length = mapV (fun x => (less (vals (jn r A B fs es)) (e1 ((A.length : Int) + 1) r A x) : Int)) fs := by
  rw [made_eq]
  show (mapV _ (mapV _ fs ++ mapV _ es)).take _ = _
  rw [mapV_append, List.take_append_of_le_length (by unfold mapV; simp), List.take_of_length_le (by unfold mapV; simp), mapV_mapV]
theorem made_drop : (made r A B fs es).drop fs.length = mapV (fun x => (less (vals (jn r A B fs es)) (e2 ((A.length : Int) + 1) B x) : Int)) es := by
  rw [made_eq]
  show (mapV _ (mapV _ fs ++ mapV _ es)).drop _ = _
  rw [mapV_append, List.drop_append_of_le_length (by unfold mapV; simp), List.drop_of_length_le (by unfold mapV; simp), mapV_mapV, List.nil_append]
theorem Mono.comp {f g : Int → Int} {vs : List Int} (hf : Mono f vs) (hg : Mono g (vs.map f)) : Mono (fun x => g (f x)) vs := fun x hx y hy h =>
  hg _ (List.mem_map.mpr ⟨x, hx, rfl⟩) _ (List.mem_map.mpr ⟨y, hy, rfl⟩) (hf x hx y hy h)
theorem jn_vals1 {x : Int} (hx : x ∈ vals fs) : e1 ((A.length : Int) + 1) r A x ∈ vals (jn r A B fs es) := by
  unfold jn
  rw [vals_append, vals_mapV]
  exact List.mem_append_left _ (List.mem_map.mpr ⟨x, hx, rfl⟩)
theorem jn_vals2 {x : Int} (hx : x ∈ vals es) : e2 ((A.length : Int) + 1) B x ∈ vals (jn r A B fs es) := by
  unfold jn
  rw [vals_append, vals_mapV, vals_mapV]
  exact List.mem_append_right _ (List.mem_map.mpr ⟨x, hx, rfl⟩)
theorem Pl.g1 (h : Pl r A B fs es) : Mono (fun x => (less (vals (jn r A B fs es)) (e1 ((A.length : Int) + 1) r A x) : Int)) (vals fs) :=
  h.mono1v.comp ((less_self_mono _).sub fun z hz => by
    obtain ⟨x, hx, rfl⟩ := List.mem_map.mp hz
    exact jn_vals1 hx)
theorem Pl.g2 (h : Pl r A B fs es) : Mono (fun x => (less (vals (jn r A B fs es)) (e2 ((A.length : Int) + 1) B x) : Int)) (vals es) :=
  h.mono2v.comp ((less_self_mono _).sub fun z hz => by
    obtain ⟨x, hx, rfl⟩ := List.mem_map.mp hz
    exact jn_vals2 hx)
theorem Pl.alike1 (h : Pl r A B fs es) : dense ((made r A B fs es).take fs.length) = dense fs := by rw [made_take, dense_map h.g1]
theorem Pl.alike2 (h : Pl r A B fs es) : dense ((made r A B fs es).drop fs.length) = dense es := by rw [made_drop, dense_map h.g2]
/-- the positions of the first part's integers among those of the second part -/
def posns (ms : Inp α) (n : Nat) : List Int := (sortI (vals (ms.take n))).map fun x => posOf (vals (ms.drop n)) x
theorem posOf_sortI (vs : List Int) (x : Int) : posOf (sortI vs) x = posOf vs x := by
  unfold posOf
  rw [less_ext (fun z => sortI_mem z vs)]
  congr 1
  by_cases hx : x ∈ vs
  · rw [if_pos hx, if_pos ((sortI_mem _ _).mpr hx)]
  · rw [if_neg hx, if_neg fun q => hx ((sortI_mem _ _).mp q)]
theorem Pl.pos (h : Pl r A B fs es) {x : Int} (hx : x ∈ A) : posOf ((vals es).map (e2 ((A.length : Int) + 1) B)) (e1 ((A.length : Int) + 1) r A x) = at_ r A x := by
  rw [← posOf_sortI, sortI_map h.mono2v, ← h.b]
  have hs : (B.map (e2 ((A.length : Int) + 1) B)).Pairwise (· < ·) := by
    rw [List.pairwise_map]
    exact List.Pairwise.imp_of_mem (fun {a b} ha hb hab => h.mono2 a ha b hb hab) h.sb
  have hl : less (B.map (e2 ((A.length : Int) + 1) B)) (e1 ((A.length : Int) + 1) r A x) = cnt (B.map (e2 ((A.length : Int) + 1) B)) (e1 ((A.length : Int) + 1) r A x) := by
    unfold less
    rw [sortI_of_sorted hs]
  obtain ⟨r0, r1⟩ := h.range hx
  have key : ∀ i, i < B.length → (i < cnt (B.map (e2 ((A.length : Int) + 1) B)) (e1 ((A.length : Int) + 1) r A x) ↔ 2 * (i : Int) + 1 < at_ r A x) := fun i hi => by
    have e : (B.map (e2 ((A.length : Int) + 1) B))[i]? = some (e2 ((A.length : Int) + 1) B B[i]) := by rw [List.getElem?_map, List.getElem?_eq_getElem hi]; rfl
    rw [← sorted_lt hs e, h.lt21 hx, sorted_at h.sb (List.getElem?_eq_getElem hi)]
  have hcl := cnt_le (B.map (e2 ((A.length : Int) + 1) B)) (e1 ((A.length : Int) + 1) r A x)
  rw [List.length_map] at hcl
  have hc : (cnt (B.map (e2 ((A.length : Int) + 1) B)) (e1 ((A.length : Int) + 1) r A x) : Int) = at_ r A x / 2 := by
    generalize cnt (B.map (e2 ((A.length : Int) + 1) B)) (e1 ((A.length : Int) + 1) r A x) = c at key hcl
    have k1 : ∀ i, i < B.length → (i < c ↔ (i : Int) < at_ r A x / 2) := fun i hi => by rw [key i hi]; omega
    have hm : (at_ r A x / 2).toNat ≤ B.length := by omega
    by_cases h1 : c < (at_ r A x / 2).toNat
    · have := (k1 c (by omega)).mpr (by omega)
      omega
    · by_cases h2 : (at_ r A x / 2).toNat < c
      · have := (k1 (at_ r A x / 2).toNat (by omega)).mp h2
        omega
      · omega
  have hmem : e1 ((A.length : Int) + 1) r A x ∈ B.map (e2 ((A.length : Int) + 1) B) ↔ at_ r A x % 2 = 1 := by
    rw [List.mem_map]
    constructor
    · rintro ⟨y, hy, e⟩
      have a := h.lt12 hx y
      have b := h.lt21 hx y
      omega
    · intro hodd
      have hi : (at_ r A x / 2).toNat < B.length := by omega
      refine ⟨B[(at_ r A x / 2).toNat], List.getElem_mem hi, ?_⟩
      have ec := sorted_at h.sb (List.getElem?_eq_getElem hi)
      have a := h.lt12 hx B[(at_ r A x / 2).toNat]
      have b := h.lt21 hx B[(at_ r A x / 2).toNat]
      rw [ec] at a b
      omega
  unfold posOf
  rw [hl, hc]
  by_cases q : at_ r A x % 2 = 1
  · rw [if_pos (hmem.mpr q)]; omega
  · rw [if_neg fun z => q (hmem.mp z)]; omega
theorem Pl.posns (h : Pl r A B fs es) : VM.posns (made r A B fs es) fs.length = r := by
  unfold VM.posns
  rw [made_take, made_drop, vals_mapV, vals_mapV, sortI_map h.g1, ← h.a, List.map_map]
  apply List.ext_getElem?
  intro i
  rw [List.getElem?_map]
  cases e : A[i]? with
  | none =>
    rw [List.getElem?_eq_none_iff] at e
    rw [Option.map_none, eq_comm, List.getElem?_eq_none_iff, h.len]
    exact e
  | some x =>
    have hx := List.mem_of_getElem? e
    have hv : x ∈ vals fs := (sortI_mem _ _).mp (by rw [← h.a]; exact hx)
    rw [Option.map_some]
    show some (posOf ((vals es).map _) _) = _
    have e3 : (vals es).map (fun x => (less (vals (jn r A B fs es)) (e2 ((A.length : Int) + 1) B x) : Int)) = ((vals es).map (e2 ((A.length : Int) + 1) B)).map fun z => (less (vals (jn r A B fs es)) z : Int) := by rw [List.map_map]; rfl
    rw [e3, posOf_map (f := fun z => (less (vals (jn r A B fs es)) z : Int)) (x := e1 ((A.length : Int) + 1) r A x) ((less_self_mono _).sub fun z hz => ?_), h.pos hx, ← h.at hx, sorted_at h.sa e]
    rcases List.mem_cons.mp hz with rfl | hz
    · exact jn_vals1 hv
    · obtain ⟨y, hy, rfl⟩ := List.mem_map.mp hz
      exact jn_vals2 hy
/-- another way to write the places -/
def f100 (w z : Int) : Int := 100 * (z / w / 2) + if z / w % 2 = 1 then 100 else z % w + 1
theorem f100_lt {w p q : Int} {k l : Nat} (hw : 0 < w) (h99 : w ≤ 99) (hk : (k : Int) < w) (hl : (l : Int) < w) (h : spot w p k < spot w q l) : f100 w (spot w p k) < f100 w (spot w q l) := by
  obtain ⟨a1, a2⟩ := spot_div (p := p) hk
  obtain ⟨b1, b2⟩ := spot_div (p := q) hl
  have h' := (spot_lt hw hk hl).mp h
  unfold f100
  rw [a1, b1]
  by_cases c1 : p % 2 = 1 <;> by_cases c2 : q % 2 = 1
  · rw [if_pos c1, if_pos c2]; omega
  · rw [if_pos c1, if_neg c2, b2 (by omega)]; omega
  · rw [if_neg c1, if_pos c2, a2 (by omega)]; omega
  · rw [if_neg c1, if_neg c2, a2 (by omega), b2 (by omega)]; omega
theorem jn_spot (h : Pl r A B fs es) {z : Int} (hz : z ∈ vals (jn r A B fs es)) : ∃ (p : Int) (k : Nat), z = spot ((A.length : Int) + 1) p k ∧ (k : Int) < (A.length : Int) + 1 := by
  unfold jn at hz
  rw [vals_append, vals_mapV, vals_mapV, List.mem_append] at hz
  rcases hz with hz | hz
  · obtain ⟨x, hx, rfl⟩ := List.mem_map.mp hz
    exact ⟨_, _, rfl, h.wid (h.ma hx)⟩
  · obtain ⟨y, hy, rfl⟩ := List.mem_map.mp hz
    exact ⟨_, _, e2_spot _ _ _, by omega⟩
theorem Pl.other (h : Pl r A B fs es) (h99 : A.length ≤ 90) : dense (mapV (f100 ((A.length : Int) + 1)) (jn r A B fs es)) = made r A B fs es :=
  dense_map fun x hx y hy hxy => by
    obtain ⟨p, k, rfl, hk⟩ := jn_spot h hx
    obtain ⟨q, l, rfl, hl⟩ := jn_spot h hy
    exact f100_lt (by omega) (by omega) hk hl hxy
/-! ### any two inputs put together are joined by a placing -/
def plOf (A B : List Int) (w1 w2 : Int → Int) : List Int := A.map fun x => posOf (B.map w2) (w1 x)
theorem posOf_nonneg (vs : List Int) (x : Int) : 0 ≤ posOf vs x ∧ posOf vs x ≤ 2 * ((sortI vs).length : Int) := by
  unfold posOf
  have h := cnt_le (sortI vs) x
  unfold less
  split
  · rename_i hx
    have := cnt_lt_len (sortI_sorted vs) ((sortI_mem _ _).mpr hx)
    omega
  · omega
theorem posOf_lt {vs : List Int} {x y : Int} (h : x < y) : posOf vs x + posOf vs x % 2 ≤ posOf vs y := by
  unfold posOf
  have h1 := less_mono (vs := vs) (Int.le_of_lt h)
  by_cases hx : x ∈ vs
  · rw [if_pos hx]
    have h2 := (less_iff (x := y) hx).mp h
    split <;> omega
  · rw [if_neg hx]
    split <;> omega
theorem pl_of {w1 w2 : Int → Int} (hA : A = sortI (vals fs)) (hB : B = sortI (vals es)) (m1 : Mono w1 (vals fs)) (m2 : Mono w2 (vals es)) : Pl (plOf A B w1 w2) A B fs es := by
  have m2' : Mono w2 B := m2.sub fun x hx => (sortI_mem _ _).mp (by rw [← hB]; exact hx)
  have hlen : (sortI (B.map w2)).length = B.length := by rw [sortI_map m2', List.length_map, hB, sortI_of_sorted (sortI_sorted _)]
  refine ⟨hA, hB, ?_, List.length_map ..⟩
  have := okP_of (top := 2 * (B.length : Int)) (r := plOf A B w1 w2) (fun z hz => ?_) (fun i x y ex ey => ?_) _ (Nat.le_refl _)
  · rw [List.take_length] at this
    exact this
  · obtain ⟨x, _, rfl⟩ := List.mem_map.mp hz
    have := posOf_nonneg (B.map w2) (w1 x)
    rw [hlen] at this
    exact this
  · unfold plOf at ex ey
    rw [List.getElem?_map] at ex ey
    obtain ⟨u, hu, rfl⟩ := Option.map_eq_some_iff.mp ex
    obtain ⟨v, hv, rfl⟩ := Option.map_eq_some_iff.mp ey
    have hs : A.Pairwise (· < ·) := by rw [hA]; exact sortI_sorted _
    obtain ⟨i1, e1⟩ := List.getElem?_eq_some_iff.mp hu
    obtain ⟨i2, e2⟩ := List.getElem?_eq_some_iff.mp hv
    have huv : u < v := by
      have := List.pairwise_iff_getElem.mp hs i (i + 1) i1 i2 (by omega)
      rw [e1, e2] at this
      exact this
    have hm : ∀ z ∈ A, z ∈ vals fs := fun z hz => (sortI_mem _ _).mp (by rw [← hA]; exact hz)
    exact posOf_lt (m1 _ (hm _ (List.mem_of_getElem? hu)) _ (hm _ (List.mem_of_getElem? hv)) huv)
theorem made_of {w1 w2 : Int → Int} (hA : A = sortI (vals fs)) (hB : B = sortI (vals es)) (m1 : Mono w1 (vals fs)) (m2 : Mono w2 (vals es)) : made (plOf A B w1 w2) A B fs es = dense (mapV w1 fs ++ mapV w2 es) := by
  have h := pl_of hA hB m1 m2
  have m1' : Mono w1 A := m1.sub fun x hx => (sortI_mem _ _).mp (by rw [← hA]; exact hx)
  have m2' : Mono w2 B := m2.sub fun x hx => (sortI_mem _ _).mp (by rw [← hB]; exact hx)
  have lA : ∀ x ∈ A, less (A.map w1) (w1 x) = cnt A x := fun x hx => by
    rw [less_map (m1'.sub fun z hz => ?_)]
    · unfold less
      rw [sortI_of_sorted h.sa]
    · rcases List.mem_cons.mp hz with rfl | hz
      · exact hx
      · exact hz
  have lB : ∀ y ∈ B, less (B.map w2) (w2 y) = cnt B y := fun y hy => by
    rw [less_map (m2'.sub fun z hz => ?_)]
    · unfold less
      rw [sortI_of_sorted h.sb]
    · rcases List.mem_cons.mp hz with rfl | hz
      · exact hy
      · exact hz
  have lb : ∀ z, ((less (A.map w1) z : Nat) : Int) < (A.length : Int) + 1 := fun z => by
    have := cnt_le (sortI (A.map w1)) z
    have h2 := sortI_len (A.map w1)
    rw [List.length_map] at h2
    unfold less
    omega
  have ej : jn (plOf A B w1 w2) A B fs es = mapV (fun z => spot ((A.length : Int) + 1) (posOf (B.map w2) z) (less (A.map w1) z)) (mapV w1 fs ++ mapV w2 es) := by
    unfold jn
    rw [mapV_append, mapV_mapV, mapV_mapV]
    congr 1
    · refine mapV_congr fun x hx => ?_
      have hxA := h.ma hx
      rw [e1_eq, lA x hxA]
      congr 1
      unfold at_ plOf
      rw [List.getD_eq_getElem?_getD, List.getElem?_map, sorted_cnt h.sa hxA]
      rfl
    · refine mapV_congr fun y hy => ?_
      have hyB := h.mb hy
      have hp : posOf (B.map w2) (w2 y) = 2 * (cnt B y : Int) + 1 := by
        unfold posOf
        rw [lB y hyB, if_pos (List.mem_map.mpr ⟨y, hyB, rfl⟩)]
      rw [hp]
      unfold e2 spot
      rw [if_pos (by omega)]
  unfold made
  rw [ej]
  refine dense_map fun x hx y hy hxy => ?_
  have hv : ∀ z ∈ vals (mapV w1 fs ++ mapV w2 es), z ∈ A.map w1 ∨ z ∈ B.map w2 := fun z hz => by
    rw [vals_append, vals_mapV, vals_mapV, List.mem_append] at hz
    rcases hz with hz | hz
    · obtain ⟨u, hu, rfl⟩ := List.mem_map.mp hz
      exact .inl (List.mem_map.mpr ⟨u, h.ma hu, rfl⟩)
    · obtain ⟨u, hu, rfl⟩ := List.mem_map.mp hz
      exact .inr (List.mem_map.mpr ⟨u, h.mb hu, rfl⟩)
  show spot _ _ _ < spot _ _ _
  rw [spot_lt (by omega) (lb x) (lb y)]
  have hp := posOf_lt (vs := B.map w2) hxy
  have hpe : posOf (B.map w2) x % 2 = 0 ↔ ¬ x ∈ B.map w2 := by
    unfold posOf
    by_cases q : x ∈ B.map w2
    · rw [if_pos q]; exact ⟨fun z => by omega, fun z => absurd q z⟩
    · rw [if_neg q]; exact ⟨fun _ => q, fun _ => by omega⟩
  by_cases q : posOf (B.map w2) x < posOf (B.map w2) y
  · exact .inl q
  · have heq : posOf (B.map w2) x = posOf (B.map w2) y := by omega
    have hev : posOf (B.map w2) x % 2 = 0 := by omega
    have hxa : x ∈ A.map w1 := (hv x hx).resolve_right (hpe.mp hev)
    exact .inr ⟨heq, hev, (less_iff hxa).mp hxy⟩
end
end VM
/-! G_k02 -/
namespace VM
open PySem PySem.Spec PyProof.Rows L2
def g_order : Sv → Option Out := (gSeq (gIf [] (fT (f2 dEq (fVar 0) (fVar 1))) (gRet (fC (.int 0))) gSkip)
  (gRet (fIte (fT (f2 dLt (fVar 0) (fVar 1))) (f1 dNeg (fC (.int 1))) (fC (.int 1)))))
def m_order : List D → Option D := runD 2 g_order
def g_compare : Sv → Option Out := (gSeq (gIf [] (fT (f2 dNe (fN dLen (fCons (fVar 1) fNil)) (fN dLen (fCons (fVar 2) fNil)))) (gRet (fNl 2 m_order (fCons (fN dLen (fCons (fVar 1) fNil)) (fCons (fN dLen (fCons (fVar 2) fNil)) fNil)))) gSkip)
  (gSeq (gFor [] (iZp (fCons (fNl 1 m_code (fCons (fVar 1) fNil)) (fCons (fNl 1 m_code (fCons (fVar 2) fNil)) fNil))) (sTree 2 (tsCons (sTL [3, 4]) (tsCons (sTL [5, 6]) tsNil))) (gSeq (gIf [] (fT (f2 dNe (fVar 3) (fVar 5))) (gRet (fNl 2 m_order (fCons (f2 dTix (fVar 0) (fVar 3)) (fCons (f2 dTix (fVar 0) (fVar 5)) fNil)))) gSkip)
  (gIf [] (fT (f2 dNe (fVar 4) (fVar 6))) (gRet (fNl 2 m_order (fCons (fVar 4) (fCons (fVar 6) fNil)))) gSkip)))
  (gRet (fC (.int 0)))))
def m_compare : List D → Option D := runD 7 g_compare
def g__law_key : Sv → Option Out := (gSeq (gSet 2 [] (fNl 1 m__law_code (fCons (fVar 1) fNil)))
  (gRet (fTup (fCons (fN dLen (fCons (fVar 2) fNil)) (fCons (fL (fComp [4] (iSeq (fVar 2)) (eN 4) tt (fTup (fCons (f2 dIx (fL (fComp [3] (iRn1 (fCons (fN dLen (fCons (fVar 0) fNil)) fNil)) (eN 3) (fT (f2 dEq (f2 dIx (fVar 0) (fVar 3)) (f2 dIx (fVar 4) (fC (.int 0))))) (fVar 3))) (fC (.int 0))) (fCons (f2 dIx (fVar 4) (fC (.int 1))) fNil))))) fNil)))))
def m__law_key : List D → Option D := runD 5 g__law_key
def g__law_due : Sv → Option Out := (gSeq (gSet 3 [] (fNl 2 m__law_key (fCons (fVar 0) (fCons (fVar 1) fNil))))
  (gSeq (gSet 4 [] (fNl 2 m__law_key (fCons (fVar 0) (fCons (fVar 2) fNil))))
  (gSeq (gIf [] (fT (f2 dEq (fVar 3) (fVar 4))) (gRet (fC (.int 0))) gSkip)
  (gRet (f2 dIx (fLst (fCons (fC (.int 1)) (fCons (f1 dNeg (fC (.int 1))) fNil))) (fN dInt (fCons (f2 dLt (fVar 3) (fVar 4)) fNil)))))))
def m__law_due : List D → Option D := runD 5 g__law_due
def g_law_k02 : Sv → Option Out := (gSeq (gSet 1 [] (fNl 2 m__law_words (fCons (fNl 2 m__law_row (fCons (fNl 2 m__law_cell (fCons (fVar 0) (fCons (fC (.int 0)) fNil))) (fCons (fC (.int 4)) fNil))) (fCons (f2 dAdd (fC (.int 1)) (f2 dMod (fNl 2 m__law_cell (fCons (fVar 0) (fCons (fC (.int 1)) fNil))) (fC (.int 3)))) fNil))))
  (gSeq (gSet 2 [] (fNl 3 m__law_input (fCons (fVar 1) (fCons (fNl 2 m__law_cell (fCons (fVar 0) (fCons (fC (.int 2)) fNil))) (fCons (f2 dMod (fNl 2 m__law_cell (fCons (fVar 0) (fCons (fC (.int 3)) fNil))) (fC (.int 20))) fNil)))))
  (gSeq (gSet 3 [] (f2 dAdd (fSl (fVar 2) fNo (fYes (f2 dMod (f2 dDiv (fNl 2 m__law_cell (fCons (fVar 0) (fCons (fC (.int 3)) fNil))) (fC (.int 20))) (fC (.int 20))))) (fNl 3 m__law_input (fCons (fVar 1) (fCons (fNl 2 m__law_cell (fCons (fVar 0) (fCons (fC (.int 4)) fNil))) (fCons (f2 dMod (fNl 2 m__law_cell (fCons (fVar 0) (fCons (fC (.int 5)) fNil))) (fC (.int 6))) fNil))))))
  (gSeq (gSet 4 [] (f2 dAdd (fNl 3 m__law_input (fCons (fVar 1) (fCons (fNl 2 m__law_cell (fCons (fVar 0) (fCons (fC (.int 6)) fNil))) (fCons (f2 dMod (f2 dDiv (fNl 2 m__law_cell (fCons (fVar 0) (fCons (fC (.int 3)) fNil))) (fC (.int 400))) (fC (.int 20))) fNil)))) (fL (fComp [5] (iSeq (fSl (fVar 0) (fYes (fC (.int 7))) (fYes (fC (.int 20))))) (eN 5) tt (fTup (fCons (f2 dIx (fVar 1) (f2 dMod (fVar 5) (fN dLen (fCons (fVar 1) fNil)))) (fCons (fVar 5) fNil)))))))
  (gSeq (gSet 6 [] (fLst (fCons (fVar 2) (fCons (fVar 3) (fCons (fVar 4) fNil)))))
  (gSeq (gFz [false, false, false, false, false, false, false, true] (gOwn 7 [] (fComp [9] (iSeq (fVar 6)) (eN 9) tt (fL (fComp [8] (iSeq (fVar 9)) (eN 8) tt (fTup (fCons (f2 dIx (fVar 8) (fC (.int 0))) (fCons (f2 dIx (fVar 8) (fC (.int 1))) fNil))))))))
  (gSeq (gFor [] (iSeq (fVar 6)) (sN 9) (gFor [] (iSeq (fVar 6)) (sN 10) (gSeq (gIf [] (fT (f2 dNe (fNl 3 m_compare (fCons (fVar 1) (fCons (fN dList (fCons (fVar 9) fNil)) (fCons (fN dList (fCons (fVar 10) fNil)) fNil)))) (fNl 3 m__law_due (fCons (fVar 1) (fCons (fVar 9) (fCons (fVar 10) fNil)))))) (gRet (fC (.bl false))) gSkip)
  (gSeq (gIf [] (fOrT (fT (f2 dNe (f2 dEq (fNl 3 m_compare (fCons (fVar 1) (fCons (fVar 9) (fCons (fVar 10) fNil)))) (fC (.int 0))) (fNl 2 m_alike (fCons (fVar 9) (fCons (fVar 10) fNil))))) (fT (f2 dNe (fNl 3 m_compare (fCons (fVar 1) (fCons (fVar 9) (fCons (fVar 10) fNil)))) (f1 dNeg (fNl 3 m_compare (fCons (fVar 1) (fCons (fVar 10) (fCons (fVar 9) fNil)))))))) (gRet (fC (.bl false))) gSkip)
  (gFor [] (iSeq (fVar 6)) (sN 11) (gIf [] (fAndT (fT (f2 dEq (fNl 3 m_compare (fCons (fVar 1) (fCons (fVar 9) (fCons (fVar 10) fNil)))) (f1 dNeg (fC (.int 1))))) (fAndT (fT (f2 dEq (fNl 3 m_compare (fCons (fVar 1) (fCons (fVar 10) (fCons (fVar 11) fNil)))) (f1 dNeg (fC (.int 1))))) (fT (f2 dNe (fNl 3 m_compare (fCons (fVar 1) (fCons (fVar 9) (fCons (fVar 11) fNil)))) (f1 dNeg (fC (.int 1))))))) (gRet (fC (.bl false))) gSkip))))))
  (gRet (f2 dEq (fVar 6) (fVar 7))))))))))
def m_law_k02 : List D → Option D := runD 12 g_law_k02
end VM
/-! M2 -/
namespace VM
/-! Rows of pairs of integers in the order of their lengths, then item by item. -/
def lexc : List (Int × Int) → List (Int × Int) → Int
  | x :: xs, y :: ys => if x = y then lexc xs ys else if x.1 < y.1 ∨ (x.1 = y.1 ∧ x.2 < y.2) then -1 else 1
  | _, _ => 0
def cmpK (a b : List (Int × Int)) : Int := if a.length = b.length then lexc a b else if a.length < b.length then -1 else 1
theorem lexc_self : ∀ a : List (Int × Int), lexc a a = 0
  | [] => rfl
  | x :: a => by
    unfold lexc
    rw [if_pos rfl]
    exact lexc_self a
theorem lexc_zero : ∀ a b : List (Int × Int), a.length = b.length → lexc a b = 0 → a = b
  | [], [], _, _ => rfl
  | [], _ :: _, h, _ => by simp at h
  | _ :: _, [], h, _ => by simp at h
  | x :: a, y :: b, h, e => by
    unfold lexc at e
    by_cases q : x = y
    · rw [if_pos q] at e
      rw [q, lexc_zero a b (by simpa using h) e]
    · rw [if_neg q] at e
      split at e <;> omega
theorem pair_cases (x y : Int × Int) (h : x ≠ y) : ((x.1 < y.1 ∨ (x.1 = y.1 ∧ x.2 < y.2)) ∧ ¬ (y.1 < x.1 ∨ (y.1 = x.1 ∧ y.2 < x.2))) ∨ (¬ (x.1 < y.1 ∨ (x.1 = y.1 ∧ x.2 < y.2)) ∧ (y.1 < x.1 ∨ (y.1 = x.1 ∧ y.2 < x.2))) := by
  have : ¬ (x.1 = y.1 ∧ x.2 = y.2) := fun q => h (Prod.ext q.1 q.2)
  omega
theorem lexc_neg : ∀ a b : List (Int × Int), a.length = b.length → lexc a b = - lexc b a
  | [], [], _ => rfl
  | [], _ :: _, h => by simp at h
  | _ :: _, [], h => by simp at h
  | x :: a, y :: b, h => by
    unfold lexc
    by_cases q : x = y
    · rw [if_pos q, if_pos q.symm]
      exact lexc_neg a b (by simpa using h)
    · rw [if_neg q, if_neg (fun z : y = x => q z.symm)]
      rcases pair_cases x y q with ⟨h1, h2⟩ | ⟨h1, h2⟩
      · rw [if_pos h1, if_neg h2]
      · rw [if_neg h1, if_pos h2]; rfl
theorem lexc_trans : ∀ a b c : List (Int × Int), a.length = b.length → b.length = c.length → lexc a b = -1 → lexc b c = -1 → lexc a c = -1
  | [], b, c, h1, _, e, _ => by cases b <;> simp_all [lexc]
  | x :: a, [], _, h, _, _, _ => by simp at h
  | x :: a, y :: b, [], _, h, _, _ => by simp at h
  | x :: a, y :: b, z :: c, h1, h2, e1, e2 => by
    unfold lexc at e1 e2 ⊢
    by_cases q1 : x = y
    · rw [if_pos q1] at e1
      subst q1
      by_cases q2 : x = z
      · rw [if_pos q2] at e2 ⊢
        exact lexc_trans a b c (by simpa using h1) (by simpa using h2) e1 e2
      · rw [if_neg q2] at e2 ⊢
        exact e2
    · rw [if_neg q1] at e1
      by_cases q2 : y = z
      · subst q2
        rw [if_neg q1]
        exact e1
      · rw [if_neg q2] at e2
        have k1 : x.1 < y.1 ∨ (x.1 = y.1 ∧ x.2 < y.2) := by
          by_cases k : x.1 < y.1 ∨ (x.1 = y.1 ∧ x.2 < y.2)
          · exact k
          · rw [if_neg k] at e1; omega
        have k2 : y.1 < z.1 ∨ (y.1 = z.1 ∧ y.2 < z.2) := by
          by_cases k : y.1 < z.1 ∨ (y.1 = z.1 ∧ y.2 < z.2)
          · exact k
          · rw [if_neg k] at e2; omega
        rw [if_neg (fun q => by rw [q] at k1; omega), if_pos (by omega)]
theorem cmpK_zero {a b : List (Int × Int)} : cmpK a b = 0 ↔ a = b := by
  unfold cmpK
  constructor
  · intro h
    by_cases q : a.length = b.length
    · rw [if_pos q] at h
      exact lexc_zero a b q h
    · rw [if_neg q] at h
      split at h <;> omega
  · intro h
    subst h
    rw [if_pos rfl, lexc_self]
theorem cmpK_neg (a b : List (Int × Int)) : cmpK a b = - cmpK b a := by
  unfold cmpK
  by_cases q : a.length = b.length
  · rw [if_pos q, if_pos q.symm, lexc_neg a b q]
  · rw [if_neg q, if_neg (fun z : b.length = a.length => q z.symm)]
    by_cases h : a.length < b.length
    · rw [if_pos h, if_neg (by omega)]
    · rw [if_neg h, if_pos (by omega)]; rfl
theorem cmpK_trans {a b c : List (Int × Int)} (h1 : cmpK a b = -1) (h2 : cmpK b c = -1) : cmpK a c = -1 := by
  unfold cmpK at h1 h2 ⊢
  by_cases q1 : a.length = b.length
  · rw [if_pos q1] at h1
    by_cases q2 : b.length = c.length
    · rw [if_pos q2] at h2
      rw [if_pos (q1.trans q2)]
      exact lexc_trans a b c q1 q2 h1 h2
    · rw [if_neg q2] at h2
      have : b.length < c.length := by
        by_cases k : b.length < c.length
        · exact k
        · rw [if_neg k] at h2; omega
      rw [if_neg (by omega), if_pos (by omega)]
  · rw [if_neg q1] at h1
    have k1 : a.length < b.length := by
      by_cases k : a.length < b.length
      · exact k
      · rw [if_neg k] at h1; omega
    have k2 : b.length ≤ c.length := by
      by_cases q2 : b.length = c.length
      · omega
      · rw [if_neg q2] at h2
        by_cases k : b.length < c.length
        · omega
        · rw [if_neg k] at h2; omega
    rw [if_neg (by omega), if_pos (by omega)]
theorem lexc_drop : ∀ (i : Nat) (a b : List (Int × Int)), a.take i = b.take i → lexc a b = lexc (a.drop i) (b.drop i)
  | 0, _, _, _ => rfl
  | i + 1, [], [], _ => rfl
  | i + 1, [], _ :: _, h => by simp at h
  | i + 1, _ :: _, [], h => by simp at h
  | i + 1, x :: a, y :: b, h => by
    simp only [List.take_succ_cons, List.cons.injEq] at h
    rw [List.drop_succ_cons, List.drop_succ_cons, ← lexc_drop i a b h.2]
    show (if x = y then _ else _) = _
    rw [if_pos h.1]
theorem lexc_at {i : Nat} {a b : List (Int × Int)} {x y : Int × Int} (h : a.take i = b.take i) (hx : a[i]? = some x) (hy : b[i]? = some y) (hn : x ≠ y) : lexc a b = if x.1 < y.1 ∨ (x.1 = y.1 ∧ x.2 < y.2) then -1 else 1 := by
  rw [lexc_drop i a b h]
  obtain ⟨h1, e1⟩ := List.getElem?_eq_some_iff.mp hx
  obtain ⟨h2, e2⟩ := List.getElem?_eq_some_iff.mp hy
  rw [List.drop_eq_getElem_cons h1, List.drop_eq_getElem_cons h2, e1, e2]
  show (if x = y then _ else _) = _
  rw [if_neg hn]
def ord (i j : Int) : Int := if i = j then 0 else if i < j then -1 else 1
end VM
/-! K02 -/
namespace VM
open PySem PySem.Spec PyProof.Rows L2

theorem spec_order (i j : Int) : m_order [.int i, .int j] = some (.int (ord i j)) := by
  unfold m_order g_order ord
  have hz := sizeLine_eq
  apply gives_is
  walk_at "vm"
  by_cases h : i = j
  · rw [if_pos h, decide_eq_true h]
    walk_at "vm"
    exact gives_some rfl
  · rw [if_neg h, decide_eq_false h]
    walk_at "vm"
    by_cases h2 : i < j
    · rw [if_pos h2, decide_eq_true h2]
      walk_at "vm"
      exact gives_some rfl
    · rw [if_neg h2, decide_eq_false h2]
      walk_at "vm"
      exact gives_some rfl

/-! ### keys -/
theorem fidx_mem : ∀ {ws : List Str} {n : Str}, n ∈ ws → ∃ j, fidx n ws = some j ∧ j < ws.length
  | u :: r, n, h => by
    unfold fidx
    by_cases e : u = n
    · exact ⟨0, if_pos e, by simp⟩
    · rcases List.mem_cons.mp h with q | q
      · exact absurd q.symm e
      · obtain ⟨j, h1, h2⟩ := fidx_mem q
        exact ⟨j + 1, by rw [if_neg e, h1]; rfl, by rw [List.length_cons]; omega⟩
def idx (ws : List Str) (n : Str) : Nat := (fidx n ws).getD 0
theorem fidx_idx {ws : List Str} {n : Str} (h : n ∈ ws) : fidx n ws = some (idx ws n) := by
  obtain ⟨j, e, _⟩ := fidx_mem h
  unfold idx
  rw [e]
  rfl
theorem idx_at {ws : List Str} {n : Str} (h : n ∈ ws) : ws[idx ws n]? = some n := (fidx_some (fidx_idx h)).1
theorem idx_inj {ws : List Str} {m n : Str} (hm : m ∈ ws) (hn : n ∈ ws) (e : idx ws m = idx ws n) : m = n := by
  have a := idx_at hm
  rw [e, idx_at hn] at a
  exact (Option.some.inj a).symm
def kk (ws : List Str) (p : Str × Int) : Int × Int := ((idx ws p.1 : Int), p.2)
def key (ws : List Str) (ms : Inp Str) : List (Int × Int) := (code ms).map (kk ws)
theorem key_len (ws : List Str) (ms : Inp Str) : (key ws ms).length = ms.length := by unfold key; rw [List.length_map, code_len]
def NamesIn (ws : List Str) (ms : Inp Str) : Prop := ∀ m ∈ ms, m.1 ∈ ws
theorem names_codeGo {ws : List Str} : ∀ {ms : Inp Str} {seen : List Int}, NamesIn ws ms → NamesIn ws (codeGo seen ms)
  | [], _, _ => fun m hm => by cases hm
  | m :: r, seen, h => fun k hk => by
    rcases List.mem_cons.mp hk with rfl | hk
    · exact h m List.mem_cons_self
    · exact names_codeGo (fun x hx => h x (List.mem_cons_of_mem _ hx)) k hk
theorem names_code {ws : List Str} {ms : Inp Str} (h : NamesIn ws ms) : NamesIn ws (code ms) := names_codeGo h
theorem map_inj_mem {α β : Type} {f : α → β} : ∀ {as bs : List α}, (∀ a ∈ as, ∀ b ∈ bs, f a = f b → a = b) → as.map f = bs.map f → as = bs
  | [], [], _, _ => rfl
  | [], _ :: _, _, h => by simp at h
  | _ :: _, [], _, h => by simp at h
  | a :: as, b :: bs, hi, h => by
    simp only [List.map_cons, List.cons.injEq] at h
    rw [hi a List.mem_cons_self b List.mem_cons_self h.1, map_inj_mem (fun x hx y hy => hi x (List.mem_cons_of_mem _ hx) y (List.mem_cons_of_mem _ hy)) h.2]
theorem kk_inj {ws : List Str} {p q : Str × Int} (hp : p.1 ∈ ws) (hq : q.1 ∈ ws) (e : kk ws p = kk ws q) : p = q := by
  unfold kk at e
  simp only [Prod.mk.injEq] at e
  exact Prod.ext (idx_inj hp hq (by omega)) e.2
theorem key_iff {ws : List Str} {a b : Inp Str} (ha : NamesIn ws a) (hb : NamesIn ws b) : key ws a = key ws b ↔ dense a = dense b := by
  rw [← code_iff]
  refine ⟨fun h => map_inj_mem (fun x hx y hy => kk_inj (names_code ha x hx) (names_code hb y hy)) h, fun h => by unfold key; rw [h]⟩
theorem d_tix {ws : List Str} {n : Str} (h : n ∈ ws) : dTix (.tpd (ws.map .str)) (.str n) = some (.int (idx ws n : Nat)) := by
  show ((strsOf (ws.map D.str)).bind _) = _
  rw [strsOf_map, Option.bind_some, fidx_idx h]
  rfl
/-- a name's place among the names, as the law looks it up -/
theorem filter_idx : ∀ {ws : List Str} {n : Str} {j : Nat}, fidx n ws = some j → ∃ rest, (List.range ws.length).filter (fun k => decide (ws[k]? = some n)) = j :: rest
  | [], _, _, e => by cases e
  | u :: r, n, j, e => by
    unfold fidx at e
    rw [List.length_cons, List.range_succ_eq_map, List.filter_cons]
    by_cases h : u = n
    · rw [if_pos h] at e
      cases e
      rw [if_pos (by simpa using h)]
      exact ⟨_, rfl⟩
    · rw [if_neg h] at e
      obtain ⟨i, hi, rfl⟩ := Option.map_eq_some_iff.mp e
      rw [if_neg (by simpa using h), List.filter_map]
      obtain ⟨rest, hr⟩ := filter_idx hi
      refine ⟨rest.map (· + 1), ?_⟩
      have : (fun k => decide ((u :: r)[k]? = some n)) ∘ Nat.succ = fun k => decide (r[k]? = some n) := by
        funext k
        simp
      rw [this, hr]
      rfl
def ePair (p : Int × Int) : D := .tup [.int p.1, .int p.2]
def eKey (k : List (Int × Int)) : D := .tup [.int k.length, .lst (k.map ePair)]
theorem spec__law_key {ws : List Str} {ms : Inp Str} (hn : NamesIn ws ms) (hw : ∀ w ∈ ws, Word w) (hwl : ws.length ≤ 100) (hl : ms.length ≤ 4000) : m__law_key [.tpd (ws.map .str), .lst (ms.map eMsg)] = some (eKey (key ws ms)) := by
  unfold m__law_key g__law_key
  have hz := sizeLine_eq
  have hlc := spec__law_code (c := .lst (ms.map eMsg)) rfl (isMsgs ms) hl
  have hcl := code_len ms
  apply gives_is
  exists hlc
  rw [comp_all (R := IsMsg) (φ := fun p => ePair (kk ws p)) (isMsgs (code ms))]
  rotate_left
  · intro x p hx hp
    refine ⟨_, t_eN, x_tt, ?_⟩
    have hmem := names_code hn p hp
    obtain ⟨rest, hr⟩ := filter_idx (fidx_idx hmem)
    exists List.length_map
    rw [comp_sel (R := fun (d : D) (k : Nat) => d = .int (k : Nat)) (p := fun k => decide (ws[k]? = some p.1)) (φ := fun k => D.int (k : Nat)) (ys := List.range ws.length) (All2.of_map (R := fun (d : D) (k : Nat) => d = .int (k : Nat)) (f := fun k : Nat => D.int (k : Int)) (fun _ => rfl) _)]
    · rw [hr]
      exists hx.ix1
      rfl
    · rintro _ k rfl hk
      refine ⟨_, t_eN, ?_, fun _ => ?_⟩
      · have hk' : k < ws.length := List.mem_range.mp hk
        have e1 : dIx (.tpd (ws.map .str)) (.int (k : Int)) = some (.str ws[k]) := d_ix_tpd (atI_nat (by rw [List.getElem?_map, List.getElem?_eq_getElem hk']; rfl))
        exists e1, hx.ix0, d_eq_str (hw _ (List.getElem_mem hk')) (hw _ hmem), List.getElem?_eq_getElem hk', Option.some.injEq
      · walk_at "vm"
  · walk_at "vm"
    refine gives_some ?_
    unfold eKey key
    rw [List.length_map, List.map_map, hcl]
    rfl

/-! ### the order of keys as the interpreter tells it -/
open PySem.W in
theorem lt_pairs : ∀ (a b : List (Int × Int)), a.length = b.length → alikeAll (toPys (a.map ePair)) (toPys (b.map ePair)) = true ∧ PyProof.Rows.lexLt itemOrd (keyToksAll (toPys (a.map ePair))) (keyToksAll (toPys (b.map ePair))) = decide (lexc a b = -1)
  | [], [], _ => ⟨rfl, by
      show PyProof.Rows.lexLt itemOrd (keyToksAll []) (keyToksAll []) = decide ((0 : Int) = -1)
      have := toks_eqv (.list []) (.list []) rfl
      rw [lex_irrefl]
      rfl⟩
  | [], _ :: _, h => by simp at h
  | _ :: _, [], h => by simp at h
  | x :: a, y :: b, h => by
    obtain ⟨ih1, ih2⟩ := lt_pairs a b (by simpa using h)
    have ex : ∀ p : Int × Int, toPy (ePair p) = .tuple [.int p.1, .int p.2] := fun p => by simp only [ePair, toPy, toPys]
    have al : ∀ p q : Int × Int, alike (toPy (ePair p)) (toPy (ePair q)) = true := fun p q => by rw [ex, ex]; rfl
    have ev : ∀ p q : Int × Int, PyData.eqv (toPy (ePair p)) (toPy (ePair q)) = decide (p = q) := eqv_pair eqv_int eqv_int
    rw [List.map_cons, List.map_cons, toPys, toPys]
    refine ⟨by rw [alikeAll, al, ih1]; rfl, ?_⟩
    unfold lexc
    by_cases q : x = y
    · rw [dataLt_all_yes (al x y) (by rw [ev]; exact decide_eq_true q), ih2, if_pos q]
    · rw [dataLt_all_no (al x y) (by rw [ev]; exact decide_eq_false q), if_neg q, ex, ex]
      show PyProof.Rows.lexLt itemOrd (keyToksAll _) (keyToksAll _) = _
      have i1 : ∀ i j : Int, PyData.eqv (.int i) (.int j) = decide (i = j) := eqv_int
      by_cases h1 : x.1 = y.1
      · rw [dataLt_all_yes rfl (by rw [i1]; exact decide_eq_true h1)]
        have h2 : ¬ x.2 = y.2 := fun z => q (Prod.ext h1 z)
        rw [dataLt_all_no rfl (by rw [i1]; exact decide_eq_false h2), dataLt_int]
        by_cases h3 : x.2 < y.2
        · rw [decide_eq_true h3, if_pos (.inr ⟨h1, h3⟩)]; rfl
        · rw [decide_eq_false h3, if_neg (by omega)]; rfl
      · rw [dataLt_all_no rfl (by rw [i1]; exact decide_eq_false h1), dataLt_int]
        by_cases h3 : x.1 < y.1
        · rw [decide_eq_true h3, if_pos (.inl h3)]; rfl
        · rw [decide_eq_false h3, if_neg (by omega)]; rfl
theorem nice_key {k : List (Int × Int)} : Nice 3 (eKey k) := nice_tup fun d hd => by
  simp only [List.mem_cons, List.not_mem_nil, or_false] at hd
  rcases hd with rfl | rfl
  · exact (nice_int _).mono (by decide)
  · exact nice_lst fun d hd => by
      obtain ⟨p, _, rfl⟩ := List.mem_map.mp hd
      refine nice_tup fun d hd => ?_
      simp only [List.mem_cons, List.not_mem_nil, or_false] at hd
      rcases hd with rfl | rfl <;> exact nice_int _
theorem eqv_key : Eqv eKey := fun a b => by
  have h := eqv_pair eqv_int (eqv_lst (eqv_pair eqv_int eqv_int)) ((a.length : Int), a) ((b.length : Int), b)
  refine Eq.trans h (decide_eq_decide.mpr ⟨fun q => (Prod.mk.inj q).2, fun q => by rw [q]⟩)
open PySem.W in
theorem d_lt_key {a b : List (Int × Int)} (hne : a ≠ b) : dLt (eKey a) (eKey b) = some (.bl (decide (cmpK a b = -1))) := by
  have ek : ∀ k : List (Int × Int), toPy (eKey k) = .tuple [.int k.length, .list (toPys (k.map ePair))] := fun k => by simp only [eKey, toPy, toPys]
  have i1 : ∀ i j : Int, PyData.eqv (.int i) (.int j) = decide (i = j) := eqv_int
  show dLtD (eKey a) (eKey b) = _
  unfold dLtD cmpK
  by_cases h : a.length = b.length
  · obtain ⟨p1, p2⟩ := lt_pairs a b h
    rw [if_pos ⟨nice_key.ok (by decide), nice_key.ok (by decide), by rw [ek, ek]; simp only [alike, alikeAll, p1, Bool.and_self], by rw [ek]; rfl⟩, ek, ek, if_pos h]
    congr 2
    show PyProof.Rows.lexLt itemOrd (keyToksAll _) (keyToksAll _) = _
    rw [dataLt_all_yes rfl (by rw [i1]; exact decide_eq_true (by omega))]
    have ee : PyData.eqv (.list (toPys (a.map ePair))) (.list (toPys (b.map ePair))) = false := by
      have := eqv_lst (eqv_pair eqv_int eqv_int) a b
      rw [decide_eq_false hne] at this
      rw [PyData.eqv]
      have t2 : PyData.eqv (toPy (.lst (a.map ePair))) (toPy (.lst (b.map ePair))) = false := this
      rw [toPy, toPy, PyData.eqv] at t2
      exact t2
    rw [dataLt_all_no (by simp only [alike, p1]) ee]
    exact p2
  · have al : alike (.list (toPys (a.map ePair))) (.list (toPys (b.map ePair))) = true := by
      have ex : ∀ p : Int × Int, toPy (ePair p) = .tuple [.int p.1, .int p.2] := fun p => by simp only [ePair, toPy, toPys]
      have go : ∀ a b : List (Int × Int), alikeAll (toPys (a.map ePair)) (toPys (b.map ePair)) = true := by
        intro a
        induction a with
        | nil => intro b; rw [List.map_nil, toPys]; cases toPys (b.map ePair) <;> rfl
        | cons x a ih =>
          intro b
          cases b with
          | nil => rfl
          | cons y b =>
            rw [List.map_cons, List.map_cons, toPys, toPys, alikeAll, ih b, ex, ex]
            rfl
      simp only [alike, go]
    rw [if_pos ⟨nice_key.ok (by decide), nice_key.ok (by decide), by rw [ek, ek]; simp only [alike, alikeAll] at al ⊢; rw [al]; rfl, by rw [ek]; rfl⟩, ek, ek, if_neg h]
    congr 2
    show PyProof.Rows.lexLt itemOrd (keyToksAll _) (keyToksAll _) = _
    rw [dataLt_all_no rfl (by rw [i1]; exact decide_eq_false (by omega)), dataLt_int]
    by_cases h3 : a.length < b.length
    · rw [if_pos h3, decide_eq_true (by omega)]; rfl
    · rw [if_neg h3, decide_eq_false (by omega)]; rfl
end VM
/-! F_k01 -/
namespace VM
open PySem PySem.Spec PyProof.Rows L2
/-- the name that a number picks -/
def pick (ws : List Str) (z : Int) : Str := ws.getD (z % (ws.length : Int)).toNat Str.empty
theorem pick_lt {ws : List Str} (h : 0 < ws.length) (z : Int) : 0 ≤ z % (ws.length : Int) ∧ (z % (ws.length : Int)).toNat < ws.length := by
  have h0 := Int.emod_nonneg z (show (ws.length : Int) ≠ 0 by omega)
  have h1 := Int.emod_lt_of_pos z (show (0 : Int) < ws.length by omega)
  exact ⟨h0, by omega⟩
theorem pick_at {ws : List Str} (h : 0 < ws.length) (z : Int) : dIx (.tpd (ws.map .str)) (.int (z % (ws.length : Int))) = some (.str (pick ws z)) := by
  obtain ⟨h0, h1⟩ := pick_lt h z
  rw [d_ix_pmap h0 h1]
  unfold pick
  rw [List.getD_eq_getElem?_getD, List.getElem?_eq_getElem h1]
  rfl
theorem pick_mem {ws : List Str} (h : 0 < ws.length) (z : Int) : pick ws z ∈ ws := by
  obtain ⟨h0, h1⟩ := pick_lt h z
  unfold pick
  rw [List.getD_eq_getElem?_getD, List.getElem?_eq_getElem h1]
  exact List.getElem_mem h1
def lMsg (m : Str × Int) : D := .lst [.str m.1, .int m.2]
theorem isMsgsL (ms : Inp Str) : All2 IsMsg (ms.map lMsg) ms := All2.of_map (fun m => .inr rfl) ms
theorem list_e (m : Str × Int) : dList [eMsg m] = some (lMsg m) := rfl
theorem Words.append {a b : Inp Str} (h : Words a) (h' : Words b) : Words (a ++ b) := fun m hm => by
  rcases List.mem_append.mp hm with hm | hm
  · exact h m hm
  · exact h' m hm
theorem Words.sub {a b : Inp Str} (h : Words a) (hs : ∀ m ∈ b, m ∈ a) : Words b := fun m hm => h m (hs m hm)
theorem words_mapV {a : Inp Str} (h : Words a) (f : Int → Int) : Words (mapV f a) := fun m hm => by
  obtain ⟨k, hk, rfl⟩ := List.mem_map.mp hm
  exact h k hk
theorem words_of {ws : List Str} (hg : ∀ w ∈ ws, GoodW w) {ms : Inp Str} (h : ∀ m ∈ ms, m.1 ∈ ws) : Words ms := fun m hm => (hg _ (h m hm)).1.word

theorem d_ix_any {α : Type} {f : α → D} {as : List α} {i : Int} (h1 : -(as.length : Int) ≤ i) (h2 : i < as.length) : ∃ a ∈ as, dIx (.lst (as.map f)) (.int i) = some (f a) := by
  by_cases h0 : 0 ≤ i
  · exact ⟨_, List.getElem_mem (show i.toNat < as.length by omega), d_ix_lmap h0 (by omega)⟩
  · have hj : (i + (as.length : Int)).toNat < as.length := by omega
    refine ⟨_, List.getElem_mem hj, ?_⟩
    show atI _ _ = _
    unfold atI ixN
    rw [if_neg h0, List.length_map, if_pos h1, Option.bind_some, List.getElem?_map, List.getElem?_eq_getElem hj]
    rfl
theorem fin_k01 (ns : List Int) (h : ns.length ≤ 63) : m_law_k01 [.ro (ns.map .int)] = some (.bl true) := by
  unfold m_law_k01 g_law_k01
  have hz := sizeLine_eq
  have c0 : m__law_cell [.ro (ns.map .int), .int 0] = some (.int (ns.getD 0 0)) := spec__law_cell ns 0
  have c1 : m__law_cell [.ro (ns.map .int), .int 1] = some (.int (ns.getD 1 0)) := spec__law_cell ns 1
  have c2 : m__law_cell [.ro (ns.map .int), .int 2] = some (.int (ns.getD 2 0)) := spec__law_cell ns 2
  have c3 : m__law_cell [.ro (ns.map .int), .int 3] = some (.int (ns.getD 3 0)) := spec__law_cell ns 3
  have c4 : m__law_cell [.ro (ns.map .int), .int 4] = some (.int (ns.getD 4 0)) := spec__law_cell ns 4
  generalize ns.getD 0 0 = a0 at c0
  generalize ns.getD 1 0 = a1 at c1
  generalize ns.getD 2 0 = a2 at c2
  generalize ns.getD 3 0 = a3 at c3
  generalize ns.getD 4 0 = a4 at c4
  obtain ⟨d, e1, l, rfl, hl, hr⟩ := spec__law_row a0 4 (by decide)
  have e1 : m__law_row [.int a0, .int 4] = some (.lst (l.map .int)) := e1
  obtain ⟨d, e2, ws, rfl, hw, nd, hg⟩ := spec__law_words l (1 + a1 % 3).toNat (by omega) (by omega) fun z hz => (hr z hz).1
  have ew : (((1 + a1 % 3).toNat : Nat) : Int) = 1 + a1 % 3 := by omega
  rw [ew] at e2
  have hw0 : 0 < ws.length := by omega
  obtain ⟨d, e3, ms, rfl, hm, hmw⟩ := spec__law_input ws a2 (a3 % 30).toNat hw0 (by omega)
  have em : (((a3 % 30).toNat : Nat) : Int) = a3 % 30 := by omega
  rw [em] at e3
  apply gives_is
  have hnl : (ns.drop 5).length ≤ 63 := by rw [List.length_drop]; omega
  have ecut : List.drop 5 (ns.map D.int) = (ns.drop 5).map D.int := by rw [List.map_drop]
  exists c0, e1, c1, e2, c2, c3, e3, cut_from, ecut
  rw [comp_all (R := fun (d : D) (v : Int) => d = .int v) (φ := fun v => eMsg (pick ws v, v)) (isInt2 _)]
  rotate_left
  · rintro _ v rfl _
    refine ⟨_, t_eN, x_tt, ?_⟩
    exists pick_at hw0
    rfl
  have e5 : ((ns.drop 5).map fun v => eMsg (pick ws v, v)) = ((ns.drop 5).map fun v => (pick ws v, v)).map eMsg := by rw [List.map_map]; rfl
  rw [e5]
  walk_at "vm"
  rw [← List.map_append]
  have hfw : Words (ms ++ (ns.drop 5).map fun v => (pick ws v, v)) := words_of hg fun m hm => by
    rcases List.mem_append.mp hm with hm | hm
    · exact hmw m hm
    · obtain ⟨v, _, rfl⟩ := List.mem_map.mp hm
      exact pick_mem hw0 v
  have hfl : (ms ++ (ns.drop 5).map fun v => (pick ws v, v)).length ≤ 100 := by
    rw [List.length_append, List.length_map]
    omega
  generalize (ms ++ (ns.drop 5).map fun v => (pick ws v, v)) = first at hfw hfl
  rw [comp_all (R := IsMsg) (φ := fun m : Str × Int => eMsg (m.1, 7 * m.2 - 3)) (isMsgs first)]
  rotate_left
  · intro x m hx _
    refine ⟨_, t_eN, x_tt, ?_⟩
    exists hx.ix0, hx.ix1
    rfl
  have e6 : (first.map fun m : Str × Int => eMsg (m.1, 7 * m.2 - 3)) = (mapV (fun v => 7 * v - 3) first).map eMsg := by unfold mapV; rw [List.map_map]; rfl
  have hsw := words_mapV hfw (fun v => 7 * v - 3)
  have hsl : (mapV (fun v => 7 * v - 3) first).length ≤ 100 := by unfold mapV; rw [List.length_map]; exact hfl
  rw [e6]
  generalize mapV (fun v => 7 * v - 3) first = sec0 at hsw hsl
  exists c4
  refine g_in (g_bnd (P := isNx fun ρ => ∃ (sec : Inp Str) (o6 : Slot), ρ = [.val (.ro (ns.map .int)), .val (.tpd (ws.map .str)), .val (.lst (first.map eMsg)), .non, .val (.lst (sec.map eMsg)), .non, o6, .non, .non, .non, .non, .non] ∧ Words sec ∧ sec.length ≤ 200) ?_ ?_)
  · refine g_wayB (fun hq => ?_) (fun hq => ?_)
    · walk_at "vm"
      refine g_way (fun h0 => ?_) (fun h0 => ?_)
      · have h0 : 0 < sec0.length := by have := of_decide_eq_true h0; omega
        have h1 := Int.emod_nonneg (a4 / 2) (show (sec0.length : Int) ≠ 0 by omega)
        have h2 := Int.emod_lt_of_pos (a4 / 2) (show (0 : Int) < sec0.length by omega)
        obtain ⟨m, hm', em'⟩ := d_ix_any (f := eMsg) (as := sec0) (i := a4 / 2 % (sec0.length : Int) - 1) (by omega) (by omega)
        exists c4, pick_at hw0, em', ix_e1, cut_to, cut_from
        generalize a4 / 2 % (sec0.length : Int) = k at h1 h2
        refine gives_some ⟨sec0.take k.toNat ++ [(pick ws k, m.2)] ++ sec0.drop (k + 1).toNat, _, by simp only [List.map_append, List.map_take, List.map_drop]; rfl, ?_, ?_⟩
        · refine ((hsw.sub fun x hx => List.mem_of_mem_take hx).append fun x hx => ?_).append (hsw.sub fun x hx => List.mem_of_mem_drop hx)
          rw [List.mem_singleton.mp hx]
          exact (hg _ (pick_mem hw0 k)).1.word
        · simp only [List.length_append, List.length_take, List.length_drop, List.length_cons, List.length_nil]
          omega
      · walk_at "vm"
        exact gives_some ⟨sec0, _, rfl, hsw, by omega⟩
    · walk_at "vm"
      exact gives_some ⟨sec0, _, rfl, hsw, by omega⟩
  · intro o ho
    cases o with
    | nx ρ =>
      obtain ⟨sec, o6, rfl, hw2, hl2⟩ := ho
      have hd1 := spec_dense (c := .lst (first.map eMsg)) rfl (isMsgs first) (by omega)
      have hd2 := spec_dense (c := .lst ((dense first).map eMsg)) rfl (isMsgs _) (by rw [dense_len]; omega)
      have hd3 := spec_dense (c := .tpd (first.map lMsg)) rfl (isMsgsL _) (by omega)
      have hld1 := spec__law_dense (c := .lst (first.map eMsg)) rfl (isMsgs first) (by omega)
      have hld2 := spec__law_dense (c := .lst (sec.map eMsg)) rfl (isMsgs sec) (by omega)
      have hc1 := spec_code (c := .lst (first.map eMsg)) rfl (isMsgs first) (by omega)
      have hc3 := spec_code (c := .tpd (first.map lMsg)) rfl (isMsgsL first) (by omega)
      have hlc1 := spec__law_code (c := .lst (first.map eMsg)) rfl (isMsgs first) (by omega)
      have hlc2 := spec__law_code (c := .lst (sec.map eMsg)) rfl (isMsgs sec) (by omega)
      have hwd := words_dense hfw
      have hwd2 := words_dense hw2
      have hwc := words_code hfw
      have hwc2 := words_code hw2
      have ha1 := spec_alike (c := .tpd (first.map lMsg)) rfl (isMsgsL first) (by omega) hfw (c' := .lst (first.map eMsg)) rfl (isMsgs first) (by omega) hfw
      have ha2 := spec_alike (c := .lst (first.map eMsg)) rfl (isMsgs first) (by omega) hfw (c' := .lst (sec.map eMsg)) rfl (isMsgs sec) (by omega) hw2
      have ha3 := spec_alike (c := .lst (first.map eMsg)) rfl (isMsgs first) (by omega) hfw (c' := .lst ((dense first).map eMsg)) rfl (isMsgs _) (by rw [dense_len]; omega) (words_dense hfw)
      rw [dense_dense] at hd2 ha3
      exists hld1, hd1, d_ne_msgs hwd hwd, decide_true, hc1, hlc1, d_ne_msgs hwc hwc, d_ne_msgs hfw hfw, hd2
      rw [comp_all (R := IsMsg) (φ := lMsg) (isMsgs first)]
      rotate_left
      · intro x m hx _
        refine ⟨_, t_eN, x_tt, ?_⟩
        rcases hx with rfl | rfl
        · exists list_e
        · walk_at "vm"
          rfl
      have hb1 : decide (code sec = code first) = decide (dense sec = dense first) := decide_eq_decide.mpr code_iff
      have hb2 : decide (dense first = dense sec) = decide (dense sec = dense first) := decide_eq_decide.mpr eq_comm
      rw [hb2] at ha2
      exists hd3, d_ne_msgs hwd hwd, decide_true, hc3, hlc1, d_ne_msgs hwc hwc, ha1, hld2, hlc2, d_eq_msgs hwd2 hwd, d_eq_msgs hwc2 hwc, ha2, ha3, hb1
      exact gives_some rfl
    | _ => exact ho.elim
end VM
/-! F_k02 -/
namespace VM
open PySem PySem.Spec PyProof.Rows L2

theorem d_zip (xs ys : List D) : dZip [.lst xs, .lst ys] = some (zipD xs ys) := rfl
theorem zip_get {α β : Type} {f : α → D} {g : β → D} {as : List α} {bs : List β} {i : Nat} {x : D} (h : (zipD (as.map f) (bs.map g))[i]? = some x) : ∃ a b, as[i]? = some a ∧ bs[i]? = some b ∧ x = .tup [f a, g b] := by
  unfold zipD at h
  rw [List.getElem?_map] at h
  obtain ⟨⟨d, e⟩, h1, rfl⟩ := Option.map_eq_some_iff.mp h
  obtain ⟨h2, h3⟩ := List.getElem?_zip_eq_some.mp h1
  rw [List.getElem?_map] at h2 h3
  obtain ⟨a, ha, rfl⟩ := Option.map_eq_some_iff.mp h2
  obtain ⟨b, hb, rfl⟩ := Option.map_eq_some_iff.mp h3
  exact ⟨a, b, ha, hb, rfl⟩
theorem t_pair (p q : Str × Int) (a b c d e f g : Slot) : sTree 2 (tsCons (sTL [3, 4]) (tsCons (sTL [5, 6]) tsNil)) (.tup [eMsg p, eMsg q]) [a, b, c, d, e, f, g] = some [a, b, c, .val (.str p.1), .val (.int p.2), .val (.str q.1), .val (.int q.2)] := rfl
theorem ord_cases {i j : Int} (h : i ≠ j) : ord i j = if i < j then -1 else 1 := by unfold ord; rw [if_neg h]
theorem spec_compare {ws : List Str} {a b : Inp Str} (ha : NamesIn ws a) (hb : NamesIn ws b) (hw : ∀ w ∈ ws, Word w) (hal : a.length ≤ 4000) (hbl : b.length ≤ 4000) :
    m_compare [.tpd (ws.map .str), .lst (a.map eMsg), .lst (b.map eMsg)] = some (.int (cmpK (key ws a) (key ws b))) := by
  unfold m_compare g_compare
  have hz := sizeLine_eq
  have hca := spec_code (c := .lst (a.map eMsg)) rfl (isMsgs a) hal
  have hcb := spec_code (c := .lst (b.map eMsg)) rfl (isMsgs b) hbl
  apply gives_is
  walk_at "vm"
  by_cases hl : a.length = b.length
  · rw [decide_eq_true (show (a.length : Int) = b.length by omega)]
    have hkl : (key ws a).length = (key ws b).length := by rw [key_len, key_len, hl]
    have ek : cmpK (key ws a) (key ws b) = lexc (key ws a) (key ws b) := by unfold cmpK; rw [if_pos hkl]
    rw [ek]
    exists hca, hcb, d_zip
    refine g_in (gives_forR (fun i ρ => ∃ (o3 o4 o5 o6 : Slot), ρ = [.val (.tpd (ws.map .str)), .val (.lst (a.map eMsg)), .val (.lst (b.map eMsg)), o3, o4, o5, o6] ∧ (key ws a).take i = (key ws b).take i) (fun d => d = .int (lexc (key ws a) (key ws b))) ?_ ?_ ?_ ?_)
    · exact ⟨_, _, _, _, rfl, rfl⟩
    · rintro i x ρ hx ⟨o3, o4, o5, o6, rfl, ht⟩
      obtain ⟨p, q, hp, hq, rfl⟩ := zip_get hx
      have hpm := names_code ha p (List.mem_of_getElem? hp)
      have hqm := names_code hb q (List.mem_of_getElem? hq)
      have kp : (key ws a)[i]? = some (kk ws p) := by unfold key; rw [List.getElem?_map, hp]; rfl
      have kq : (key ws b)[i]? = some (kk ws q) := by unfold key; rw [List.getElem?_map, hq]; rfl
      refine gives_eq (t_pair ..) ?_
      exists d_ne_str (hw _ hpm) (hw _ hqm)
      refine g_wayB (fun hc => ?_) (fun hc => ?_)
      · have hc : ¬ p.1 = q.1 := by simpa using hc
        exists d_tix hpm, d_tix hqm, spec_order
        refine gives_some ?_
        have hi : ¬ (idx ws p.1 : Int) = (idx ws q.1 : Int) := fun z => hc (idx_inj hpm hqm (by omega))
        show D.int _ = D.int _
        rw [ord_cases hi, lexc_at ht kp kq fun z => hc (congrArg Prod.fst (kk_inj hpm hqm z))]
        unfold kk
        by_cases h1 : (idx ws p.1 : Int) < (idx ws q.1 : Int)
        · rw [if_pos h1, if_pos (.inl h1)]
        · rw [if_neg h1, if_neg (by omega)]
      · have hc : p.1 = q.1 := by simpa using hc
        walk_at "vm"
        refine g_way (fun hd => ?_) (fun hd => ?_)
        · have hd : ¬ p.2 = q.2 := by simpa using hd
          exists spec_order
          refine gives_some ?_
          show D.int _ = D.int _
          rw [ord_cases hd, lexc_at ht kp kq fun z => hd (congrArg Prod.snd (kk_inj hpm hqm z))]
          unfold kk
          rw [hc]
          by_cases h1 : p.2 < q.2
          · rw [if_pos h1, if_pos (.inr ⟨rfl, h1⟩)]
          · rw [if_neg h1, if_neg (by omega)]
        · have hd : p.2 = q.2 := by simpa using hd
          walk_at "vm"
          exact gives_some ⟨_, _, _, _, rfl, by rw [take_snoc kp, take_snoc kq, ht, show p = q from Prod.ext hc hd]⟩
    · rintro ρ ⟨o3, o4, o5, o6, rfl, ht⟩
      walk_at "vm"
      refine gives_some ?_
      have hzl : (zipD ((code a).map eMsg) ((code b).map eMsg)).length = a.length := by
        unfold zipD
        rw [List.length_map, List.length_zip, List.length_map, List.length_map, code_len, code_len, hl, Nat.min_self]
      rw [hzl, List.take_of_length_le (by rw [key_len]; omega), List.take_of_length_le (by rw [key_len]; omega)] at ht
      rw [ht, lexc_self]
    · rintro d rfl
      walk_at "vm"
      exact gives_some rfl
  · rw [decide_eq_false (show ¬ (a.length : Int) = b.length by omega)]
    exists spec_order
    refine gives_some ?_
    show D.int _ = D.int _
    unfold cmpK
    rw [key_len, key_len, if_neg hl, ord_cases (by omega)]
    by_cases h1 : a.length < b.length
    · rw [if_pos h1, if_pos (by omega)]
    · rw [if_neg h1, if_neg (by omega)]
theorem spec__law_due {ws : List Str} {a b : Inp Str} (ha : NamesIn ws a) (hb : NamesIn ws b) (hw : ∀ w ∈ ws, Word w) (hwl : ws.length ≤ 100) (hal : a.length ≤ 4000) (hbl : b.length ≤ 4000) :
    m__law_due [.tpd (ws.map .str), .lst (a.map eMsg), .lst (b.map eMsg)] = some (.int (cmpK (key ws a) (key ws b))) := by
  unfold m__law_due g__law_due
  have hz := sizeLine_eq
  have e1 := spec__law_key ha hw hwl hal
  have e2 := spec__law_key hb hw hwl hbl
  have e3 : dEq (eKey (key ws a)) (eKey (key ws b)) = some (.bl (decide (key ws a = key ws b))) := dEq_enc eqv_key (nice_key.ok (by decide)) (nice_key.ok (by decide))
  apply gives_is
  exists e1, e2, e3
  by_cases h : key ws a = key ws b
  · rw [decide_eq_true h, h, cmpK_zero.mpr rfl]
    walk_at "vm"
    exact gives_some rfl
  · rw [decide_eq_false h]
    have e4 := d_lt_key h
    have hne : ¬ cmpK (key ws a) (key ws b) = 0 := fun q => h (cmpK_zero.mp q)
    have hc : cmpK (key ws a) (key ws b) = -1 ∨ cmpK (key ws a) (key ws b) = 1 := by
      have hl : ∀ a b : List (Int × Int), lexc a b = 0 ∨ lexc a b = -1 ∨ lexc a b = 1 := by
        intro a
        induction a with
        | nil => intro b; exact .inl rfl
        | cons x a ih =>
          intro b
          cases b with
          | nil => exact .inl rfl
          | cons y b =>
            unfold lexc
            split
            · exact ih b
            · split <;> simp
      have := hl (key ws a) (key ws b)
      unfold cmpK at hne ⊢
      split
      · rename_i q
        rw [if_pos q] at hne
        omega
      · split <;> simp
    have t1 : dInt [.bl true] = some (.int 1) := rfl
    have t0 : dInt [.bl false] = some (.int 0) := rfl
    rcases hc with h1 | h1
    · rw [h1] at e4 ⊢
      exists e4, decide_true, t1
      exact gives_some rfl
    · rw [h1, decide_eq_false (by decide)] at e4
      rw [h1]
      exists e4, t0
      exact gives_some rfl

theorem cut_range {xs : List D} {i j : Int} (h : 0 ≤ i) (h' : 0 ≤ j) : dCut xs (some i) (some j) = (xs.drop i.toNat).take (j.toNat - i.toNat) := cut_mid h h'
/-- lists of inputs -/
def eMsgs (ms : Inp Str) : D := .lst (ms.map eMsg)
theorem eqv_inputs : Eqv (fun l : List (Inp Str) => D.lst (l.map eMsgs)) := eqv_lst (eqv_lst eqv_msg)
theorem nice_inputs {l : List (Inp Str)} (h : ∀ ms ∈ l, Words ms) : Nice 3 (.lst (l.map eMsgs)) := nice_lst fun d hd => by
  obtain ⟨ms, hm, rfl⟩ := List.mem_map.mp hd
  exact nice_msgs (h ms hm)

theorem fin_k02 (ns : List Int) (h : ns.length ≤ 63) : m_law_k02 [.ro (ns.map .int)] = some (.bl true) := by
  unfold m_law_k02 g_law_k02
  have hz := sizeLine_eq
  have c0 : m__law_cell [.ro (ns.map .int), .int 0] = some (.int (ns.getD 0 0)) := spec__law_cell ns 0
  have c1 : m__law_cell [.ro (ns.map .int), .int 1] = some (.int (ns.getD 1 0)) := spec__law_cell ns 1
  have c2 : m__law_cell [.ro (ns.map .int), .int 2] = some (.int (ns.getD 2 0)) := spec__law_cell ns 2
  have c3 : m__law_cell [.ro (ns.map .int), .int 3] = some (.int (ns.getD 3 0)) := spec__law_cell ns 3
  have c4 : m__law_cell [.ro (ns.map .int), .int 4] = some (.int (ns.getD 4 0)) := spec__law_cell ns 4
  have c5 : m__law_cell [.ro (ns.map .int), .int 5] = some (.int (ns.getD 5 0)) := spec__law_cell ns 5
  have c6 : m__law_cell [.ro (ns.map .int), .int 6] = some (.int (ns.getD 6 0)) := spec__law_cell ns 6
  generalize ns.getD 0 0 = a0 at c0
  generalize ns.getD 1 0 = a1 at c1
  generalize ns.getD 2 0 = a2 at c2
  generalize ns.getD 3 0 = a3 at c3
  generalize ns.getD 4 0 = a4 at c4
  generalize ns.getD 5 0 = a5 at c5
  generalize ns.getD 6 0 = a6 at c6
  obtain ⟨d, e1, l, rfl, hl, hr⟩ := spec__law_row a0 4 (by decide)
  have e1 : m__law_row [.int a0, .int 4] = some (.lst (l.map .int)) := e1
  obtain ⟨d, e2, ws, rfl, hw, nd, hg⟩ := spec__law_words l (1 + a1 % 3).toNat (by omega) (by omega) fun z hz => (hr z hz).1
  have ew : (((1 + a1 % 3).toNat : Nat) : Int) = 1 + a1 % 3 := by omega
  rw [ew] at e2
  have hw0 : 0 < ws.length := by omega
  have hwd : ∀ w ∈ ws, Word w := fun w hm => (hg w hm).1.word
  obtain ⟨d, e3, m1, rfl, hm1, hn1⟩ := spec__law_input ws a2 (a3 % 20).toNat hw0 (by omega)
  rw [show (((a3 % 20).toNat : Nat) : Int) = a3 % 20 by omega] at e3
  obtain ⟨d, e4, m2, rfl, hm2, hn2⟩ := spec__law_input ws a4 (a5 % 6).toNat hw0 (by omega)
  rw [show (((a5 % 6).toNat : Nat) : Int) = a5 % 6 by omega] at e4
  obtain ⟨d, e5, m3, rfl, hm3, hn3⟩ := spec__law_input ws a6 (a3 / 400 % 20).toNat hw0 (by omega)
  rw [show (((a3 / 400 % 20).toNat : Nat) : Int) = a3 / 400 % 20 by omega] at e5
  apply gives_is
  have ecut : List.take 13 (List.drop 7 (ns.map D.int)) = ((ns.drop 7).take 13).map D.int := by rw [List.map_take, List.map_drop]
  have hnl : ((ns.drop 7).take 13).length ≤ 63 := by rw [List.length_take, List.length_drop]; omega
  exists c0, e1, c1, e2, c2, c3, e3, c4, c5, e4, c6, e5, cut_to, cut_mid
  rw [ecut, comp_all (R := fun (d : D) (v : Int) => d = .int v) (φ := fun v => eMsg (pick ws v, v)) (isInt2 _)]
  rotate_left
  · rintro _ v rfl _
    refine ⟨_, t_eN, x_tt, ?_⟩
    exists pick_at hw0
    rfl
  have e6 : (((ns.drop 7).take 13).map fun v => eMsg (pick ws v, v)) = (((ns.drop 7).take 13).map fun v => (pick ws v, v)).map eMsg := by rw [List.map_map]; rfl
  have e7 : List.take (a3 / 20 % 20).toNat (m1.map eMsg) ++ m2.map eMsg = (m1.take (a3 / 20 % 20).toNat ++ m2).map eMsg := by rw [List.map_append, List.map_take]
  rw [e6, e7]
  walk_at "vm"
  rw [← List.map_append]
  have hn4 : NamesIn ws (m1.take (a3 / 20 % 20).toNat ++ m2) := fun m hm => by
    rcases List.mem_append.mp hm with hm | hm
    · exact hn1 m (List.mem_of_mem_take hm)
    · exact hn2 m hm
  have hl4 : (m1.take (a3 / 20 % 20).toNat ++ m2).length ≤ 200 := by rw [List.length_append, List.length_take]; omega
  have hn5 : NamesIn ws (m3 ++ ((ns.drop 7).take 13).map fun v => (pick ws v, v)) := fun m hm => by
    rcases List.mem_append.mp hm with hm | hm
    · exact hn3 m hm
    · obtain ⟨v, _, rfl⟩ := List.mem_map.mp hm
      exact pick_mem hw0 v
  have hl5 : (m3 ++ ((ns.drop 7).take 13).map fun v => (pick ws v, v)).length ≤ 200 := by rw [List.length_append, List.length_map]; omega
  have hn1 : NamesIn ws m1 := hn1
  generalize (m3 ++ ((ns.drop 7).take 13).map fun v => (pick ws v, v)) = third at hn5 hl5
  generalize (m1.take (a3 / 20 % 20).toNat ++ m2) = second at hn4 hl4
  have hl1 : m1.length ≤ 200 := by omega
  generalize m1 = first at hn1 hl1
  have el : [D.lst (first.map eMsg), D.lst (second.map eMsg), D.lst (third.map eMsg)] = [first, second, third].map eMsgs := rfl
  have hall : ∀ ms ∈ [first, second, third], NamesIn ws ms ∧ ms.length ≤ 200 := fun ms hm => by
    simp only [List.mem_cons, List.not_mem_nil, or_false] at hm
    rcases hm with rfl | rfl | rfl
    · exact ⟨hn1, hl1⟩
    · exact ⟨hn4, hl4⟩
    · exact ⟨hn5, hl5⟩
  have hwords : ∀ ms ∈ [first, second, third], Words ms := fun ms hm m h => hwd _ ((hall ms hm).1 m h)
  have h3 : [first, second, third].length = 3 := rfl
  rw [el]
  generalize hthree : [first, second, third] = three at hall hwords h3
  rw [comp_all (R := fun (d : D) (ms : Inp Str) => d = eMsgs ms) (φ := eMsgs) (All2.of_map (R := fun (d : D) (ms : Inp Str) => d = eMsgs ms) (f := eMsgs) (fun _ => rfl) three)]
  rotate_left
  · rintro _ ms rfl hms
    refine ⟨_, t_eN, x_tt, ?_⟩
    have hlm := (hall ms hms).2
    have hsq : dSeq (eMsgs ms) = some (ms.map eMsg) := rfl
    exists hsq
    rw [comp_all (R := IsMsg) (φ := eMsg) (isMsgs ms)]
    · rfl
    · intro x m hx _
      refine ⟨_, t_eN, x_tt, ?_⟩
      exists hx.ix0, hx.ix1
      rfl
  have three_get : ∀ {i : Nat} {x : D}, (three.map eMsgs)[i]? = some x → ∃ ms, ms ∈ three ∧ x = .lst (ms.map eMsg) := fun {i x} hx => by
    rw [List.getElem?_map] at hx
    obtain ⟨ms, hm, rfl⟩ := Option.map_eq_some_iff.mp hx
    exact ⟨ms, List.mem_of_getElem? hm, rfl⟩
  have hcmp : ∀ a ∈ three, ∀ b ∈ three, m_compare [.tpd (ws.map .str), .lst (a.map eMsg), .lst (b.map eMsg)] = some (.int (cmpK (key ws a) (key ws b))) := fun a ha b hb =>
    spec_compare (hall a ha).1 (hall b hb).1 hwd (by have := (hall a ha).2; omega) (by have := (hall b hb).2; omega)
  have hdue : ∀ a ∈ three, ∀ b ∈ three, m__law_due [.tpd (ws.map .str), .lst (a.map eMsg), .lst (b.map eMsg)] = some (.int (cmpK (key ws a) (key ws b))) := fun a ha b hb =>
    spec__law_due (hall a ha).1 (hall b hb).1 hwd (by omega) (by have := (hall a ha).2; omega) (by have := (hall b hb).2; omega)
  have halk : ∀ a ∈ three, ∀ b ∈ three, m_alike [.lst (a.map eMsg), .lst (b.map eMsg)] = some (.bl (decide (cmpK (key ws a) (key ws b) = 0))) := fun a ha b hb => by
    have := spec_alike (c := .lst (a.map eMsg)) rfl (isMsgs a) (by have := (hall a ha).2; omega) (hwords a ha) (c' := .lst (b.map eMsg)) rfl (isMsgs b) (by have := (hall b hb).2; omega) (hwords b hb)
    rw [this]
    congr 2
    exact decide_eq_decide.mpr ((key_iff (hall a ha).1 (hall b hb).1).symm.trans cmpK_zero.symm)
  walk_at "vm"
  refine g_in (gives_for (fun i ρ => ∃ (o9 o10 o11 : Slot), ρ = [.val (.ro (ns.map .int)), .val (.tpd (ws.map .str)), .val (.lst (first.map eMsg)), .val (.lst (second.map eMsg)), .val (.lst (third.map eMsg)), .non, .val (.lst (three.map eMsgs)), .val (.lst (three.map eMsgs)), .non, o9, o10, o11]) ?_ ?_ ?_)
  · exact ⟨_, _, _, rfl⟩
  · rintro i x ρ hx ⟨o9, o10, o11, rfl⟩
    obtain ⟨a, ha, rfl⟩ := three_get hx
    refine gives_some ?_
    walk_at "vm"
    refine Gives.imp (gives_loop (fun i ρ => ∃ (o10 o11 : Slot), ρ = [.val (.ro (ns.map .int)), .val (.tpd (ws.map .str)), .val (.lst (first.map eMsg)), .val (.lst (second.map eMsg)), .val (.lst (third.map eMsg)), .non, .val (.lst (three.map eMsgs)), .val (.lst (three.map eMsgs)), .non, .val (.lst (a.map eMsg)), o10, o11]) ?_ ?_) ?_
    · exact ⟨_, _, rfl⟩
    · rintro j y ρ hy ⟨o10, o11, rfl⟩
      obtain ⟨b, hb, rfl⟩ := three_get hy
      refine gives_some ?_
      have hd0 : (decide (cmpK (key ws a) (key ws b) = 0) = decide (cmpK (key ws a) (key ws b) = 0)) := rfl
      have hneg : - cmpK (key ws b) (key ws a) = cmpK (key ws a) (key ws b) := (cmpK_neg _ _).symm
      exists hcmp a ha b hb, hdue a ha b hb, decide_true, halk a ha b hb, hcmp b hb a ha, hneg
      refine Gives.imp (gives_loop (fun i ρ => ∃ (o11 : Slot), ρ = [.val (.ro (ns.map .int)), .val (.tpd (ws.map .str)), .val (.lst (first.map eMsg)), .val (.lst (second.map eMsg)), .val (.lst (third.map eMsg)), .non, .val (.lst (three.map eMsgs)), .val (.lst (three.map eMsgs)), .non, .val (.lst (a.map eMsg)), .val (.lst (b.map eMsg)), o11]) ?_ ?_) ?_
      · exact ⟨_, rfl⟩
      · rintro k z ρ hz' ⟨o11, rfl⟩
        obtain ⟨c, hc, rfl⟩ := three_get hz'
        refine gives_some ?_
        exists hcmp a ha b hb
        by_cases h1 : cmpK (key ws a) (key ws b) = -1
        · rw [decide_eq_true h1]
          exists hcmp b hb c hc
          by_cases h2 : cmpK (key ws b) (key ws c) = -1
          · rw [decide_eq_true h2]
            exists hcmp a ha c hc, cmpK_trans h1 h2, decide_true
            exact gives_some ⟨_, rfl⟩
          · rw [decide_eq_false h2]
            walk_at "vm"
            exact gives_some ⟨_, rfl⟩
        · rw [decide_eq_false h1]
          walk_at "vm"
          exact gives_some ⟨_, rfl⟩
      · intro o ho
        cases o with
        | nx ρ => obtain ⟨o11, rfl⟩ := ho; exact ⟨_, _, rfl⟩
        | _ => exact ho
    · intro o ho
      cases o with
      | nx ρ => obtain ⟨o10, o11, rfl⟩ := ho; exact ⟨_, _, _, rfl⟩
      | _ => exact ho
  · rintro ρ ⟨o9, o10, o11, rfl⟩
    have hthr : dEq (.lst (three.map eMsgs)) (.lst (three.map eMsgs)) = some (.bl (decide (three = three))) := dEq_enc eqv_inputs ((nice_inputs hwords).ok (by decide)) ((nice_inputs hwords).ok (by decide))
    exists hthr, decide_true
    exact gives_some rfl
end VM
/-! K03 -/
namespace VM
open PySem PySem.Spec PyProof.Rows L2

/-! ### _law_distinct -/
theorem d_sorted_nodup {l : List Int} (h : l.Nodup) : dSorted (.lst (l.map .int)) = some (.lst ((sortI l).map .int)) := by
  unfold dSorted
  dsimp only
  rw [intsOf_map, Option.bind_some, sortL_of_nodup h]
theorem sortI_fo (vs : List Int) : sortI (fo [] vs) = sortI vs := sortI_ext fun z => by rw [fo_mem]; simp
theorem spec__law_distinct {c : D} {xs : List D} {ms : Inp Str} (hc : dSeq c = some xs) (ha : All2 IsMsg xs ms) (hl : ms.length ≤ 4000) : m__law_distinct [c] = some (.lst ((sortI (vals ms)).map .int)) := by
  unfold m__law_distinct g__law_distinct
  have hz := sizeLine_eq
  have hxl := ha.length
  apply gives_is
  exists hc
  refine g_in (gives_for (fun i ρ => ∃ (o2 : Slot), ρ = [.val c, .own ((fo [] ((vals ms).take i)).map .int), o2]) ?_ ?_ ?_)
  · exact ⟨_, rfl⟩
  · rintro i x ρ hx ⟨o2, rfl⟩
    obtain ⟨m, hm, im⟩ := ha.get hx
    have hv : (vals ms)[i]? = some m.2 := by unfold vals; rw [List.getElem?_map, hm]; rfl
    have hfl := fo_len ((vals ms).take i)
    rw [List.length_take] at hfl
    have hvl : (vals ms).length = ms.length := List.length_map ..
    rw [take_snoc hv, fo_snoc]
    refine gives_some ?_
    exists im.ix1
    refine g_way (fun hq => ?_) (fun hq => ?_)
    · have hn : ¬ m.2 ∈ fo [] ((vals ms).take i) := by simpa using hq
      exists im.ix1
      exact gives_some ⟨_, by rw [if_neg hn, List.map_append]; rfl⟩
    · have hn : m.2 ∈ fo [] ((vals ms).take i) := by simpa using hq
      walk_at "vm"
      exact gives_some ⟨_, by rw [if_pos hn]⟩
  · rintro ρ ⟨o2, rfl⟩
    have hvl : (vals ms).length = ms.length := List.length_map ..
    have ht : (vals ms).take xs.length = vals ms := List.take_of_length_le (by omega)
    rw [ht]
    exists d_sorted_nodup (fo_nodup (vals ms) [] List.nodup_nil)
    exact gives_some (by rw [sortI_fo])

/-! ### rows of integers as tuples -/
def eTup (r : List Int) : D := .tup (r.map .int)
theorem eqv_tup : Eqv eTup := eqv_tups eqv_int
theorem nice_tupI (r : List Int) : Nice 1 (eTup r) := nice_tup fun d hd => by
  obtain ⟨i, _, rfl⟩ := List.mem_map.mp hd
  exact nice_int _
theorem nice_rows (l : List (List Int)) : Nice 2 (.lst (l.map eTup)) := nice_lst fun d hd => by
  obtain ⟨r, _, rfl⟩ := List.mem_map.mp hd
  exact nice_tupI r
theorem d_ne_rows (a b : List (List Int)) : dNe (.lst (a.map eTup)) (.lst (b.map eTup)) = some (.bl (!decide (a = b))) :=
  dNe_enc (eqv_lst eqv_tup) ((nice_rows a).ok (by decide)) ((nice_rows b).ok (by decide))
theorem tup_nil : D.tup [] = eTup [] := rfl
theorem ix_last (r : List Int) (p : Int) : dIx (eTup (r ++ [p])) (.int (-1)) = some (.int p) := by
  show atI ((r ++ [p]).map D.int) (-1) = _
  rw [List.map_append]
  exact atI_last _ _
theorem len_tup (r : List Int) : dLen [eTup r] = some (.int r.length) := by
  show some (D.int ((r.map D.int).length : Nat)) = _
  rw [List.length_map]
theorem add_tup {r : List Int} {p : Int} (h : r.length ≤ 1000) : dAdd (eTup r) (.tup [.int p]) = some (eTup (r ++ [p])) := by
  show dAdd (.tup (r.map .int)) (.tup [.int p]) = _
  rw [d_add_tup (by simp; omega)]
  unfold eTup
  rw [List.map_append]
  rfl
theorem snoc_or (r : List Int) : r = [] ∨ ∃ q p, r = q ++ [p] := by
  rcases List.eq_nil_or_concat r with h | ⟨q, p, h⟩
  · exact .inl h
  · exact .inr ⟨q, p, by rw [h, List.concat_eq_append]⟩
theorem spec_lowest (r : List Int) : m_lowest [eTup r] = some (.int (lowP r)) := by
  unfold m_lowest g_lowest
  have hz := sizeLine_eq
  apply gives_is
  exists len_tup
  rcases snoc_or r with rfl | ⟨q, p, rfl⟩
  · exists show decide (((([] : List Int).length : Nat) : Int) = 0) = true from rfl
    exact gives_some rfl
  · rw [decide_eq_false (by rw [List.length_append]; simp; omega)]
    exists ix_last
    exact gives_some (by rw [lowP_snoc])

/-! ### two clauses -/
theorem comp2_flat {β γ : Type} {R : D → β → Prop} {R1 : D → γ → Prop} {vs1 : List Nat} {t t1 : D → Env → Option Env} {h h1 : Env → Option Bool} {it1 : Env → Option (List D)} {f : Env → Option D} {e : Env} (zs : β → List γ) (φ : β → γ → D) : ∀ {xs : List D} {ys : List β}, All2 R xs ys →
    (∀ x y, R x y → y ∈ ys → ∃ e1 ds, t x e = some e1 ∧ h e1 = some true ∧ it1 e1 = some ds ∧ All2 R1 ds (zs y) ∧ ∀ d z, R1 d z → z ∈ zs y → ∃ e2, t1 d (wipeE e1 vs1) = some e2 ∧ h1 e2 = some true ∧ f e2 = some (φ y z)) →
    compL2 vs1 t h it1 t1 h1 f e xs = some (ys.flatMap fun y => (zs y).map (φ y))
  | _, _, .nil, _ => rfl
  | _, _, .cons (a := x) (b := y) (as := xs) (bs := ys) q r, k => by
    obtain ⟨e1, ds, a1, a2, a3, a4, a5⟩ := k x y q List.mem_cons_self
    unfold compL2
    rw [a1, Option.bind_some, a2, Option.bind_some, if_pos rfl, a3, Option.bind_some, comp_all (φ y) a4 a5, Option.bind_some, comp2_flat zs φ r fun x y q hy => k x y q (List.mem_cons_of_mem _ hy), Option.bind_some, List.flatMap_cons]
theorem rng2 {a b : Int} (h1 : -4611686018427387904 ≤ a) (h2 : a < 4611686018427387904) (h3 : -4611686018427387904 ≤ b) (h4 : b < 4611686018427387904) : dRng2 [.int a, .int b] = some ((upTo a b).map .int) := by
  unfold dRng2
  dsimp only
  rw [if_pos ⟨by omega, by omega, by omega, by omega⟩]
  unfold rngD upTo
  rw [List.map_map]
  rfl

/-! ### placings -/
theorem spec_placings {c c' : D} {xs xs' : List D} {fs es : Inp Str} (hc : dSeq c = some xs) (ha : All2 IsMsg xs fs) (hl : fs.length ≤ 100) (hc' : dSeq c' = some xs') (ha' : All2 IsMsg xs' es) (hl' : es.length ≤ 100)
    (hM : ∀ n, n ≤ (sortI (vals fs)).length → (plc (2 * ((sortI (vals es)).length : Int)) n).length ≤ 4000) :
    m_placings [c, c'] = some (.lst ((plc (2 * ((sortI (vals es)).length : Int)) (sortI (vals fs)).length).map eTup)) := by
  unfold m_placings g_placings
  have hz := sizeLine_eq
  have hA := sortI_len (vals fs)
  have hB := sortI_len (vals es)
  have hvA : (vals fs).length = fs.length := List.length_map ..
  have hvB : (vals es).length = es.length := List.length_map ..
  have e1 := spec_different hc ha (by omega)
  have e2 := spec_different hc' ha' (by omega)
  generalize sortI (vals fs) = A at hA hM e1
  generalize sortI (vals es) = B at hB hM e2
  apply gives_is
  exists e1, e2, tup_nil
  refine g_in (gives_for (fun i ρ => i ≤ A.length ∧ ∃ (o4 o5 o6 : Slot), ρ = [.val c, .val c', .val (.int (2 * (B.length : Int))), .val (.lst ((plc (2 * (B.length : Int)) i).map eTup)), o4, o5, o6]) ?_ ?_ ?_)
  · exact ⟨Nat.zero_le _, _, _, _, rfl⟩
  · rintro i x ρ hx ⟨hi, o4, o5, o6, rfl⟩
    have hi2 : i < A.length := by
      have := (List.getElem?_eq_some_iff.mp hx).1
      rw [List.length_map] at this
      exact this
    refine gives_some ?_
    have hrow := hM (i + 1) hi2
    walk_at "vm"
    rw [comp2_flat (R := fun (d : D) (r : List Int) => d = eTup r) (R1 := fun (d : D) (p : Int) => d = .int p) (zs := fun r => upTo (lowP r) (2 * (B.length : Int) + 1)) (φ := fun r p => eTup (r ++ [p])) (All2.of_map (R := fun (d : D) (r : List Int) => d = eTup r) (f := eTup) (fun _ => rfl) (plc (2 * (B.length : Int)) i))]
    · have hlen : ((plc (2 * (B.length : Int)) i).flatMap fun r => (upTo (lowP r) (2 * (B.length : Int) + 1)).map fun p => eTup (r ++ [p])) = (plc (2 * (B.length : Int)) (i + 1)).map eTup := by
        show _ = (stepP _ _).map eTup
        unfold stepP
        rw [List.map_flatMap]
        congr 1
        funext r
        rw [List.map_map]
        rfl
      rw [hlen]
      walk_at "vm"
      exact gives_some ⟨hi2, _, _, _, rfl⟩
    · rintro _ r rfl hr
      obtain ⟨hok, hrl⟩ := (plc_ok i r).mp hr
      have hb := okP_nonneg hok
      have hlow : lowP r ≤ 2 * (B.length : Int) + 1 := by
        rcases snoc_or r with rfl | ⟨q, p, rfl⟩
        · rw [lowP_nil]; omega
        · have := hb.2 p (by simp)
          rw [lowP_snoc]; omega
      refine ⟨_, (upTo (lowP r) (2 * (B.length : Int) + 1)).map .int, t_eN, x_tt, ?_, isInt2 _, ?_⟩
      · exists spec_lowest, rng2
      · rintro _ p rfl hp
        refine ⟨_, t_eN, x_tt, ?_⟩
        exists add_tup
  · rintro ρ ⟨hi, o4, o5, o6, rfl⟩
    walk_at "vm"
    exact gives_some rfl
end VM
/-! K03b -/
namespace VM
open PySem PySem.Spec PyProof.Rows L2

/-! ### _law_placings -/
theorem upTo_snoc (j : Nat) : upTo 0 ((j + 1 : Nat) : Int) = upTo 0 (j : Int) ++ [(j : Int)] := by
  unfold upTo
  rw [show (((j + 1 : Nat) : Int) - 0).toNat = j + 1 by omega, show ((j : Int) - 0).toNat = j by omega, List.range_succ, List.map_append]
  simp
theorem stepP_take {top : Int} {rows : List (List Int)} {i : Nat} {r : List Int} (h : rows[i]? = some r) : stepP top (rows.take (i + 1)) = stepP top (rows.take i) ++ (upTo (lowP r) (top + 1)).map fun p => r ++ [p] := by
  unfold stepP
  rw [take_snoc h, List.flatMap_append]
  simp
theorem spec__law_placings {c c' : D} {xs xs' : List D} {fs es : Inp Str} (hc : dSeq c = some xs) (ha : All2 IsMsg xs fs) (hl : fs.length ≤ 100) (hc' : dSeq c' = some xs') (ha' : All2 IsMsg xs' es) (hl' : es.length ≤ 100)
    (hM : ∀ n, n ≤ (sortI (vals fs)).length → (plc (2 * ((sortI (vals es)).length : Int)) n).length ≤ 4000) :
    m__law_placings [c, c'] = some (.lst ((plc (2 * ((sortI (vals es)).length : Int)) (sortI (vals fs)).length).map eTup)) := by
  unfold m__law_placings g__law_placings
  have hz := sizeLine_eq
  have hA := sortI_len (vals fs)
  have hB := sortI_len (vals es)
  have hvA : (vals fs).length = fs.length := List.length_map ..
  have hvB : (vals es).length = es.length := List.length_map ..
  have e1 := spec__law_distinct hc ha (by omega)
  have e2 := spec__law_distinct hc' ha' (by omega)
  generalize sortI (vals fs) = A at hA hM e1
  generalize sortI (vals es) = B at hB hM e2
  apply gives_is
  exists e1, e2, tup_nil
  refine g_in (gives_for (fun i ρ => i ≤ A.length ∧ ∃ (o4 o5 o6 o7 : Slot), ρ = [.val c, .val c', .val (.int B.length), .val (.lst ((plc (2 * (B.length : Int)) i).map eTup)), o4, o5, o6, o7]) ?_ ?_ ?_)
  · exact ⟨Nat.zero_le _, _, _, _, _, rfl⟩
  · rintro i x ρ hx ⟨hi, o4, o5, o6, o7, rfl⟩
    have hi2 : i < A.length := by
      have := (List.getElem?_eq_some_iff.mp hx).1
      rw [List.length_map, List.length_range] at this
      exact this
    obtain ⟨_, rfl⟩ := range_get hx
    refine gives_some ?_
    have hrow0 := hM i hi
    have hrow := hM (i + 1) hi2
    have hrows : ∀ r ∈ plc (2 * (B.length : Int)) i, OkP (2 * (B.length : Int)) r ∧ r.length = i := fun r hr => (plc_ok i r).mp hr
    have hpl : plc (2 * (B.length : Int)) (i + 1) = stepP (2 * (B.length : Int)) (plc (2 * (B.length : Int)) i) := rfl
    rw [hpl]
    generalize plc (2 * (B.length : Int)) i = rows at hrow0 hrows
    walk_at "vm"
    refine gives_for (fun k ρ => ∃ (o6 o7 : Slot), ρ = [.val c, .val c', .val (.int B.length), .val (.lst (rows.map eTup)), .val (.int i), .own ((stepP (2 * (B.length : Int)) (rows.take k)).map eTup), o6, o7]) ?_ ?_ ?_
    · exact ⟨_, _, rfl⟩
    · rintro k y ρ hy ⟨o6, o7, rfl⟩
      rw [List.getElem?_map] at hy
      obtain ⟨r, hr, rfl⟩ := Option.map_eq_some_iff.mp hy
      have hkr := (List.getElem?_eq_some_iff.mp hr).1
      obtain ⟨hok, hrl⟩ := hrows r (List.mem_of_getElem? hr)
      have hnn := okP_nonneg hok
      have hpre : (stepP (2 * (B.length : Int)) (rows.take k)).length ≤ 4000 * (2 * (B.length : Int) + 1).toNat := stepP_len _ (by omega) 4000 _ (fun q hq => (okP_nonneg (hrows q (List.mem_of_mem_take hq)).1).1) (by rw [List.length_take]; omega)
      have hpre2 : (stepP (2 * (B.length : Int)) (rows.take k)).length ≤ 804000 := Nat.le_trans hpre (by omega)
      rw [stepP_take hr]
      generalize stepP (2 * (B.length : Int)) (rows.take k) = done at hpre2
      refine gives_some ?_
      walk_at "vm"
      refine Gives.imp (gives_loop (fun j ρ => j ≤ (2 * (B.length : Int) + 1).toNat ∧ ∃ (o7 : Slot), ρ = [.val c, .val c', .val (.int B.length), .val (.lst (rows.map eTup)), .val (.int i), .own ((done ++ ((upTo 0 (j : Int)).filter fun p => decide (lowP r ≤ p)).map fun p => r ++ [p]).map eTup), .val (eTup r), o7]) ?_ ?_) ?_
      · exact ⟨Nat.zero_le _, o7, by simp [upTo]⟩
      · rintro j z ρ hz' ⟨hj, o7, rfl⟩
        obtain ⟨hj2, rfl⟩ := range_get hz'
        refine gives_some ?_
        have hfl : ((upTo 0 (j : Int)).filter fun p => decide (lowP r ≤ p)).length ≤ 1000 := Nat.le_trans (List.length_filter_le _ _) (by rw [upTo_len]; omega)
        have hyes : lowP r ≤ (j : Int) → Gives (gApp 5 [] (f2 dAdd (fVar 6) (fTup (fCons (fVar 7) fNil))) [.val c, .val c', .val (.int B.length), .val (.lst (rows.map eTup)), .val (.int i), .own ((done ++ ((upTo 0 (j : Int)).filter fun p => decide (lowP r ≤ p)).map fun p => r ++ [p]).map eTup), .val (eTup r), .val (.int j)])
            (isNx fun ρ => j + 1 ≤ (2 * (B.length : Int) + 1).toNat ∧ ∃ (o7 : Slot), ρ = [.val c, .val c', .val (.int B.length), .val (.lst (rows.map eTup)), .val (.int i), .own ((done ++ ((upTo 0 ((j + 1 : Nat) : Int)).filter fun p => decide (lowP r ≤ p)).map fun p => r ++ [p]).map eTup), .val (eTup r), o7]) := fun hle => by
          exists add_tup
          refine gives_some ⟨hj2, .val (.int j), ?_⟩
          rw [upTo_snoc, List.filter_append, List.filter_cons_of_pos (by simpa using hle), List.filter_nil, List.map_append (l₁ := (upTo 0 (j : Int)).filter _), ← List.append_assoc, List.map_append (l₁ := done ++ _)]
          rfl
        have hno : ¬ lowP r ≤ (j : Int) → Gives (some (Out.nx [.val c, .val c', .val (.int B.length), .val (.lst (rows.map eTup)), .val (.int i), .own ((done ++ ((upTo 0 (j : Int)).filter fun p => decide (lowP r ≤ p)).map fun p => r ++ [p]).map eTup), .val (eTup r), .val (.int j)]))
            (isNx fun ρ => j + 1 ≤ (2 * (B.length : Int) + 1).toNat ∧ ∃ (o7 : Slot), ρ = [.val c, .val c', .val (.int B.length), .val (.lst (rows.map eTup)), .val (.int i), .own ((done ++ ((upTo 0 ((j + 1 : Nat) : Int)).filter fun p => decide (lowP r ≤ p)).map fun p => r ++ [p]).map eTup), .val (eTup r), o7]) := fun hle => by
          refine gives_some ⟨hj2, .val (.int j), ?_⟩
          rw [upTo_snoc, List.filter_append, List.filter_cons_of_neg (by simpa using hle), List.filter_nil, List.append_nil]
        rcases snoc_or r with hr0 | ⟨q, p, hr0⟩
        · have hlow : lowP r ≤ (j : Int) := by rw [hr0, lowP_nil]; omega
          have hlen : dLen [eTup r] = some (.int 0) := by rw [hr0]; rfl
          exists hlen, decide_true
          exact hyes hlow
        · have hlen : dLen [eTup r] = some (.int r.length) := len_tup r
          have hlast : dIx (eTup r) (.int (-1)) = some (.int p) := by rw [hr0]; exact ix_last q p
          have hne : decide ((r.length : Int) = 0) = false := decide_eq_false (by rw [hr0, List.length_append, List.length_singleton]; omega)
          have hlow : lowP r = p + p % 2 := by rw [hr0, lowP_snoc]
          exists hlen, hne, hlast
          by_cases h1 : p < (j : Int)
          · rw [decide_eq_true h1]
            walk_at "vm"
            exact hyes (by omega)
          · rw [decide_eq_false h1]
            exists hlast
            by_cases h2 : (j : Int) = p
            · rw [decide_eq_true h2]
              walk_at "vm"
              by_cases h3 : (j : Int) % 2 = 0
              · rw [decide_eq_true h3]
                walk_at "vm"
                exact hyes (by omega)
              · rw [decide_eq_false h3]
                walk_at "vm"
                exact hno (by omega)
            · rw [decide_eq_false h2]
              walk_at "vm"
              exact hno (by omega)
      · intro o ho
        cases o with
        | nx ρ =>
          obtain ⟨_, o7, rfl⟩ := ho
          refine ⟨.val (eTup r), o7, ?_⟩
          rw [List.length_map, List.length_range, show (((2 * (B.length : Int) + 1).toNat : Nat) : Int) = 2 * (B.length : Int) + 1 by omega, filter_upTo hnn.1]
        | _ => exact ho
    · rintro ρ ⟨o6, o7, rfl⟩
      rw [List.length_map, List.take_length]
      walk_at "vm"
      exact gives_some ⟨hi2, _, _, _, _, rfl⟩
  · rintro ρ ⟨hi, o4, o5, o6, o7, rfl⟩
    walk_at "vm"
    exact gives_some rfl
end VM
/-! K03c -/
namespace VM
open PySem PySem.Spec PyProof.Rows L2

/-! ### a dict by the items of an ascending list -/
def rkG (g : Nat → Int → D) : Nat → List Int → List (Key × D)
  | _, [] => []
  | k, v :: r => (.inl v, g k v) :: rkG g (k + 1) r
theorem rkG_snoc (g : Nat → Int → D) : ∀ (s : List Int) (k : Nat) (v : Int), rkG g k (s ++ [v]) = rkG g k s ++ [(.inl v, g (k + s.length) v)]
  | [], k, v => rfl
  | w :: r, k, v => by
    rw [List.cons_append, rkG, rkG, rkG_snoc g r (k + 1) v, List.cons_append, List.length_cons, show k + 1 + r.length = k + (r.length + 1) by omega]
theorem rkG_keys (g : Nat → Int → D) : ∀ (s : List Int) (k : Nat), ∀ p ∈ rkG g k s, ∃ v ∈ s, p.1 = .inl v
  | [], _, p, h => by cases h
  | w :: r, k, p, h => by
    rcases List.mem_cons.mp h with rfl | h
    · exact ⟨w, List.mem_cons_self, rfl⟩
    · obtain ⟨v, hv, e⟩ := rkG_keys g r (k + 1) p h
      exact ⟨v, List.mem_cons_of_mem _ hv, e⟩
theorem rkG_len (g : Nat → Int → D) : ∀ (s : List Int) (k : Nat), (rkG g k s).length = s.length
  | [], _ => rfl
  | _ :: r, k => congrArg (· + 1) (rkG_len g r (k + 1))
theorem compD_enG {t : D → Env → Option Env} {h : Env → Option Bool} {fk fv : Env → Option D} {e : Env} (g : Nat → Int → D) (ht : ∀ (k : Nat) (v : Int), ∃ e1, t (.tup [.int (k : Nat), .int v]) e = some e1 ∧ h e1 = some true ∧ fk e1 = some (.int v) ∧ fv e1 = some (g k v)) :
    ∀ (s : List Int) (k : Nat) (acc : List (Key × D)), s.Nodup → (∀ p ∈ acc, ∀ v ∈ s, p.1 ≠ .inl v) → compD t h fk fv e acc (en k s) = some (acc ++ rkG g k s)
  | [], _, acc, _, _ => by rw [en, rkG, List.append_nil]; rfl
  | v :: r, k, acc, nd, hd => by
    obtain ⟨h1, h2⟩ := List.nodup_cons.mp nd
    obtain ⟨e1, a, b, c, d⟩ := ht k v
    rw [en]
    unfold compD
    rw [a, Option.bind_some, b, Option.bind_some, if_pos rfl, c, Option.bind_some]
    show ((some (Sum.inl v : Key)).bind _) = _
    rw [Option.bind_some, d, Option.bind_some, putD_new fun p hp => hd p hp v List.mem_cons_self, compD_enG g ht r (k + 1) _ h2 fun p hp w hw => ?_, rkG, List.append_assoc]
    · rfl
    · rcases List.mem_append.mp hp with hp | hp
      · exact hd p hp w (List.mem_cons_of_mem _ hw)
      · rw [List.mem_singleton.mp hp]
        exact fun q => h1 (by have q : v = w := Sum.inl.inj q
                              rw [q]; exact hw)
theorem rkG_val (g : Nat → Int → D) : ∀ (s : List Int) (k : Nat) (v : Int), s.Pairwise (· < ·) → v ∈ s → valD (rkG g k s) (.inl v) = some (g (k + cnt s v) v)
  | w :: r, k, v, hs, hv => by
    obtain ⟨h1, h2⟩ := List.pairwise_cons.mp hs
    unfold valD
    rw [rkG]
    by_cases e : w = v
    · subst e
      rw [List.find?_cons_of_pos (by simp), Option.map_some, cnt_cons, if_neg (by omega), cnt_zero fun y hy => by have := h1 y hy; omega]
      simp
    · rw [List.find?_cons_of_neg (by simpa using e)]
      have hv' : v ∈ r := by
        rcases List.mem_cons.mp hv with q | q
        · exact absurd q.symm e
        · exact q
      have ih := rkG_val g r (k + 1) v h2 hv'
      unfold valD at ih
      rw [ih, cnt_cons, if_pos (h1 v hv'), show k + 1 + cnt r v = k + (1 + cnt r v) by omega]
theorem en_get : ∀ (s : List Int) (k i : Nat) (x : D), (en k s)[i]? = some x → ∃ v, s[i]? = some v ∧ x = .tup [.int ((k + i : Nat) : Int), .int v]
  | [], _, _, _, e => by simp [en] at e
  | v :: r, k, 0, x, e => by
    have e := Option.some.inj e
    exact ⟨v, rfl, e.symm⟩
  | v :: r, k, i + 1, x, e => by
    obtain ⟨w, h1, h2⟩ := en_get r (k + 1) i x (by simpa [en] using e)
    exact ⟨w, by simpa using h1, by rw [h2, show k + 1 + i = k + (i + 1) by omega]⟩

/-! ### joined -/
theorem spec_joined {c c' cp : D} {xs xs' : List D} {fs es : Inp Str} {r A B : List Int} (hc : dSeq c = some xs) (ha : All2 IsMsg xs fs) (hl : fs.length ≤ 100) (hc' : dSeq c' = some xs') (ha' : All2 IsMsg xs' es) (hl' : es.length ≤ 100)
    (hp : IsInts cp r) (h : Pl r A B fs es) : m_joined [c, c', cp] = some (.lst ((made r A B fs es).map eMsg)) := by
  unfold m_joined g_joined
  have hz := sizeLine_eq
  have hAl := sortI_len (vals fs)
  have hBl := sortI_len (vals es)
  have hvA : (vals fs).length = fs.length := List.length_map ..
  have hvB : (vals es).length = es.length := List.length_map ..
  have e1 := spec_different hc ha (by omega)
  have e2 := spec_different hc' ha' (by omega)
  have hsa := h.sa
  have hsb := h.sb
  rw [← h.a] at e1 hAl
  rw [← h.b] at e2 hBl
  have henB := en_len B 0
  have henA := en_len A 0
  have hxl := ha.length
  have hxl' := ha'.length
  have d1 : dEnum [.lst (B.map .int)] = some (en 0 B) := congrArg some (enum_en _)
  have d2 : dEnum [.lst (A.map .int)] = some (en 0 A) := congrArg some (enum_en _)
  apply gives_is
  exists e1, e2, d1
  rw [compD_enG (fun k v => .int ((2 * (k : Int) + 1) * ((A.length : Int) + 1))) (fun k v => ⟨_, rfl, x_tt, ?_, ?_⟩) _ _ _ (sorted_nodup hsb) (fun p hp => by cases hp)]
  rotate_left
  · walk_at "vm"
  · walk_at "vm"
  exists d2
  refine g_in (gives_for (fun i ρ => ∃ (o7 o8 o10 : Slot), ρ = [.val c, .val c', .val cp, .val (.lst (A.map .int)), .val (.lst (B.map .int)), .val (.int ((A.length : Int) + 1)), .val (.dK (rkG (fun k v => .int ((2 * (k : Int) + 1) * ((A.length : Int) + 1))) 0 B)), o7, o8, .odK (rkG (fun k v => .int (spot ((A.length : Int) + 1) (r.getD k 0) k)) 0 (A.take i)), o10, .non, .non]) ?_ ?_ ?_)
  · exact ⟨_, _, _, rfl⟩
  · rintro i x ρ hx ⟨o7, o8, o10, rfl⟩
    obtain ⟨v, hv, rfl⟩ := en_get A 0 i x hx
    rw [Nat.zero_add]
    have hi := (List.getElem?_eq_some_iff.mp hv).1
    have hri : r[i]? = some (r.getD i 0) := by rw [List.getD_eq_getElem?_getD, List.getElem?_eq_getElem (by rw [h.len]; exact hi)]; rfl
    have eix := hp.ix hri
    refine gives_some ?_
    exists eix
    have hnew : ∀ p ∈ rkG (fun k v => D.int (spot ((A.length : Int) + 1) (r.getD k 0) k)) 0 (A.take i), p.1 ≠ .inl v := fun p hp q => by
      obtain ⟨w, hw, e⟩ := rkG_keys _ _ _ p hp
      rw [e] at q
      have q : w = v := Sum.inl.inj q
      subst q
      obtain ⟨j, hj⟩ := List.mem_iff_getElem?.mp hw
      rw [List.getElem?_take] at hj
      split at hj
      · have a := sorted_at hsa hj
        have b := sorted_at hsa hv
        omega
      · cases hj
    have hput : ∀ z, z = spot ((A.length : Int) + 1) (r.getD i 0) i → putS (.int v) (.int z) (.odK (rkG (fun k v => .int (spot ((A.length : Int) + 1) (r.getD k 0) k)) 0 (A.take i))) = some (.odK (rkG (fun k v => .int (spot ((A.length : Int) + 1) (r.getD k 0) k)) 0 (A.take (i + 1)))) := fun z hz' => by
      subst hz'
      simp only [putS, toKey, Option.bind_some]
      rw [if_pos (by rw [rkG_len, List.length_take]; omega), putD_new hnew, take_snoc hv, rkG_snoc, List.length_take, Nat.min_eq_left (by omega), Nat.zero_add]
    by_cases hodd : r.getD i 0 % 2 = 1
    · rw [decide_eq_true hodd]
      exists hput _ (by unfold spot; rw [if_pos hodd])
      exact gives_some ⟨_, _, _, rfl⟩
    · rw [decide_eq_false hodd]
      exists hput _ (by unfold spot; rw [if_neg hodd])
      exact gives_some ⟨_, _, _, rfl⟩
  · rintro ρ ⟨o7, o8, o10, rfl⟩
    rw [henA, List.take_length]
    exists hc
    rw [comp_all (R := IsMsg) (φ := fun m : Str × Int => eMsg (m.1, VM.e1 ((A.length : Int) + 1) r A m.2)) ha]
    rotate_left
    · intro x m hx hm
      refine ⟨_, hx.eTL .., x_tt, ?_⟩
      have hv := rkG_val (fun k v => D.int (spot ((A.length : Int) + 1) (r.getD k 0) k)) A 0 m.2 hsa (h.ma (mem_vals hm))
      have hg : dGetI (.dK (rkG (fun k v => D.int (spot ((A.length : Int) + 1) (r.getD k 0) k)) 0 A)) (.int m.2) = some (.int (VM.e1 ((A.length : Int) + 1) r A m.2)) := by
        show valD (κ := Key) _ (Sum.inl m.2) = _
        rw [hv, Nat.zero_add]
        rfl
      exists hg
      rfl
    exists hc'
    rw [comp_all (R := IsMsg) (φ := fun m : Str × Int => eMsg (m.1, VM.e2 ((A.length : Int) + 1) B m.2)) ha']
    rotate_left
    · intro x m hx hm
      refine ⟨_, hx.eTL .., x_tt, ?_⟩
      have hv := rkG_val (fun k v => D.int ((2 * (k : Int) + 1) * ((A.length : Int) + 1))) B 0 m.2 hsb (h.mb (mem_vals hm))
      have hg : dGetI (.dK (rkG (fun k v => D.int ((2 * (k : Int) + 1) * ((A.length : Int) + 1))) 0 B)) (.int m.2) = some (.int (VM.e2 ((A.length : Int) + 1) B m.2)) := by
        show valD (κ := Key) _ (Sum.inl m.2) = _
        rw [hv, Nat.zero_add]
        rfl
      exists hg
      rfl
    have ej : (fs.map fun m : Str × Int => eMsg (m.1, VM.e1 ((A.length : Int) + 1) r A m.2)) ++ (es.map fun m : Str × Int => eMsg (m.1, VM.e2 ((A.length : Int) + 1) B m.2)) = (jn r A B fs es).map eMsg := by
      unfold jn mapV
      rw [List.map_append, List.map_map, List.map_map]
      rfl
    have hjl : (jn r A B fs es).length ≤ 4000 := by unfold jn mapV; rw [List.length_append, List.length_map, List.length_map]; omega
    have hd := spec_dense (c := .lst ((jn r A B fs es).map eMsg)) rfl (isMsgs _) hjl
    exists ej, hd
    exact gives_some rfl

/-! ### _law_joined -/
theorem spec__law_joined {c c' cp : D} {xs xs' : List D} {fs es : Inp Str} {r A B : List Int} (hc : dSeq c = some xs) (ha : All2 IsMsg xs fs) (hl : fs.length ≤ 80) (hc' : dSeq c' = some xs') (ha' : All2 IsMsg xs' es) (hl' : es.length ≤ 80)
    (hp : IsInts cp r) (h : Pl r A B fs es) : m__law_joined [c, c', cp] = some (.lst ((made r A B fs es).map eMsg)) := by
  unfold m__law_joined g__law_joined
  have hz := sizeLine_eq
  have hAl := sortI_len (vals fs)
  have hBl := sortI_len (vals es)
  have hvA : (vals fs).length = fs.length := List.length_map ..
  have hvB : (vals es).length = es.length := List.length_map ..
  have e1 := spec__law_distinct hc ha (by omega)
  have e2 := spec__law_distinct hc' ha' (by omega)
  have hsa := h.sa
  have hsb := h.sb
  rw [← h.a] at e1 hAl
  rw [← h.b] at e2 hBl
  have hxl := ha.length
  have hxl' := ha'.length
  have fe : ∀ x ∈ A, f100 ((A.length : Int) + 1) (VM.e1 ((A.length : Int) + 1) r A x) = 100 * (at_ r A x / 2) + if at_ r A x % 2 = 1 then 100 else (cnt A x : Int) + 1 := fun x hx => by
    obtain ⟨a1, a2⟩ := spot_div (p := at_ r A x) (h.wid hx)
    unfold f100
    rw [e1_eq, a1]
    by_cases q : at_ r A x % 2 = 1
    · rw [if_pos q, if_pos q]
    · rw [if_neg q, if_neg q, a2 (by have := h.range hx; omega)]
  have fe2 : ∀ y, f100 ((A.length : Int) + 1) (VM.e2 ((A.length : Int) + 1) B y) = 100 + 100 * (cnt B y : Int) := fun y => by
    obtain ⟨a1, a2⟩ := spot_div (w := (A.length : Int) + 1) (p := 2 * (cnt B y : Int) + 1) (k := 0) (by omega)
    unfold f100
    rw [e2_spot, a1, if_pos (by omega)]
    omega
  apply gives_is
  exists e1, e2, hc
  refine g_in (gives_for (fun i ρ => ∃ (o6 o7 o9 : Slot), ρ = [.val c, .val c', .val cp, .val (.lst (A.map .int)), .val (.lst (B.map .int)), .own (((mapV (fun x => f100 ((A.length : Int) + 1) (VM.e1 ((A.length : Int) + 1) r A x)) fs).take i).map eMsg), o6, o7, .non, o9]) ?_ ?_ ?_)
  · exact ⟨_, _, _, rfl⟩
  · rintro i x ρ hx ⟨o6, o7, o9, rfl⟩
    obtain ⟨m, hm, im⟩ := ha.get hx
    have hmA := h.ma (mem_vals (List.mem_of_getElem? hm))
    have hfi : (mapV (fun x => f100 ((A.length : Int) + 1) (VM.e1 ((A.length : Int) + 1) r A x)) fs)[i]? = some (m.1, f100 ((A.length : Int) + 1) (VM.e1 ((A.length : Int) + 1) r A m.2)) := by unfold mapV; rw [List.getElem?_map, hm]; rfl
    have hml : ((mapV (fun x => f100 ((A.length : Int) + 1) (VM.e1 ((A.length : Int) + 1) r A x)) fs).take i).length ≤ 100 := by unfold mapV; rw [List.length_take, List.length_map]; omega
    rw [take_snoc hfi, fe _ hmA]
    generalize (mapV (fun x => f100 ((A.length : Int) + 1) (VM.e1 ((A.length : Int) + 1) r A x)) fs).take i = acc at hml
    refine gives_some ?_
    walk_at "vm"
    rw [comp_sel (R := fun (d : D) (v : Int) => d = .int v) (p := fun v => decide (v < m.2)) (φ := D.int) (isInt2 _)]
    rotate_left
    · rintro _ v rfl hv
      refine ⟨_, t_eN, ?_, fun _ => ?_⟩
      · exists im.ix1
      · walk_at "vm"
    have hcnt : (A.filter fun v => decide (v < m.2)).length = cnt A m.2 := rfl
    have eix := hp.ix (h.at hmA)
    exists hcnt, eix, im.ix0
    obtain ⟨q0, q1⟩ := h.range hmA
    by_cases hodd : at_ r A m.2 % 2 = 1
    · exists hodd, im.ix0
      exact gives_some ⟨_, _, _, by rw [List.map_append]; rfl⟩
    · have hev : at_ r A m.2 % 2 = 0 := by omega
      exists hev, im.ix0
      exact gives_some ⟨_, _, _, by rw [List.map_append]; rfl⟩
  · rintro ρ ⟨o6, o7, o9, rfl⟩
    have hml : (mapV (fun x => f100 ((A.length : Int) + 1) (VM.e1 ((A.length : Int) + 1) r A x)) fs).length = fs.length := by unfold mapV; rw [List.length_map]
    rw [List.take_of_length_le (by rw [hml]; omega)]
    exists hc'
    rw [comp_all (R := IsMsg) (φ := fun m : Str × Int => eMsg (m.1, 100 + 100 * (cnt B m.2 : Int))) ha']
    rotate_left
    · intro x m hx hm
      refine ⟨_, t_eN, x_tt, ?_⟩
      exists hx.ix0
      rw [comp_sel (R := fun (d : D) (v : Int) => d = .int v) (p := fun v => decide (v < m.2)) (φ := D.int) (isInt2 _)]
      rotate_left
      · rintro _ v rfl hv
        refine ⟨_, t_eN, ?_, fun _ => ?_⟩
        · exists hx.ix1
        · walk_at "vm"
      have hcnt : (B.filter fun v => decide (v < m.2)).length = cnt B m.2 := rfl
      exists hcnt
      rfl
    have ej : (mapV (fun x => f100 ((A.length : Int) + 1) (VM.e1 ((A.length : Int) + 1) r A x)) fs).map eMsg ++ (es.map fun m : Str × Int => eMsg (m.1, 100 + 100 * (cnt B m.2 : Int))) = (mapV (f100 ((A.length : Int) + 1)) (jn r A B fs es)).map eMsg := by
      unfold jn
      rw [mapV_append, mapV_mapV, mapV_mapV, List.map_append]
      congr 1
      unfold mapV
      rw [List.map_map]
      exact List.map_congr_left fun m hm => by
        show eMsg (m.1, 100 + 100 * (cnt B m.2 : Int)) = eMsg (m.1, f100 ((A.length : Int) + 1) (VM.e2 ((A.length : Int) + 1) B m.2))
        rw [fe2]
    have hjl : (mapV (f100 ((A.length : Int) + 1)) (jn r A B fs es)).length ≤ 4000 := by unfold jn mapV; rw [List.length_map, List.length_append, List.length_map, List.length_map]; omega
    have hd := spec__law_dense (c := .lst ((mapV (f100 ((A.length : Int) + 1)) (jn r A B fs es)).map eMsg)) rfl (isMsgs _) hjl
    rw [h.other (by omega)] at hd
    have hml2 : ((mapV (fun x => f100 ((A.length : Int) + 1) (VM.e1 ((A.length : Int) + 1) r A x)) fs).map eMsg).length ≤ 100 := by rw [List.length_map, hml]; omega
    exists ej, hd
    exact gives_some rfl

/-! ### _law_positions -/
theorem spec__law_positions {ms : Inp Str} (n : Nat) (hl : ms.length ≤ 4000) : m__law_positions [.lst (ms.map eMsg), .int n] = some (.tpd ((posns ms n).map .int)) := by
  unfold m__law_positions g__law_positions
  have hz := sizeLine_eq
  have et : List.take n (ms.map eMsg) = (ms.take n).map eMsg := (List.map_take ..).symm
  have ed : List.drop n (ms.map eMsg) = (ms.drop n).map eMsg := (List.map_drop ..).symm
  have e1 := spec__law_distinct (c := .lst ((ms.take n).map eMsg)) rfl (isMsgs _) (by rw [List.length_take]; omega)
  have e2 := spec__law_distinct (c := .lst ((ms.drop n).map eMsg)) rfl (isMsgs _) (by rw [List.length_drop]; omega)
  have hA := sortI_len (vals (ms.take n))
  have hB := sortI_len (vals (ms.drop n))
  have hvA : (vals (ms.take n)).length = min n ms.length := by unfold vals; rw [List.length_map, List.length_take]
  have hvB : (vals (ms.drop n)).length = ms.length - n := by unfold vals; rw [List.length_map, List.length_drop]
  apply gives_is
  exists cut_to, cut_from, et, ed, e1, e2
  rw [comp_all (R := fun (d : D) (v : Int) => d = .int v) (φ := fun v => .int (posOf (vals (ms.drop n)) v)) (isInt2 _)]
  rotate_left
  · rintro _ v rfl hv
    refine ⟨_, t_eN, x_tt, ?_⟩
    have ep := spec__law_position (c := .lst ((sortI (vals (ms.drop n))).map .int)) (.inl rfl) (sorted_nodup (sortI_sorted _)) (vs := vals (ms.drop n)) (fun z => sortI_mem z _) (by omega) v
    exists ep
  walk_at "vm"
  refine gives_some ?_
  unfold posns
  rw [List.map_map]
  rfl

/-! ### _law_spread -/
theorem spec__law_spread {c : D} {xs : List D} {ms : Inp Str} {row : List Int} (hc : dSeq c = some xs) (ha : All2 IsMsg xs ms) (hl : ms.length ≤ 4000) (hr : (sortI (vals ms)).length ≤ row.length) (h0 : ∀ z ∈ row, 0 ≤ z) :
    Gives (m__law_spread [c, .lst (row.map .int)]) fun d => ∃ w : Int → Int, d = .lst ((mapV w ms).map eMsg) ∧ Mono w (vals ms) := by
  unfold m__law_spread g__law_spread
  have hz := sizeLine_eq
  have hxl := ha.length
  have hvl : (vals ms).length = ms.length := List.length_map ..
  have hA := sortI_len (vals ms)
  have e1 := spec__law_distinct hc ha hl
  have hsa := sortI_sorted (vals ms)
  have hmA : ∀ x ∈ vals ms, x ∈ sortI (vals ms) := fun x hx => (sortI_mem _ _).mpr hx
  generalize sortI (vals ms) = A at hr hA e1 hsa hmA
  exists e1
  refine g_in (gives_for (fun i ρ => i ≤ A.length ∧ ∃ (wide : List Int) (last : Int) (o5 : Slot), ρ = [.val c, .val (.lst (row.map .int)), .val (.lst (A.map .int)), .own (wide.map .int), .val (.int last), o5, .non, .non] ∧ wide.length = i ∧ wide.Pairwise (· < ·) ∧ ∀ z ∈ wide, z ≤ last) ?_ ?_ ?_)
  · exact ⟨Nat.zero_le _, [], _, _, rfl, rfl, List.Pairwise.nil, by simp⟩
  · rintro i x ρ hx ⟨hi, wide, last, o5, rfl, hw, hs, hm⟩
    obtain ⟨hi2, rfl⟩ := range_get hx
    have hir : i < row.length := by omega
    have eix : dIx (.lst (row.map .int)) (.int (i : Int)) = some (.int row[i]) := d_ix_lst (atI_nat (by rw [List.getElem?_map, List.getElem?_eq_getElem hir]; rfl))
    have hpos := h0 _ (List.getElem_mem hir)
    refine gives_some ?_
    exists eix
    refine gives_some ⟨hi2, wide ++ [last + 1 + row[i] % 4], _, _, by rw [List.map_append]; rfl, by simp [hw], ?_, fun z hz => ?_⟩
    · refine List.pairwise_append.mpr ⟨hs, List.pairwise_singleton _ _, fun a ha b hb => ?_⟩
      rw [List.mem_singleton.mp hb]
      have := hm a ha
      omega
    · rcases List.mem_append.mp hz with hz | hz
      · have := hm z hz
        omega
      · rw [List.mem_singleton.mp hz]; omega
  · rintro ρ ⟨_, wide, last, o5, rfl, hw, hs, hm⟩
    have hw : wide.length = A.length := by simpa using hw
    exists hc
    rw [comp_all (R := IsMsg) (φ := fun m : Str × Int => eMsg (m.1, wide.getD (cnt A m.2) 0)) ha]
    rotate_left
    · intro x m hx hm
      refine ⟨_, t_eN, x_tt, ?_⟩
      exists hx.ix0
      rw [comp_sel (R := fun (d : D) (v : Int) => d = .int v) (p := fun v => decide (v < m.2)) (φ := D.int) (isInt2 _)]
      rotate_left
      · rintro _ v rfl hv
        refine ⟨_, t_eN, ?_, fun _ => ?_⟩
        · exists hx.ix1
        · walk_at "vm"
      have hcnt : (A.filter fun v => decide (v < m.2)).length = cnt A m.2 := rfl
      have hlt := cnt_lt_len hsa (hmA _ (mem_vals hm))
      have eix : dIx (.lst (wide.map .int)) (.int (cnt A m.2 : Nat)) = some (.int (wide.getD (cnt A m.2) 0)) := d_ix_lst (atI_nat (by rw [List.getElem?_map, List.getD_eq_getElem?_getD, List.getElem?_eq_getElem (by omega)]; rfl))
      exists hcnt, eix
      rfl
    walk_at "vm"
    refine gives_some ⟨fun x => wide.getD (cnt A x) 0, by unfold mapV; rw [List.map_map]; rfl, fun x hx y hy hxy => ?_⟩
    have hxl := cnt_lt_len hsa (hmA _ hx)
    have hyl := cnt_lt_len hsa (hmA _ hy)
    have hlt := cnt_lt (sorted_nodup hsa) (hmA _ hx) hxy
    show wide.getD (cnt A x) 0 < wide.getD (cnt A y) 0
    rw [List.getD_eq_getElem?_getD, List.getD_eq_getElem?_getD, List.getElem?_eq_getElem (by omega), List.getElem?_eq_getElem (by omega)]
    exact List.pairwise_iff_getElem.mp hs _ _ _ _ hlt

/-! ### _law_small -/
theorem sortI_bound {vs : List Int} {m : Int} (h : ∀ v ∈ vs, 0 ≤ v ∧ v < m) : (sortI vs).length ≤ m.toNat := by
  have := nodup_le (l := sortI vs) (m := upTo 0 m) (sorted_nodup (sortI_sorted vs)) fun z hz => upTo_mem.mpr (h z ((sortI_mem _ _).mp hz))
  rw [upTo_len] at this
  omega
theorem spec__law_small (ws : List Str) (cell : Int) (hw : 0 < ws.length) :
    Gives (m__law_small [.tpd (ws.map .str), .int cell]) fun d => ∃ ms : Inp Str, d = .lst (ms.map eMsg) ∧ ms.length ≤ 6 ∧ NamesIn ws ms ∧ (sortI (vals ms)).length ≤ 5 := by
  unfold m__law_small g__law_small
  have hz := sizeLine_eq
  have base : ∀ (n : Nat) (m : Int), n ≤ 6 → 0 < m → m ≤ 5 → ∃ ms0 : Inp Str, m__law_input [.tpd (ws.map .str), .int cell, .int n] = some (.lst (ms0.map eMsg)) ∧ ms0.length = n ∧ (mapV (fun v => v % m) ms0).length ≤ 6 ∧ NamesIn ws (mapV (fun v => v % m) ms0) ∧ (sortI (vals (mapV (fun v => v % m) ms0))).length ≤ 5 := fun n m hn h0 h5 => by
    obtain ⟨d, e, ms0, rfl, hl, hn0⟩ := spec__law_input ws cell n hw (by omega)
    refine ⟨ms0, e, hl, by unfold mapV; rw [List.length_map]; omega, fun k hk => ?_, ?_⟩
    · obtain ⟨q, hq, rfl⟩ := List.mem_map.mp hk
      exact hn0 q hq
    · rw [vals_mapV]
      have := sortI_bound (vs := (vals ms0).map fun v => v % m) (m := m) fun v hv => by
        obtain ⟨q, _, rfl⟩ := List.mem_map.mp hv
        exact ⟨Int.emod_nonneg _ (by omega), Int.emod_lt_of_pos _ h0⟩
      omega
  obtain ⟨m1, e1, l1, a1, b1, c1⟩ := base (4 + cell / 7 % 3).toNat 5 (by omega) (by decide) (by decide)
  obtain ⟨m2, e2, l2, a2, b2, c2⟩ := base (cell / 7 % 5).toNat 3 (by omega) (by decide) (by decide)
  rw [show (((4 + cell / 7 % 3).toNat : Nat) : Int) = 4 + cell / 7 % 3 by omega] at e1
  rw [show (((cell / 7 % 5).toNat : Nat) : Int) = cell / 7 % 5 by omega] at e2
  walk_at "vm"
  refine g_in (g_wayB (fun hq => ?_) (fun hq => ?_))
  · exists e1
    rw [comp_all (R := IsMsg) (φ := fun m : Str × Int => eMsg (m.1, m.2 % 5)) (isMsgs m1)]
    rotate_left
    · intro x m hx _
      refine ⟨_, t_eN, x_tt, ?_⟩
      exists hx.ix0, hx.ix1
      rfl
    walk_at "vm"
    exact gives_some ⟨mapV (fun v => v % 5) m1, by unfold mapV; rw [List.map_map]; rfl, a1, b1, c1⟩
  · exists e2
    rw [comp_all (R := IsMsg) (φ := fun m : Str × Int => eMsg (m.1, m.2 % 3)) (isMsgs m2)]
    rotate_left
    · intro x m hx _
      refine ⟨_, t_eN, x_tt, ?_⟩
      exists hx.ix0, hx.ix1
      rfl
    walk_at "vm"
    exact gives_some ⟨mapV (fun v => v % 3) m2, by unfold mapV; rw [List.map_map]; rfl, a2, b2, c2⟩
end VM
/-! F_k03 -/
namespace VM
open PySem PySem.Spec PyProof.Rows L2

theorem nice_tpd {n : Nat} {ds : List D} (h : ∀ d ∈ ds, Nice n d) : Nice (n + 1) (.tpd ds) := by
  obtain ⟨a, b, c⟩ := nices h
  refine ⟨by rw [isData]; exact a, by rw [toPy, PyData.canLay0]; exact b, ?_⟩
  rw [toPy, PyData.depth]
  omega
theorem nice_tpdI (r : List Int) : Nice 1 (.tpd (r.map .int)) := nice_tpd fun d hd => by
  obtain ⟨i, _, rfl⟩ := List.mem_map.mp hd
  exact nice_int _
theorem d_ne_tpd (a b : List Int) : dNe (.tpd (a.map .int)) (eTup b) = some (.bl (!decide (a = b))) := by
  unfold dNe
  have e : toPy (.tpd (a.map .int)) = toPy (eTup a) := by unfold eTup; rw [toPy, toPy]
  rw [if_pos ⟨(nice_tpdI a).ok (by decide), (nice_tupI b).ok (by decide)⟩, e, eqv_tup a b]
theorem d_in_msgs {m : Inp Str} {l : List (Inp Str)} (hm : Words m) (hl : ∀ k ∈ l, Words k) : dIn (.lst (m.map eMsg)) (.lst (l.map eMsgs)) = some (.bl (decide (m ∈ l))) := by
  unfold dIn dInB
  dsimp only
  rw [if_neg (by intro h; have := h.1; cases this), if_pos ⟨(nice_msgs hm).ok (by decide), (nice_inputs hl).ok (by decide)⟩]
  show some (D.bl _) = _
  congr 2
  have hq : ∀ k : Inp Str, PyData.eqv (toPy (eMsgs k)) (toPy (.lst (m.map eMsg))) = decide (k = m) := fun k => eqv_lst eqv_msg k m
  clear hl
  induction l with
  | nil => rfl
  | cons k r ih =>
    rw [List.map_cons, toPys, List.any_cons, ih, hq]
    by_cases e : k = m
    · subst e; simp
    · have e' : ¬ m = k := fun z => e z.symm
      simp [e, e']
theorem count_one {α : Type} [DecidableEq α] {l : List α} (hn : l.Nodup) (x : α) (hx : x ∈ l) : (l.filter fun y => decide (y = x)).length = 1 := by
  induction l with
  | nil => cases hx
  | cons y r ih =>
    obtain ⟨h1, h2⟩ := List.nodup_cons.mp hn
    rw [List.filter_cons]
    by_cases e : y = x
    · subst e
      rw [if_pos (by simp), List.length_cons, List.length_eq_zero_iff.mpr]
      rw [List.filter_eq_nil_iff]
      intro z hz
      have : z ≠ y := fun q => h1 (by rw [← q]; exact hz)
      simpa using this
    · rw [if_neg (by simpa using e)]
      exact ih h2 ((List.mem_cons.mp hx).resolve_left fun q => e q.symm)
theorem few_placings {a b : Nat} (h : (a ≤ 3 ∧ b ≤ 5) ∨ (a ≤ 5 ∧ b ≤ 2)) (n : Nat) (hn : n ≤ a) : (plc (2 * (b : Int)) n).length ≤ 4000 := by
  have h1 := plc_len (2 * (b : Int)) (by omega) n
  rw [show (2 * (b : Int) + 1).toNat = 2 * b + 1 by omega] at h1
  refine Nat.le_trans h1 ?_
  rcases h with ⟨h1, h2⟩ | ⟨h1, h2⟩
  · exact Nat.le_trans (Nat.le_trans (Nat.pow_le_pow_left (show 2 * b + 1 ≤ 11 by omega) n) (Nat.pow_le_pow_right (show 0 < 11 by decide) (show n ≤ 3 by omega))) (by decide)
  · exact Nat.le_trans (Nat.le_trans (Nat.pow_le_pow_left (show 2 * b + 1 ≤ 5 by omega) n) (Nat.pow_le_pow_right (show 0 < 5 by decide) (show n ≤ 5 by omega))) (by decide)
theorem sortI_take_len (vs : List Int) (n : Nat) : (sortI (vs.take n)).length ≤ n := Nat.le_trans (sortI_len _) (by rw [List.length_take]; omega)

theorem fin_k03 (ns : List Int) (h : ns.length ≤ 63) : m_law_k03 [.ro (ns.map .int)] = some (.bl true) := by
  unfold m_law_k03 g_law_k03
  have hz := sizeLine_eq
  have c0 : m__law_cell [.ro (ns.map .int), .int 0] = some (.int (ns.getD 0 0)) := spec__law_cell ns 0
  have c1 : m__law_cell [.ro (ns.map .int), .int 1] = some (.int (ns.getD 1 0)) := spec__law_cell ns 1
  have c2 : m__law_cell [.ro (ns.map .int), .int 2] = some (.int (ns.getD 2 0)) := spec__law_cell ns 2
  have c3 : m__law_cell [.ro (ns.map .int), .int 3] = some (.int (ns.getD 3 0)) := spec__law_cell ns 3
  have c4 : m__law_cell [.ro (ns.map .int), .int 4] = some (.int (ns.getD 4 0)) := spec__law_cell ns 4
  have c5 : m__law_cell [.ro (ns.map .int), .int 5] = some (.int (ns.getD 5 0)) := spec__law_cell ns 5
  generalize ns.getD 0 0 = a0 at c0
  generalize ns.getD 1 0 = a1 at c1
  generalize ns.getD 2 0 = a2 at c2
  generalize ns.getD 3 0 = a3 at c3
  generalize ns.getD 4 0 = a4 at c4
  generalize ns.getD 5 0 = a5 at c5
  obtain ⟨d, e1, l, rfl, hl, hr⟩ := spec__law_row a0 4 (by decide)
  have e1 : m__law_row [.int a0, .int 4] = some (.lst (l.map .int)) := e1
  obtain ⟨d, e2, ws, rfl, hw, nd, hg⟩ := spec__law_words l (1 + a1 % 3).toNat (by omega) (by omega) fun z hz => (hr z hz).1
  rw [show (((1 + a1 % 3).toNat : Nat) : Int) = 1 + a1 % 3 by omega] at e2
  have hw0 : 0 < ws.length := by omega
  have hwd : ∀ w ∈ ws, Word w := fun w hm => (hg w hm).1.word
  obtain ⟨d, e3, fs, rfl, hf1, hf2, hf3⟩ := spec__law_small ws a2 hw0
  obtain ⟨d, e4, es0, rfl, hs1, hs2, hs3⟩ := spec__law_small ws a3 hw0
  have efd := spec__law_distinct (c := .lst (fs.map eMsg)) rfl (isMsgs fs) (by omega)
  apply gives_is
  exists c0, e1, c1, e2, c2, e3, c3, e4, efd
  refine g_in (g_bnd (P := isNx fun ρ => ∃ es : Inp Str, ρ = [.val (.ro (ns.map .int)), .val (.tpd (ws.map .str)), .val (.lst (fs.map eMsg)), .val (.lst (es.map eMsg)), .non, .non, .non, .non, .non, .non, .non, .non, .non, .non] ∧ es.length ≤ 6 ∧ NamesIn ws es ∧ (((sortI (vals fs)).length ≤ 3 ∧ (sortI (vals es)).length ≤ 5) ∨ ((sortI (vals fs)).length ≤ 5 ∧ (sortI (vals es)).length ≤ 2))) ?_ ?_)
  · refine g_way (fun hq => ?_) (fun hq => ?_)
    · exists cut_to
      refine gives_some ⟨es0.take 2, by rw [List.map_take], by rw [List.length_take]; omega, fun m hm => hs2 m (List.mem_of_mem_take hm), .inr ⟨hf3, ?_⟩⟩
      rw [vals_take]
      exact sortI_take_len _ _
    · have hq := of_decide_eq_false hq
      walk_at "vm"
      exact gives_some ⟨es0, rfl, hs1, hs2, .inl ⟨by omega, hs3⟩⟩
  intro o ho
  cases o with
  | rt _ => exact ho.elim
  | bk _ => exact ho.elim
  | ct _ => exact ho.elim
  | nx ρ =>
  obtain ⟨es, rfl, hel, hen, hab⟩ := ho
  have hM := fun n hn => few_placings hab n hn
  have hwf : Words fs := fun m hm => hwd _ (hf2 m hm)
  have hwe : Words es := fun m hm => hwd _ (hen m hm)
  have ep1 := spec__law_placings (c := .lst (fs.map eMsg)) rfl (isMsgs fs) (by omega) (c' := .lst (es.map eMsg)) rfl (isMsgs es) (by omega) hM
  have ep2 := spec_placings (c := .lst (fs.map eMsg)) rfl (isMsgs fs) (by omega) (c' := .lst (es.map eMsg)) rfl (isMsgs es) (by omega) hM
  have ep3 := spec_placings (c := .tpd (fs.map lMsg)) rfl (isMsgsL fs) (by omega) (c' := .lst (es.map eMsg)) rfl (isMsgs es) (by omega) hM
  have hrows : ∀ r ∈ plc (2 * ((sortI (vals es)).length : Int)) (sortI (vals fs)).length, Pl r (sortI (vals fs)) (sortI (vals es)) fs es := fun r hr => by
    obtain ⟨h1, h2⟩ := (plc_ok _ r).mp hr
    exact ⟨rfl, rfl, h1, h2⟩
  have hnd := plc_nodup (2 * ((sortI (vals es)).length : Int)) (sortI (vals fs)).length
  have hin : ∀ r, OkP (2 * ((sortI (vals es)).length : Int)) r → r.length = (sortI (vals fs)).length → r ∈ plc (2 * ((sortI (vals es)).length : Int)) (sortI (vals fs)).length := fun r h1 h2 => (plc_ok _ r).mpr ⟨h1, h2⟩
  have hrl := hM _ (Nat.le_refl _)
  have hBl : (sortI (vals es)).length ≤ 5 := by omega
  have hmw : ∀ r, Words (made r (sortI (vals fs)) (sortI (vals es)) fs es) := fun r => words_dense ((words_mapV hwf _).append (words_mapV hwe _))
  have hml : ∀ r, (made r (sortI (vals fs)) (sortI (vals es)) fs es).length ≤ 20 := fun r => by
    unfold made jn mapV
    rw [dense_len, List.length_append, List.length_map, List.length_map]
    omega
  generalize hA : sortI (vals fs) = A at *
  generalize hB : sortI (vals es) = B at *
  generalize plc (2 * (B.length : Int)) A.length = rows at *
  have hw2 : ∀ k ∈ [fs, es], Words k := fun k hk => by
    rcases List.mem_cons.mp hk with rfl | hk
    · exact hwf
    · rw [List.mem_singleton.mp hk]; exact hwe
  have hgiven : dNe (.lst [.lst (fs.map eMsg), .lst (es.map eMsg)]) (.lst [.lst (fs.map eMsg), .lst (es.map eMsg)]) = some (.bl (!decide ([fs, es] = [fs, es]))) :=
    dNe_enc (f := fun l : List (Inp Str) => D.lst (l.map eMsgs)) eqv_inputs (a := [fs, es]) (b := [fs, es]) ((nice_inputs hw2).ok (by decide)) ((nice_inputs hw2).ok (by decide))
  exists ep1, ep2, d_ne_rows, decide_true
  rw [comp_all (R := IsMsg) (φ := lMsg) (isMsgs fs)]
  rotate_left
  · intro x m hx _
    refine ⟨_, t_eN, x_tt, ?_⟩
    rcases hx with rfl | rfl
    · exists list_e
    · walk_at "vm"
      rfl
  exists ep3, d_ne_rows, decide_true
  refine g_in (gives_for (fun i ρ => ∃ (o9 o10 : Slot), ρ = [.val (.ro (ns.map .int)), .val (.tpd (ws.map .str)), .val (.lst (fs.map eMsg)), .val (.lst (es.map eMsg)), .val (.lst (rows.map eTup)), .val (.lst [.lst (fs.map eMsg), .lst (es.map eMsg)]), .val (.lst (rows.map eTup)), .non, .own (((rows.take i).map fun r => made r A B fs es).map eMsgs), o9, o10, .non, .non, .non]) ?_ ?_ ?_)
  · exact ⟨_, _, rfl⟩
  · rintro i x ρ hx ⟨o9, o10, rfl⟩
    rw [List.getElem?_map] at hx
    obtain ⟨r, hri, rfl⟩ := Option.map_eq_some_iff.mp hx
    have hi := (List.getElem?_eq_some_iff.mp hri).1
    have hp := hrows r (List.mem_of_getElem? hri)
    have ej1 := spec_joined (c := .lst (fs.map eMsg)) (c' := .lst (es.map eMsg)) (cp := eTup r) rfl (isMsgs fs) (by omega) rfl (isMsgs es) (by omega) (.inr rfl) hp
    have ej2 := spec__law_joined (c := .lst (fs.map eMsg)) (c' := .lst (es.map eMsg)) (cp := eTup r) rfl (isMsgs fs) (by omega) rfl (isMsgs es) (by omega) (.inr rfl) hp
    have ej3 := spec_joined (c := .lst (fs.map eMsg)) (c' := .lst (es.map eMsg)) (cp := .lst (r.map .int)) rfl (isMsgs fs) (by omega) rfl (isMsgs es) (by omega) (.inl rfl) hp
    have hmr := hmw r
    have hmlr := hml r
    have epos := spec__law_positions (ms := made r A B fs es) fs.length (by omega)
    rw [hp.posns] at epos
    have al1 := spec_alike (c := .lst (((made r A B fs es).take fs.length).map eMsg)) rfl (isMsgs _) (by rw [List.length_take]; omega) (hmr.sub fun x hx => List.mem_of_mem_take hx) (c' := .lst (fs.map eMsg)) rfl (isMsgs fs) (by omega) hwf
    rw [hp.alike1, decide_eq_true rfl] at al1
    have al2 := spec_alike (c := .lst (((made r A B fs es).drop fs.length).map eMsg)) rfl (isMsgs _) (by rw [List.length_drop]; omega) (hmr.sub fun x hx => List.mem_of_mem_drop hx) (c' := .lst (es.map eMsg)) rfl (isMsgs es) (by omega) hwe
    rw [hp.alike2, decide_eq_true rfl] at al2
    have hnew : made r A B fs es ∉ (rows.take i).map fun r => made r A B fs es := fun q => by
      obtain ⟨r', hr', e⟩ := List.mem_map.mp q
      have h' := (hrows r' (List.mem_of_mem_take hr')).posns
      have e : made r' A B fs es = made r A B fs es := e
      rw [e, hp.posns] at h'
      subst h'
      obtain ⟨j, hj⟩ := List.mem_iff_getElem?.mp hr'
      rw [List.getElem?_take] at hj
      split at hj
      · rename_i hji
        obtain ⟨j1, j2⟩ := List.getElem?_eq_some_iff.mp hj
        obtain ⟨i1, i2⟩ := List.getElem?_eq_some_iff.mp hri
        have := (List.nodup_iff_pairwise_ne.mp hnd)
        exact List.pairwise_iff_getElem.mp this j i j1 i1 hji (j2.trans i2.symm)
      · cases hj
    have hinr := d_in_msgs (l := (rows.take i).map fun r => made r A B fs es) hmr fun k hk => by
      obtain ⟨q, _, rfl⟩ := List.mem_map.mp hk
      exact hmw q
    rw [decide_eq_false hnew] at hinr
    have hlist : dList [eTup r] = some (.lst (r.map .int)) := rfl
    have htk : List.take fs.length ((made r A B fs es).map eMsg) = ((made r A B fs es).take fs.length).map eMsg := (List.map_take ..).symm
    have hdk : List.drop fs.length ((made r A B fs es).map eMsg) = ((made r A B fs es).drop fs.length).map eMsg := (List.map_drop ..).symm
    have hrt : ((rows.take i).map fun r => made r A B fs es).length ≤ 4000 := by rw [List.length_map, List.length_take]; omega
    refine gives_some ?_
    rw [take_snoc hri]
    exists ej1, ej2, d_ne_msgs hmr hmr, decide_true, epos, d_ne_tpd, cut_to, cut_from, htk, hdk, al1, al2, hinr, hlist, ej3, hgiven
    exact gives_some ⟨_, _, by simp only [List.map_append]; rfl⟩
  · rintro ρ ⟨o9, o10, rfl⟩
    rw [List.length_map, List.take_length]
    have hnr : (rows.map fun r => made r A B fs es).Nodup := by
      refine List.pairwise_map.mpr (List.Pairwise.imp_of_mem (fun {a b} ha hb hab q => hab ?_) hnd)
      have h1 := (hrows a ha).posns
      have q : made a A B fs es = made b A B fs es := q
      rw [q, (hrows b hb).posns] at h1
      exact h1.symm
    have hwr : ∀ k ∈ rows.map fun r => made r A B fs es, Words k := fun k hk => by
      obtain ⟨q, _, rfl⟩ := List.mem_map.mp hk
      exact hmw q
    have hlr : (rows.map fun r => made r A B fs es).length ≤ 4000 := by rw [List.length_map]; omega
    have hmem : ∀ w1 w2, Mono w1 (vals fs) → Mono w2 (vals es) → dense (mapV w1 fs ++ mapV w2 es) ∈ rows.map fun r => made r A B fs es := fun w1 w2 m1 m2 => by
      rw [← made_of hA.symm hB.symm m1 m2]
      have hp := pl_of hA.symm hB.symm m1 m2
      exact List.mem_map.mpr ⟨_, hin _ hp.ok hp.len, rfl⟩
    generalize (rows.map fun r => made r A B fs es) = results at hnr hwr hlr hmem
    have ecut : List.take 8 (List.drop 6 (ns.map D.int)) = ((ns.drop 6).take 8).map D.int := by rw [List.map_take, List.map_drop]
    have hcl : ((ns.drop 6).take 8).length ≤ 8 := by rw [List.length_take]; omega
    have ecells : [D.int a4, D.int a5] ++ ((ns.drop 6).take 8).map D.int = ([a4, a5] ++ (ns.drop 6).take 8).map D.int := by rw [List.map_append]; rfl
    exists c4, c5, cut_mid, ecut
    refine g_in (gives_for (fun i ρ => ∃ (o9 o10 o11 o12 o13 : Slot), ρ = [.val (.ro (ns.map .int)), .val (.tpd (ws.map .str)), .val (.lst (fs.map eMsg)), .val (.lst (es.map eMsg)), .val (.lst (rows.map eTup)), .val (.lst [.lst (fs.map eMsg), .lst (es.map eMsg)]), .val (.lst (rows.map eTup)), .non, .own (results.map eMsgs), o9, o10, o11, o12, o13]) ?_ ?_ ?_)
    · exact ⟨_, _, _, _, _, rfl⟩
    · rintro i x ρ hx ⟨o9, o10, o11, o12, o13, rfl⟩
      have hx : (([a4, a5] ++ (ns.drop 6).take 8).map D.int)[i]? = some x := hx
      rw [List.getElem?_map] at hx
      obtain ⟨v, hv, rfl⟩ := Option.map_eq_some_iff.mp hx
      obtain ⟨d, ew, l, rfl, hl, hr⟩ := spec__law_row v 12 (by decide)
      have ew : m__law_row [.int v, .int 12] = some (.lst (l.map .int)) := ew
      have el1 : List.take 6 (l.map D.int) = (l.take 6).map D.int := (List.map_take ..).symm
      have el2 : List.drop 6 (l.map D.int) = (l.drop 6).map D.int := (List.map_drop ..).symm
      obtain ⟨d, es1, w1, rfl, m1⟩ := spec__law_spread (c := .lst (fs.map eMsg)) (row := l.take 6) rfl (isMsgs fs) (by omega) (by rw [hA, List.length_take]; omega) fun z hz => (hr z (List.mem_of_mem_take hz)).1
      obtain ⟨d, es2, w2, rfl, m2⟩ := spec__law_spread (c := .lst (es.map eMsg)) (row := l.drop 6) rfl (isMsgs es) (by omega) (by rw [hB, List.length_drop]; omega) fun z hz => (hr z (List.mem_of_mem_drop hz)).1
      have eap : (mapV w1 fs).map eMsg ++ (mapV w2 es).map eMsg = (mapV w1 fs ++ mapV w2 es).map eMsg := (List.map_append ..).symm
      have hml2 : (mapV w1 fs ++ mapV w2 es).length ≤ 4000 := by unfold mapV; rw [List.length_append, List.length_map, List.length_map]; omega
      have l1 : (mapV w1 fs).length ≤ 4000 := by unfold mapV; rw [List.length_map]; omega
      have l2 : (mapV w2 es).length ≤ 4000 := by unfold mapV; rw [List.length_map]; omega
      have ed := spec__law_dense (c := .lst ((mapV w1 fs ++ mapV w2 es).map eMsg)) rfl (isMsgs _) hml2
      have hdw := words_dense ((words_mapV hwf w1).append (words_mapV hwe w2))
      have hmm := hmem w1 w2 m1 m2
      generalize dense (mapV w1 fs ++ mapV w2 es) = whole at ed hdw hmm
      refine gives_some ?_
      exists ew, cut_to, cut_from, el1, el2, es1, es2, eap, ed
      rw [comp_sel (R := fun (d : D) (k : Inp Str) => d = eMsgs k) (p := fun k => decide (k = whole)) (φ := fun _ => .int 1) (All2.of_map (R := fun (d : D) (k : Inp Str) => d = eMsgs k) (f := eMsgs) (fun _ => rfl) results)]
      rotate_left
      · rintro _ k rfl hk
        have edq : dEq (eMsgs k) (.lst (whole.map eMsg)) = some (.bl (decide (k = whole))) := d_eq_msgs (hwr k hk) hdw
        refine ⟨_, t_eN, ?_, fun _ => ?_⟩
        · exists edq
        · walk_at "vm"
      have hc1 := count_one hnr whole hmm
      exists hc1
      exact gives_some ⟨_, _, _, _, _, rfl⟩
    · rintro ρ ⟨o9, o10, o11, o12, o13, rfl⟩
      walk_at "vm"
      exact gives_some rfl
end VM
/-! T_k03 -/
namespace VM
open PySem PySem.Spec PyProof.Rows L2
def topS (i : Nat) : Stmt := PySem.Challenge.pw_leastlearnt_k03_placings.main.body.getD i (.Pass ⟨0, 0, 0, 0⟩)
/-! ### _law_cell -/
abbrev s__law_cell : Stmt := topS 8
theorem sc__law_cell : FnScope ["script", "k"] ["script", "k"] (defScope s__law_cell) := ⟨rfl, rfl, rfl, by decide +kernel, rfl, by decide +kernel, by decide +kernel⟩
theorem mb__law_cell {C : Ctx} {k : Nat} (B : Blt C) : MB (stOf C ["script", "k"] s__law_cell k) (defBody s__law_cell) g__law_cell := by
  exact (mb_cons (ms_if [] (mt_cmp1 .lt (me_var 1 rfl rfl) (me_len B.len_ (ma_cons (me_var 0 rfl rfl) ma_nil))) (mb_one (ms_ret (me_ix (me_var 0 rfl rfl) (me_var 1 rfl rfl)))) mb_nil)
  (mb_one (ms_ret me_int)))
theorem ok__law_cell {C : Ctx} {k : Nat} (B : Blt C) {f : Addr} {fd : FuncData} (F : Fun C.K "_law_cell" "_law_cell" s__law_cell f fd) (hm : C.mg "_law_cell" = some (.ref f)) (bi : Binds C.K fd ["script", "k"] []) : Def C (k + 1) "_law_cell" 2 m__law_cell :=
  def_mk F sc__law_cell (mb__law_cell B) hm bi
/-! ### _law_row -/
abbrev s__law_row : Stmt := topS 9
theorem sc__law_row : FnScope ["cell", "count", "row", "rest", "seed", "k"] ["cell", "count"] (defScope s__law_row) := ⟨rfl, rfl, rfl, by decide +kernel, rfl, by decide +kernel, by decide +kernel⟩
theorem mb__law_row {C : Ctx} {k : Nat} (B : Blt C) : MB (stOf C ["cell", "count", "row", "rest", "seed", "k"] s__law_row k) (defBody s__law_row) g__law_row := by
  exact (mb_cons (ms_own [] rfl rfl (mf_lst ma_nil))
  (mb_cons (ms_set [] rfl rfl (me_var 0 rfl rfl))
  (mb_cons (ms_set [] rfl rfl (me_add (me_mod (me_intc B.int_ (ma_cons (me_var 0 rfl rfl) ma_nil)) me_int) me_int))
  (mb_cons (ms_for [] (mi_rng1 B.range_ (ma_cons (me_var 1 rfl rfl) ma_nil)) (mgs_name rfl rfl) (mb_one (ms_if [] (mt_cmp1 .ge (me_var 0 rfl rfl) (me_pow me_int me_int)) (mb_cons (ms_app [] rfl rfl (me_mod (me_intc B.int_ (ma_cons (me_var 3 rfl rfl) ma_nil)) me_int))
  (mb_one (ms_set [] rfl rfl (me_div (me_var 3 rfl rfl) me_int)))) (mb_cons (ms_set [] rfl rfl (me_mod (me_intc B.int_ (ma_cons (me_add (me_mul (me_var 4 rfl rfl) me_int) (me_var 5 rfl rfl)) ma_nil)) me_int))
  (mb_one (ms_app [] rfl rfl (me_mod (me_div (me_mod (me_intc B.int_ (ma_cons (me_mul (me_var 4 rfl rfl) me_int) ma_nil)) me_int) me_int) me_int)))))))
  (mb_one (ms_ret (me_var 2 rfl rfl)))))))
theorem ok__law_row {C : Ctx} {k : Nat} (B : Blt C) {f : Addr} {fd : FuncData} (F : Fun C.K "_law_row" "_law_row" s__law_row f fd) (hm : C.mg "_law_row" = some (.ref f)) (bi : Binds C.K fd ["cell", "count"] []) : Def C (k + 1) "_law_row" 2 m__law_row :=
  def_mk F sc__law_row (mb__law_row B) hm bi
/-! ### _law_word -/
abbrev s__law_word : Stmt := topS 10
theorem sc__law_word : FnScope ["number", "letters", "word"] ["number"] (defScope s__law_word) := ⟨rfl, rfl, rfl, by decide +kernel, rfl, by decide +kernel, by decide +kernel⟩
theorem mb__law_word {C : Ctx} {k : Nat} (B : Blt C) : MB (stOf C ["number", "letters", "word"] s__law_word k) (defBody s__law_word) g__law_word := by
  exact (mb_cons (ms_set [] rfl rfl me_str)
  (mb_cons (ms_set [] rfl rfl (me_ix (me_var 1 rfl rfl) (me_mod (me_var 0 rfl rfl) me_int)))
  (mb_cons (ms_if [] (mt_cmp1 .gt (me_mod (me_div (me_var 0 rfl rfl) me_int) me_int) me_int) (mb_one (ms_set [] rfl rfl (me_add (me_var 2 rfl rfl) (me_ix (me_var 1 rfl rfl) (me_mod (me_div (me_var 0 rfl rfl) me_int) me_int))))) mb_nil)
  (mb_cons (ms_if [] (mt_cmp1 .eq (me_mod (me_div (me_var 0 rfl rfl) me_int) me_int) me_int) (mb_one (ms_set [] rfl rfl (me_add (me_add (me_add (me_var 2 rfl rfl) (me_ix (me_var 1 rfl rfl) (me_mod (me_div (me_var 0 rfl rfl) me_int) me_int))) (me_ix (me_var 1 rfl rfl) (me_mod (me_div (me_var 0 rfl rfl) me_int) me_int))) (me_ix (me_var 1 rfl rfl) (me_mod (me_div (me_var 0 rfl rfl) me_int) me_int))))) mb_nil)
  (mb_one (ms_ret (me_var 2 rfl rfl)))))))
theorem ok__law_word {C : Ctx} {k : Nat} (B : Blt C) {f : Addr} {fd : FuncData} (F : Fun C.K "_law_word" "_law_word" s__law_word f fd) (hm : C.mg "_law_word" = some (.ref f)) (bi : Binds C.K fd ["number"] []) : Def C (k + 1) "_law_word" 1 m__law_word :=
  def_mk F sc__law_word (mb__law_word B) hm bi
/-! ### _law_words -/
abbrev s__law_words : Stmt := topS 11
theorem sc__law_words : FnScope ["row", "count", "words", "k", "word", "turn"] ["row", "count"] (defScope s__law_words) := ⟨rfl, rfl, rfl, by decide +kernel, rfl, by decide +kernel, by decide +kernel⟩
theorem mb__law_words {C : Ctx} {k : Nat} (B : Blt C) (d__law_word : Def C k "_law_word" 1 m__law_word) : MB (stOf C ["row", "count", "words", "k", "word", "turn"] s__law_words k) (defBody s__law_words) g__law_words := by
  exact (mb_cons (ms_own [] rfl rfl (mf_lst ma_nil))
  (mb_cons (ms_for [] (mi_rng1 B.range_ (ma_cons (me_var 1 rfl rfl) ma_nil)) (mgs_name rfl rfl) (mb_cons (ms_set [] rfl rfl (me_call d__law_word (ma_cons (me_ix (me_var 0 rfl rfl) (me_var 3 rfl rfl)) ma_nil)))
  (mb_cons (ms_for [] (mi_rng1 B.range_ (ma_cons me_int ma_nil)) (mgs_name rfl rfl) (mb_one (ms_if [false, false, true] (mt_cmp1 .isin (me_var 4 rfl rfl) (me_var 2 rfl rfl)) (mb_one (ms_set [] rfl rfl (me_add (me_var 4 rfl rfl) me_str))) mb_nil)))
  (mb_one (ms_app [] rfl rfl (me_var 4 rfl rfl))))))
  (mb_one (ms_ret (me_tuplec B.tuple_ (ma_cons (me_var 2 rfl rfl) ma_nil))))))
theorem ok__law_words {C : Ctx} {k : Nat} (B : Blt C) (d__law_word : Def C k "_law_word" 1 m__law_word) {f : Addr} {fd : FuncData} (F : Fun C.K "_law_words" "_law_words" s__law_words f fd) (hm : C.mg "_law_words" = some (.ref f)) (bi : Binds C.K fd ["row", "count"] []) : Def C (k + 1) "_law_words" 2 m__law_words :=
  def_mk F sc__law_words (mb__law_words B d__law_word) hm bi
/-! ### _law_input -/
abbrev s__law_input : Stmt := topS 12
theorem sc__law_input : FnScope ["names", "cell", "size", "messages", "number", "message"] ["names", "cell", "size"] (defScope s__law_input) := ⟨rfl, rfl, rfl, by decide +kernel, rfl, by decide +kernel, by decide +kernel⟩
theorem mb__law_input {C : Ctx} {k : Nat} (B : Blt C) (d__law_row : Def C k "_law_row" 2 m__law_row) : MB (stOf C ["names", "cell", "size", "messages", "number", "message"] s__law_input k) (defBody s__law_input) g__law_input := by
  exact (mb_cons (ms_own [] rfl rfl (mf_lst ma_nil))
  (mb_cons (ms_for [] (mi_seq (me_call d__law_row (ma_cons (me_var 1 rfl rfl) (ma_cons (me_var 2 rfl rfl) ma_nil)))) (mgs_name rfl rfl) (mb_one (ms_app [] rfl rfl (me_tup (ma_cons (me_ix (me_var 0 rfl rfl) (me_mod (me_var 4 rfl rfl) (me_len B.len_ (ma_cons (me_var 0 rfl rfl) ma_nil)))) (ma_cons (me_sub (me_mod (me_div (me_var 4 rfl rfl) me_int) me_int) me_int) ma_nil))))))
  (mb_cons (ms_if [] (mt_cmp1 .eq (me_mod (me_intc B.int_ (ma_cons (me_var 1 rfl rfl) ma_nil)) me_int) me_int) (mb_one (ms_setLc (own := [("message", 5)]) [false, false, false, true] rfl rfl (by rfl) (mi_seq (me_var 3 rfl rfl)) (mg_name rfl rfl) mts_nil (me_tup (ma_cons (me_ix (me_var 5 rfl rfl) me_int) (ma_cons (me_add (me_mul (me_ix (me_var 5 rfl rfl) me_int) me_int) me_int) ma_nil))) (by rfl))) mb_nil)
  (mb_one (ms_ret (me_var 3 rfl rfl))))))
theorem ok__law_input {C : Ctx} {k : Nat} (B : Blt C) (d__law_row : Def C k "_law_row" 2 m__law_row) {f : Addr} {fd : FuncData} (F : Fun C.K "_law_input" "_law_input" s__law_input f fd) (hm : C.mg "_law_input" = some (.ref f)) (bi : Binds C.K fd ["names", "cell", "size"] []) : Def C (k + 1) "_law_input" 3 m__law_input :=
  def_mk F sc__law_input (mb__law_input B d__law_row) hm bi
/-! ### _law_small -/
abbrev s__law_small : Stmt := topS 20
theorem sc__law_small : FnScope ["names", "cell", "message"] ["names", "cell"] (defScope s__law_small) := ⟨rfl, rfl, rfl, by decide +kernel, rfl, by decide +kernel, by decide +kernel⟩
theorem mb__law_small {C : Ctx} {k : Nat} (B : Blt C) (d__law_input : Def C k "_law_input" 3 m__law_input) : MB (stOf C ["names", "cell", "message"] s__law_small k) (defBody s__law_small) g__law_small := by
  exact (mb_cons (ms_if [] (mt_cmp1 .eq (me_mod (me_div (me_intc B.int_ (ma_cons (me_var 1 rfl rfl) ma_nil)) me_int) me_int) me_int) (mb_one (ms_ret (me_f (mf_comp (own := [("message", 2)]) (mi_seq (me_call d__law_input (ma_cons (me_var 0 rfl rfl) (ma_cons (me_var 1 rfl rfl) (ma_cons (me_add me_int (me_mod (me_div (me_intc B.int_ (ma_cons (me_var 1 rfl rfl) ma_nil)) me_int) me_int)) ma_nil))))) (mg_name rfl rfl) mts_nil (me_tup (ma_cons (me_ix (me_var 2 rfl rfl) me_int) (ma_cons (me_mod (me_ix (me_var 2 rfl rfl) me_int) me_int) ma_nil))) (by rfl))))) mb_nil)
  (mb_one (ms_ret (me_f (mf_comp (own := [("message", 2)]) (mi_seq (me_call d__law_input (ma_cons (me_var 0 rfl rfl) (ma_cons (me_var 1 rfl rfl) (ma_cons (me_mod (me_div (me_intc B.int_ (ma_cons (me_var 1 rfl rfl) ma_nil)) me_int) me_int) ma_nil))))) (mg_name rfl rfl) mts_nil (me_tup (ma_cons (me_ix (me_var 2 rfl rfl) me_int) (ma_cons (me_mod (me_ix (me_var 2 rfl rfl) me_int) me_int) ma_nil))) (by rfl))))))
theorem ok__law_small {C : Ctx} {k : Nat} (B : Blt C) (d__law_input : Def C k "_law_input" 3 m__law_input) {f : Addr} {fd : FuncData} (F : Fun C.K "_law_small" "_law_small" s__law_small f fd) (hm : C.mg "_law_small" = some (.ref f)) (bi : Binds C.K fd ["names", "cell"] []) : Def C (k + 1) "_law_small" 2 m__law_small :=
  def_mk F sc__law_small (mb__law_small B d__law_input) hm bi
/-! ### _law_distinct -/
abbrev s__law_distinct : Stmt := topS 17
theorem sc__law_distinct : FnScope ["messages", "numbers", "message"] ["messages"] (defScope s__law_distinct) := ⟨rfl, rfl, rfl, by decide +kernel, rfl, by decide +kernel, by decide +kernel⟩
theorem mb__law_distinct {C : Ctx} {k : Nat} (B : Blt C) : MB (stOf C ["messages", "numbers", "message"] s__law_distinct k) (defBody s__law_distinct) g__law_distinct := by
  exact (mb_cons (ms_own [] rfl rfl (mf_lst ma_nil))
  (mb_cons (ms_for [] (mi_seq (me_var 0 rfl rfl)) (mgs_name rfl rfl) (mb_one (ms_if [false, true] (mt_cmp1 .notin (me_ix (me_var 2 rfl rfl) me_int) (me_var 1 rfl rfl)) (mb_one (ms_app [] rfl rfl (me_ix (me_var 2 rfl rfl) me_int))) mb_nil)))
  (mb_one (ms_ret (me_sortedL B.sorted_ (me_var 1 rfl rfl))))))
theorem ok__law_distinct {C : Ctx} {k : Nat} (B : Blt C) {f : Addr} {fd : FuncData} (F : Fun C.K "_law_distinct" "_law_distinct" s__law_distinct f fd) (hm : C.mg "_law_distinct" = some (.ref f)) (bi : Binds C.K fd ["messages"] []) : Def C (k + 1) "_law_distinct" 1 m__law_distinct :=
  def_mk F sc__law_distinct (mb__law_distinct B) hm bi
/-! ### _law_placings -/
abbrev s__law_placings : Stmt := topS 18
theorem sc__law_placings : FnScope ["first", "ending", "size", "rows", "k", "longer", "row", "position"] ["first", "ending"] (defScope s__law_placings) := ⟨rfl, rfl, rfl, by decide +kernel, rfl, by decide +kernel, by decide +kernel⟩
theorem mb__law_placings {C : Ctx} {k : Nat} (B : Blt C) (d__law_distinct : Def C k "_law_distinct" 1 m__law_distinct) : MB (stOf C ["first", "ending", "size", "rows", "k", "longer", "row", "position"] s__law_placings k) (defBody s__law_placings) g__law_placings := by
  exact (mb_cons (ms_set [] rfl rfl (me_len B.len_ (ma_cons (me_call d__law_distinct (ma_cons (me_var 1 rfl rfl) ma_nil)) ma_nil)))
  (mb_cons (ms_set [] rfl rfl (me_lst (ma_cons (me_tup ma_nil) ma_nil)))
  (mb_cons (ms_for [] (mi_rng1 B.range_ (ma_cons (me_len B.len_ (ma_cons (me_call d__law_distinct (ma_cons (me_var 0 rfl rfl) ma_nil)) ma_nil)) ma_nil)) (mgs_name rfl rfl) (mb_cons (ms_own [] rfl rfl (mf_lst ma_nil))
  (mb_cons (ms_for [] (mi_seq (me_var 3 rfl rfl)) (mgs_name rfl rfl) (mb_one (ms_for [] (mi_rng1 B.range_ (ma_cons (me_add (me_mul me_int (me_var 2 rfl rfl)) me_int) ma_nil)) (mgs_name rfl rfl) (mb_one (ms_if [] (mt_w (mw_or (mt_cmp1 .eq (me_len B.len_ (ma_cons (me_var 6 rfl rfl) ma_nil)) me_int) (mw_or (mt_cmp1 .gt (me_var 7 rfl rfl) (me_ix (me_var 6 rfl rfl) (me_neg me_int))) (mw_or1 (mt_w (mw_and (mt_cmp1 .eq (me_var 7 rfl rfl) (me_ix (me_var 6 rfl rfl) (me_neg me_int))) (mw_and1 (mt_cmp1 .eq (me_mod (me_var 7 rfl rfl) me_int) me_int)))))))) (mb_one (ms_app [] rfl rfl (me_add (me_var 6 rfl rfl) (me_tup (ma_cons (me_var 7 rfl rfl) ma_nil))))) mb_nil)))))
  (mb_one (ms_set [false, false, false, false, false, true] rfl rfl (me_var 5 rfl rfl))))))
  (mb_one (ms_ret (me_var 3 rfl rfl))))))
theorem ok__law_placings {C : Ctx} {k : Nat} (B : Blt C) (d__law_distinct : Def C k "_law_distinct" 1 m__law_distinct) {f : Addr} {fd : FuncData} (F : Fun C.K "_law_placings" "_law_placings" s__law_placings f fd) (hm : C.mg "_law_placings" = some (.ref f)) (bi : Binds C.K fd ["first", "ending"] []) : Def C (k + 1) "_law_placings" 2 m__law_placings :=
  def_mk F sc__law_placings (mb__law_placings B d__law_distinct) hm bi
/-! ### different -/
abbrev s_different : Stmt := topS 5
theorem sc_different : FnScope ["messages", "_", "value"] ["messages"] (defScope s_different) := ⟨rfl, rfl, rfl, by decide +kernel, rfl, by decide +kernel, by decide +kernel⟩
theorem mb_different {C : Ctx} {k : Nat} (B : Blt C) : MB (stOf C ["messages", "_", "value"] s_different k) (defBody s_different) g_different := by
  exact (mb_one (ms_ret (me_sortset B.sorted_ B.set_ (me_f (mf_comp (own := [("_", 1), ("value", 2)]) (mi_seq (me_var 0 rfl rfl)) (mg_seq (.cons rfl rfl (.cons rfl rfl .nil))) mts_nil (me_var 2 rfl rfl) (by rfl))))))
theorem ok_different {C : Ctx} {k : Nat} (B : Blt C) {f : Addr} {fd : FuncData} (F : Fun C.K "different" "different" s_different f fd) (hm : C.mg "different" = some (.ref f)) (bi : Binds C.K fd ["messages"] []) : Def C (k + 1) "different" 1 m_different :=
  def_mk F sc_different (mb_different B) hm bi
/-! ### lowest -/
abbrev s_lowest : Stmt := topS 6
theorem sc_lowest : FnScope ["placing"] ["placing"] (defScope s_lowest) := ⟨rfl, rfl, rfl, by decide +kernel, rfl, by decide +kernel, by decide +kernel⟩
theorem mb_lowest {C : Ctx} {k : Nat} (B : Blt C) : MB (stOf C ["placing"] s_lowest k) (defBody s_lowest) g_lowest := by
  exact (mb_cons (ms_if [] (mt_cmp1 .eq (me_len B.len_ (ma_cons (me_var 0 rfl rfl) ma_nil)) me_int) (mb_one (ms_ret me_int)) mb_nil)
  (mb_one (ms_ret (me_add (me_ix (me_var 0 rfl rfl) (me_neg me_int)) (me_mod (me_ix (me_var 0 rfl rfl) (me_neg me_int)) me_int)))))
theorem ok_lowest {C : Ctx} {k : Nat} (B : Blt C) {f : Addr} {fd : FuncData} (F : Fun C.K "lowest" "lowest" s_lowest f fd) (hm : C.mg "lowest" = some (.ref f)) (bi : Binds C.K fd ["placing"] []) : Def C (k + 1) "lowest" 1 m_lowest :=
  def_mk F sc_lowest (mb_lowest B) hm bi
/-! ### placings -/
abbrev s_placings : Stmt := topS 3
theorem sc_placings : FnScope ["first", "ending", "top", "rows", "_", "row", "at"] ["first", "ending"] (defScope s_placings) := ⟨rfl, rfl, rfl, by decide +kernel, rfl, by decide +kernel, by decide +kernel⟩
theorem mb_placings {C : Ctx} {k : Nat} (B : Blt C) (d_different : Def C k "different" 1 m_different) (d_lowest : Def C k "lowest" 1 m_lowest) : MB (stOf C ["first", "ending", "top", "rows", "_", "row", "at"] s_placings k) (defBody s_placings) g_placings := by
  exact (mb_cons (ms_set [] rfl rfl (me_mul me_int (me_len B.len_ (ma_cons (me_call d_different (ma_cons (me_var 1 rfl rfl) ma_nil)) ma_nil))))
  (mb_cons (ms_set [] rfl rfl (me_lst (ma_cons (me_tup ma_nil) ma_nil)))
  (mb_cons (ms_for [] (mi_seq (me_call d_different (ma_cons (me_var 0 rfl rfl) ma_nil))) (mgs_name rfl rfl) (mb_one (ms_fz [false, false, false, true] (ms_setLc2 (own := [("row", 5), ("at", 6)]) [] rfl rfl (by rfl) (mi_seq (me_var 3 rfl rfl)) (mg_name rfl rfl) mts_nil (mi_rng2 B.range_ (ma_cons (me_call d_lowest (ma_cons (me_var 5 rfl rfl) ma_nil)) (ma_cons (me_add (me_var 2 rfl rfl) me_int) ma_nil))) (mg_name rfl rfl) mts_nil (me_add (me_var 5 rfl rfl) (me_tup (ma_cons (me_var 6 rfl rfl) ma_nil))) (by rfl)))))
  (mb_one (ms_ret (me_var 3 rfl rfl))))))
theorem ok_placings {C : Ctx} {k : Nat} (B : Blt C) (d_different : Def C k "different" 1 m_different) (d_lowest : Def C k "lowest" 1 m_lowest) {f : Addr} {fd : FuncData} (F : Fun C.K "placings" "placings" s_placings f fd) (hm : C.mg "placings" = some (.ref f)) (bi : Binds C.K fd ["first", "ending"] []) : Def C (k + 1) "placings" 2 m_placings :=
  def_mk F sc_placings (mb_placings B d_different d_lowest) hm bi
/-! ### dense -/
abbrev s_dense : Stmt := topS 1
theorem sc_dense : FnScope ["messages", "ranks", "rank", "value", "name"] ["messages"] (defScope s_dense) := ⟨rfl, rfl, rfl, by decide +kernel, rfl, by decide +kernel, by decide +kernel⟩
theorem mb_dense {C : Ctx} {k : Nat} (B : Blt C) (d_different : Def C k "different" 1 m_different) : MB (stOf C ["messages", "ranks", "rank", "value", "name"] s_dense k) (defBody s_dense) g_dense := by
  exact (mb_cons (ms_setC [] rfl rfl (me_fd (mfd_comp (own := [("rank", 2), ("value", 3)]) (mi_enum B.enumerate_ (ma_cons (me_call d_different (ma_cons (me_var 0 rfl rfl) ma_nil)) ma_nil)) (mg_seq (.cons rfl rfl (.cons rfl rfl .nil))) mts_nil (me_var 3 rfl rfl) (me_var 2 rfl rfl) (by rfl))))
  (mb_one (ms_ret (me_f (mf_comp (own := [("name", 4), ("value", 3)]) (mi_seq (me_var 0 rfl rfl)) (mg_seq (.cons rfl rfl (.cons rfl rfl .nil))) mts_nil (me_tup (ma_cons (me_var 4 rfl rfl) (ma_cons (me_dget (me_var 1 rfl rfl) (me_var 3 rfl rfl)) ma_nil))) (by rfl))))))
theorem ok_dense {C : Ctx} {k : Nat} (B : Blt C) (d_different : Def C k "different" 1 m_different) {f : Addr} {fd : FuncData} (F : Fun C.K "dense" "dense" s_dense f fd) (hm : C.mg "dense" = some (.ref f)) (bi : Binds C.K fd ["messages"] []) : Def C (k + 1) "dense" 1 m_dense :=
  def_mk F sc_dense (mb_dense B d_different) hm bi
/-! ### joined -/
abbrev s_joined : Stmt := topS 4
theorem sc_joined : FnScope ["first", "ending", "placing", "low", "high", "wide", "spots", "rank", "value", "places", "at", "beginning", "name"] ["first", "ending", "placing"] (defScope s_joined) := ⟨rfl, rfl, rfl, by decide +kernel, rfl, by decide +kernel, by decide +kernel⟩
theorem mb_joined {C : Ctx} {k : Nat} (B : Blt C) (d_different : Def C k "different" 1 m_different) (d_dense : Def C k "dense" 1 m_dense) : MB (stOf C ["first", "ending", "placing", "low", "high", "wide", "spots", "rank", "value", "places", "at", "beginning", "name"] s_joined k) (defBody s_joined) g_joined := by
  exact (mb_cons (ms_set [] rfl rfl (me_call d_different (ma_cons (me_var 0 rfl rfl) ma_nil)))
  (mb_cons (ms_set [] rfl rfl (me_call d_different (ma_cons (me_var 1 rfl rfl) ma_nil)))
  (mb_cons (ms_set [] rfl rfl (me_add (me_len B.len_ (ma_cons (me_var 3 rfl rfl) ma_nil)) me_int))
  (mb_cons (ms_setC [] rfl rfl (me_fd (mfd_comp (own := [("rank", 7), ("value", 8)]) (mi_enum B.enumerate_ (ma_cons (me_var 4 rfl rfl) ma_nil)) (mg_seq (.cons rfl rfl (.cons rfl rfl .nil))) mts_nil (me_var 8 rfl rfl) (me_mul (me_add (me_mul me_int (me_var 7 rfl rfl)) me_int) (me_var 5 rfl rfl)) (by rfl))))
  (mb_cons (ms_newK rfl rfl)
  (mb_cons (ms_for [] (mi_enum B.enumerate_ (ma_cons (me_var 3 rfl rfl) ma_nil)) (mgs_seq (.cons rfl rfl (.cons rfl rfl .nil))) (mb_cons (ms_set [] rfl rfl (me_ix (me_var 2 rfl rfl) (me_var 7 rfl rfl)))
  (mb_one (ms_put [] rfl rfl (me_var 8 rfl rfl) (me_ite (mt_cmp1 .eq (me_mod (me_var 10 rfl rfl) me_int) me_int) (me_mul (me_var 10 rfl rfl) (me_var 5 rfl rfl)) (me_add (me_mul (me_var 10 rfl rfl) (me_var 5 rfl rfl)) (me_var 7 rfl rfl)))))))
  (mb_cons (ms_fz [false, false, false, false, false, false, false, false, false, false, false, true] (ms_setLc (own := [("name", 12), ("value", 8)]) [false, false, false, false, false, false, false, false, false, true] rfl rfl (by rfl) (mi_seq (me_var 0 rfl rfl)) (mg_seq (.cons rfl rfl (.cons rfl rfl .nil))) mts_nil (me_tup (ma_cons (me_var 12 rfl rfl) (ma_cons (me_dget (me_var 9 rfl rfl) (me_var 8 rfl rfl)) ma_nil))) (by rfl)))
  (mb_one (ms_ret (me_call d_dense (ma_cons (me_add (me_var 11 rfl rfl) (me_f (mf_comp (own := [("name", 12), ("value", 8)]) (mi_seq (me_var 1 rfl rfl)) (mg_seq (.cons rfl rfl (.cons rfl rfl .nil))) mts_nil (me_tup (ma_cons (me_var 12 rfl rfl) (ma_cons (me_dget (me_var 6 rfl rfl) (me_var 8 rfl rfl)) ma_nil))) (by rfl)))) ma_nil)))))))))))
theorem ok_joined {C : Ctx} {k : Nat} (B : Blt C) (d_different : Def C k "different" 1 m_different) (d_dense : Def C k "dense" 1 m_dense) {f : Addr} {fd : FuncData} (F : Fun C.K "joined" "joined" s_joined f fd) (hm : C.mg "joined" = some (.ref f)) (bi : Binds C.K fd ["first", "ending", "placing"] []) : Def C (k + 1) "joined" 3 m_joined :=
  def_mk F sc_joined (mb_joined B d_different d_dense) hm bi
/-! ### _law_dense -/
abbrev s__law_dense : Stmt := topS 13
theorem sc__law_dense : FnScope ["messages", "numbers", "message", "n"] ["messages"] (defScope s__law_dense) := ⟨rfl, rfl, rfl, by decide +kernel, rfl, by decide +kernel, by decide +kernel⟩
theorem mb__law_dense {C : Ctx} {k : Nat} (B : Blt C) : MB (stOf C ["messages", "numbers", "message", "n"] s__law_dense k) (defBody s__law_dense) g__law_dense := by
  exact (mb_cons (ms_own [] rfl rfl (mf_lst ma_nil))
  (mb_cons (ms_for [] (mi_seq (me_var 0 rfl rfl)) (mgs_name rfl rfl) (mb_one (ms_if [false, true] (mt_cmp1 .notin (me_ix (me_var 2 rfl rfl) me_int) (me_var 1 rfl rfl)) (mb_one (ms_app [] rfl rfl (me_ix (me_var 2 rfl rfl) me_int))) mb_nil)))
  (mb_one (ms_ret (me_f (mf_comp (own := [("message", 2)]) (mi_seq (me_var 0 rfl rfl)) (mg_name rfl rfl) mts_nil (me_tup (ma_cons (me_ix (me_var 2 rfl rfl) me_int) (ma_cons (me_len B.len_ (ma_cons (me_f (mf_comp (own := [("n", 3)]) (mi_seq (me_var 1 rfl rfl)) (mg_name rfl rfl) (mts_one (mt_cmp1 .lt (me_var 3 rfl rfl) (me_ix (me_var 2 rfl rfl) me_int))) (me_var 3 rfl rfl) (by rfl))) ma_nil)) ma_nil))) (by rfl)))))))
theorem ok__law_dense {C : Ctx} {k : Nat} (B : Blt C) {f : Addr} {fd : FuncData} (F : Fun C.K "_law_dense" "_law_dense" s__law_dense f fd) (hm : C.mg "_law_dense" = some (.ref f)) (bi : Binds C.K fd ["messages"] []) : Def C (k + 1) "_law_dense" 1 m__law_dense :=
  def_mk F sc__law_dense (mb__law_dense B) hm bi
/-! ### _law_joined -/
abbrev s__law_joined : Stmt := topS 19
theorem sc__law_joined : FnScope ["first", "ending", "placing", "inner", "outer", "messages", "message", "k", "n", "value"] ["first", "ending", "placing"] (defScope s__law_joined) := ⟨rfl, rfl, rfl, by decide +kernel, rfl, by decide +kernel, by decide +kernel⟩
theorem mb__law_joined {C : Ctx} {k : Nat} (B : Blt C) (d__law_distinct : Def C k "_law_distinct" 1 m__law_distinct) (d__law_dense : Def C k "_law_dense" 1 m__law_dense) : MB (stOf C ["first", "ending", "placing", "inner", "outer", "messages", "message", "k", "n", "value"] s__law_joined k) (defBody s__law_joined) g__law_joined := by
  exact (mb_cons (ms_set [] rfl rfl (me_call d__law_distinct (ma_cons (me_var 0 rfl rfl) ma_nil)))
  (mb_cons (ms_set [] rfl rfl (me_call d__law_distinct (ma_cons (me_var 1 rfl rfl) ma_nil)))
  (mb_cons (ms_own [] rfl rfl (mf_lst ma_nil))
  (mb_cons (ms_for [] (mi_seq (me_var 0 rfl rfl)) (mgs_name rfl rfl) (mb_cons (ms_set [] rfl rfl (me_len B.len_ (ma_cons (me_f (mf_comp (own := [("n", 8)]) (mi_seq (me_var 3 rfl rfl)) (mg_name rfl rfl) (mts_one (mt_cmp1 .lt (me_var 8 rfl rfl) (me_ix (me_var 6 rfl rfl) me_int))) (me_var 8 rfl rfl) (by rfl))) ma_nil)))
  (mb_cons (ms_set [] rfl rfl (me_add (me_mul me_int (me_div (me_ix (me_var 2 rfl rfl) (me_var 7 rfl rfl)) me_int)) (me_ix (me_lst (ma_cons (me_add (me_var 7 rfl rfl) me_int) (ma_cons me_int ma_nil))) (me_mod (me_ix (me_var 2 rfl rfl) (me_var 7 rfl rfl)) me_int))))
  (mb_one (ms_app [] rfl rfl (me_tup (ma_cons (me_ix (me_var 6 rfl rfl) me_int) (ma_cons (me_var 9 rfl rfl) ma_nil))))))))
  (mb_one (ms_ret (me_call d__law_dense (ma_cons (me_add (me_var 5 rfl rfl) (me_f (mf_comp (own := [("message", 6)]) (mi_seq (me_var 1 rfl rfl)) (mg_name rfl rfl) mts_nil (me_tup (ma_cons (me_ix (me_var 6 rfl rfl) me_int) (ma_cons (me_add me_int (me_mul me_int (me_len B.len_ (ma_cons (me_f (mf_comp (own := [("n", 8)]) (mi_seq (me_var 4 rfl rfl)) (mg_name rfl rfl) (mts_one (mt_cmp1 .lt (me_var 8 rfl rfl) (me_ix (me_var 6 rfl rfl) me_int))) (me_var 8 rfl rfl) (by rfl))) ma_nil)))) ma_nil))) (by rfl)))) ma_nil))))))))
theorem ok__law_joined {C : Ctx} {k : Nat} (B : Blt C) (d__law_distinct : Def C k "_law_distinct" 1 m__law_distinct) (d__law_dense : Def C k "_law_dense" 1 m__law_dense) {f : Addr} {fd : FuncData} (F : Fun C.K "_law_joined" "_law_joined" s__law_joined f fd) (hm : C.mg "_law_joined" = some (.ref f)) (bi : Binds C.K fd ["first", "ending", "placing"] []) : Def C (k + 1) "_law_joined" 3 m__law_joined :=
  def_mk F sc__law_joined (mb__law_joined B d__law_distinct d__law_dense) hm bi
/-! ### _law_position -/
abbrev s__law_position : Stmt := topS 14
theorem sc__law_position : FnScope ["number", "others", "less", "value"] ["number", "others"] (defScope s__law_position) := ⟨rfl, rfl, rfl, by decide +kernel, rfl, by decide +kernel, by decide +kernel⟩
theorem mb__law_position {C : Ctx} {k : Nat} (B : Blt C) : MB (stOf C ["number", "others", "less", "value"] s__law_position k) (defBody s__law_position) g__law_position := by
  exact (mb_cons (ms_set [] rfl rfl (me_len B.len_ (ma_cons (me_f (mf_comp (own := [("value", 3)]) (mi_seq (me_var 1 rfl rfl)) (mg_name rfl rfl) (mts_one (mt_cmp1 .lt (me_var 3 rfl rfl) (me_var 0 rfl rfl))) (me_var 3 rfl rfl) (by rfl))) ma_nil)))
  (mb_one (ms_ret (me_add (me_mul me_int (me_var 2 rfl rfl)) (me_len B.len_ (ma_cons (me_f (mf_comp (own := [("value", 3)]) (mi_seq (me_var 1 rfl rfl)) (mg_name rfl rfl) (mts_one (mt_cmp1 .eq (me_var 3 rfl rfl) (me_var 0 rfl rfl))) (me_var 3 rfl rfl) (by rfl))) ma_nil))))))
theorem ok__law_position {C : Ctx} {k : Nat} (B : Blt C) {f : Addr} {fd : FuncData} (F : Fun C.K "_law_position" "_law_position" s__law_position f fd) (hm : C.mg "_law_position" = some (.ref f)) (bi : Binds C.K fd ["number", "others"] []) : Def C (k + 1) "_law_position" 2 m__law_position :=
  def_mk F sc__law_position (mb__law_position B) hm bi
/-! ### _law_positions -/
abbrev s__law_positions : Stmt := topS 21
theorem sc__law_positions : FnScope ["messages", "size", "first", "others", "n"] ["messages", "size"] (defScope s__law_positions) := ⟨rfl, rfl, rfl, by decide +kernel, rfl, by decide +kernel, by decide +kernel⟩
theorem mb__law_positions {C : Ctx} {k : Nat} (B : Blt C) (d__law_distinct : Def C k "_law_distinct" 1 m__law_distinct) (d__law_position : Def C k "_law_position" 2 m__law_position) : MB (stOf C ["messages", "size", "first", "others", "n"] s__law_positions k) (defBody s__law_positions) g__law_positions := by
  exact (mb_cons (ms_set [] rfl rfl (me_call d__law_distinct (ma_cons (me_sl (me_var 0 rfl rfl) mo_none (mo_some (me_var 1 rfl rfl))) ma_nil)))
  (mb_cons (ms_set [] rfl rfl (me_call d__law_distinct (ma_cons (me_sl (me_var 0 rfl rfl) (mo_some (me_var 1 rfl rfl)) mo_none) ma_nil)))
  (mb_one (ms_ret (me_tuplec B.tuple_ (ma_cons (me_f (mf_comp (own := [("n", 4)]) (mi_seq (me_var 2 rfl rfl)) (mg_name rfl rfl) mts_nil (me_call d__law_position (ma_cons (me_var 4 rfl rfl) (ma_cons (me_var 3 rfl rfl) ma_nil))) (by rfl))) ma_nil))))))
theorem ok__law_positions {C : Ctx} {k : Nat} (B : Blt C) (d__law_distinct : Def C k "_law_distinct" 1 m__law_distinct) (d__law_position : Def C k "_law_position" 2 m__law_position) {f : Addr} {fd : FuncData} (F : Fun C.K "_law_positions" "_law_positions" s__law_positions f fd) (hm : C.mg "_law_positions" = some (.ref f)) (bi : Binds C.K fd ["messages", "size"] []) : Def C (k + 1) "_law_positions" 2 m__law_positions :=
  def_mk F sc__law_positions (mb__law_positions B d__law_distinct d__law_position) hm bi
/-! ### alike -/
abbrev s_alike : Stmt := topS 2
theorem sc_alike : FnScope ["first", "second"] ["first", "second"] (defScope s_alike) := ⟨rfl, rfl, rfl, by decide +kernel, rfl, by decide +kernel, by decide +kernel⟩
theorem mb_alike {C : Ctx} {k : Nat} (B : Blt C) (d_dense : Def C k "dense" 1 m_dense) : MB (stOf C ["first", "second"] s_alike k) (defBody s_alike) g_alike := by
  exact (mb_one (ms_ret (me_cmp1 .eq (me_call d_dense (ma_cons (me_var 0 rfl rfl) ma_nil)) (me_call d_dense (ma_cons (me_var 1 rfl rfl) ma_nil)))))
theorem ok_alike {C : Ctx} {k : Nat} (B : Blt C) (d_dense : Def C k "dense" 1 m_dense) {f : Addr} {fd : FuncData} (F : Fun C.K "alike" "alike" s_alike f fd) (hm : C.mg "alike" = some (.ref f)) (bi : Binds C.K fd ["first", "second"] []) : Def C (k + 1) "alike" 2 m_alike :=
  def_mk F sc_alike (mb_alike B d_dense) hm bi
/-! ### _law_spread -/
abbrev s__law_spread : Stmt := topS 22
theorem sc__law_spread : FnScope ["messages", "row", "numbers", "wide", "last", "k", "n", "message"] ["messages", "row"] (defScope s__law_spread) := ⟨rfl, rfl, rfl, by decide +kernel, rfl, by decide +kernel, by decide +kernel⟩
theorem mb__law_spread {C : Ctx} {k : Nat} (B : Blt C) (d__law_distinct : Def C k "_law_distinct" 1 m__law_distinct) : MB (stOf C ["messages", "row", "numbers", "wide", "last", "k", "n", "message"] s__law_spread k) (defBody s__law_spread) g__law_spread := by
  exact (mb_cons (ms_set [] rfl rfl (me_call d__law_distinct (ma_cons (me_var 0 rfl rfl) ma_nil)))
  (mb_cons (ms_own [] rfl rfl (mf_lst ma_nil))
  (mb_cons (ms_set [] rfl rfl (me_neg me_int))
  (mb_cons (ms_for [] (mi_rng1 B.range_ (ma_cons (me_len B.len_ (ma_cons (me_var 2 rfl rfl) ma_nil)) ma_nil)) (mgs_name rfl rfl) (mb_cons (ms_set [] rfl rfl (me_add (me_add (me_var 4 rfl rfl) me_int) (me_mod (me_ix (me_var 1 rfl rfl) (me_var 5 rfl rfl)) me_int)))
  (mb_one (ms_app [] rfl rfl (me_var 4 rfl rfl)))))
  (mb_one (ms_ret (me_f (mf_comp (own := [("message", 7)]) (mi_seq (me_var 0 rfl rfl)) (mg_name rfl rfl) mts_nil (me_tup (ma_cons (me_ix (me_var 7 rfl rfl) me_int) (ma_cons (me_ix (me_var 3 rfl rfl) (me_len B.len_ (ma_cons (me_f (mf_comp (own := [("n", 6)]) (mi_seq (me_var 2 rfl rfl)) (mg_name rfl rfl) (mts_one (mt_cmp1 .lt (me_var 6 rfl rfl) (me_ix (me_var 7 rfl rfl) me_int))) (me_var 6 rfl rfl) (by rfl))) ma_nil))) ma_nil))) (by rfl)))))))))
theorem ok__law_spread {C : Ctx} {k : Nat} (B : Blt C) (d__law_distinct : Def C k "_law_distinct" 1 m__law_distinct) {f : Addr} {fd : FuncData} (F : Fun C.K "_law_spread" "_law_spread" s__law_spread f fd) (hm : C.mg "_law_spread" = some (.ref f)) (bi : Binds C.K fd ["messages", "row"] []) : Def C (k + 1) "_law_spread" 2 m__law_spread :=
  def_mk F sc__law_spread (mb__law_spread B d__law_distinct) hm bi
/-! ### law -/
abbrev s_law : Stmt := topS 23
theorem sc_law : FnScope ["script", "names", "first", "ending", "due", "given", "told", "message", "results", "placing", "made", "cell", "row", "whole"] ["script"] (defScope s_law) := ⟨rfl, rfl, rfl, by decide +kernel, rfl, by decide +kernel, by decide +kernel⟩
theorem mb_law {C : Ctx} {k : Nat} (B : Blt C) (d__law_cell : Def C k "_law_cell" 2 m__law_cell) (d__law_row : Def C k "_law_row" 2 m__law_row) (d__law_words : Def C k "_law_words" 2 m__law_words) (d__law_small : Def C k "_law_small" 2 m__law_small) (d__law_distinct : Def C k "_law_distinct" 1 m__law_distinct) (d__law_placings : Def C k "_law_placings" 2 m__law_placings) (d_placings : Def C k "placings" 2 m_placings) (d_joined : Def C k "joined" 3 m_joined) (d__law_joined : Def C k "_law_joined" 3 m__law_joined) (d__law_positions : Def C k "_law_positions" 2 m__law_positions) (d_alike : Def C k "alike" 2 m_alike) (d__law_spread : Def C k "_law_spread" 2 m__law_spread) (d__law_dense : Def C k "_law_dense" 1 m__law_dense) : MB (stOf C ["script", "names", "first", "ending", "due", "given", "told", "message", "results", "placing", "made", "cell", "row", "whole"] s_law k) (defBody s_law) g_law_k03 := by
  exact (mb_cons (ms_set [] rfl rfl (me_call d__law_words (ma_cons (me_call d__law_row (ma_cons (me_call d__law_cell (ma_cons (me_var 0 rfl rfl) (ma_cons me_int ma_nil))) (ma_cons me_int ma_nil))) (ma_cons (me_add me_int (me_mod (me_call d__law_cell (ma_cons (me_var 0 rfl rfl) (ma_cons me_int ma_nil))) me_int)) ma_nil))))
  (mb_cons (ms_set [] rfl rfl (me_call d__law_small (ma_cons (me_var 1 rfl rfl) (ma_cons (me_call d__law_cell (ma_cons (me_var 0 rfl rfl) (ma_cons me_int ma_nil))) ma_nil))))
  (mb_cons (ms_set [] rfl rfl (me_call d__law_small (ma_cons (me_var 1 rfl rfl) (ma_cons (me_call d__law_cell (ma_cons (me_var 0 rfl rfl) (ma_cons me_int ma_nil))) ma_nil))))
  (mb_cons (ms_if [] (mt_cmp1 .gt (me_len B.len_ (ma_cons (me_call d__law_distinct (ma_cons (me_var 2 rfl rfl) ma_nil)) ma_nil)) me_int) (mb_one (ms_set [] rfl rfl (me_sl (me_var 3 rfl rfl) mo_none (mo_some me_int)))) mb_nil)
  (mb_cons (ms_set [] rfl rfl (me_call d__law_placings (ma_cons (me_var 2 rfl rfl) (ma_cons (me_var 3 rfl rfl) ma_nil))))
  (mb_cons (ms_set [] rfl rfl (me_lst (ma_cons (me_listc B.list_ (ma_cons (me_var 2 rfl rfl) ma_nil)) (ma_cons (me_listc B.list_ (ma_cons (me_var 3 rfl rfl) ma_nil)) ma_nil))))
  (mb_cons (ms_set [] rfl rfl (me_call d_placings (ma_cons (me_ix (me_var 5 rfl rfl) me_int) (ma_cons (me_ix (me_var 5 rfl rfl) me_int) ma_nil))))
  (mb_cons (ms_if [] (mt_w (mw_or (mt_cmp1 .ne (me_var 6 rfl rfl) (me_var 4 rfl rfl)) (mw_or1 (mt_cmp1 .ne (me_call d_placings (ma_cons (me_tuplec B.tuple_ (ma_cons (me_f (mf_comp (own := [("message", 7)]) (mi_seq (me_var 2 rfl rfl)) (mg_name rfl rfl) mts_nil (me_listc B.list_ (ma_cons (me_var 7 rfl rfl) ma_nil)) (by rfl))) ma_nil)) (ma_cons (me_var 3 rfl rfl) ma_nil))) (me_var 4 rfl rfl))))) (mb_one (ms_ret me_bl)) mb_nil)
  (mb_cons (ms_own [] rfl rfl (mf_lst ma_nil))
  (mb_cons (ms_for [] (mi_seq (me_var 4 rfl rfl)) (mgs_name rfl rfl) (mb_cons (ms_set [] rfl rfl (me_call d_joined (ma_cons (me_var 2 rfl rfl) (ma_cons (me_var 3 rfl rfl) (ma_cons (me_var 9 rfl rfl) ma_nil)))))
  (mb_cons (ms_if [] (mt_w (mw_or (mt_cmp1 .ne (me_var 10 rfl rfl) (me_call d__law_joined (ma_cons (me_var 2 rfl rfl) (ma_cons (me_var 3 rfl rfl) (ma_cons (me_var 9 rfl rfl) ma_nil))))) (mw_or1 (mt_cmp1 .ne (me_call d__law_positions (ma_cons (me_var 10 rfl rfl) (ma_cons (me_len B.len_ (ma_cons (me_var 2 rfl rfl) ma_nil)) ma_nil))) (me_var 9 rfl rfl))))) (mb_one (ms_ret me_bl)) mb_nil)
  (mb_cons (ms_if [false, false, false, false, false, false, false, false, true] (mt_w (mw_or (mt_not (mt_val (me_call d_alike (ma_cons (me_sl (me_var 10 rfl rfl) mo_none (mo_some (me_len B.len_ (ma_cons (me_var 2 rfl rfl) ma_nil)))) (ma_cons (me_var 2 rfl rfl) ma_nil))))) (mw_or (mt_not (mt_val (me_call d_alike (ma_cons (me_sl (me_var 10 rfl rfl) (mo_some (me_len B.len_ (ma_cons (me_var 2 rfl rfl) ma_nil))) mo_none) (ma_cons (me_var 3 rfl rfl) ma_nil))))) (mw_or1 (mt_cmp1 .isin (me_var 10 rfl rfl) (me_var 8 rfl rfl)))))) (mb_one (ms_ret me_bl)) mb_nil)
  (mb_cons (ms_app [] rfl rfl (me_var 10 rfl rfl))
  (mb_one (ms_if [] (mt_w (mw_or (mt_cmp1 .ne (me_call d_joined (ma_cons (me_ix (me_var 5 rfl rfl) me_int) (ma_cons (me_ix (me_var 5 rfl rfl) me_int) (ma_cons (me_listc B.list_ (ma_cons (me_var 9 rfl rfl) ma_nil)) ma_nil)))) (me_var 10 rfl rfl)) (mw_or1 (mt_cmp1 .ne (me_var 5 rfl rfl) (me_lst (ma_cons (me_listc B.list_ (ma_cons (me_var 2 rfl rfl) ma_nil)) (ma_cons (me_listc B.list_ (ma_cons (me_var 3 rfl rfl) ma_nil)) ma_nil))))))) (mb_one (ms_ret me_bl)) mb_nil)))))))
  (mb_cons (ms_for [] (mi_seq (me_add (me_lst (ma_cons (me_call d__law_cell (ma_cons (me_var 0 rfl rfl) (ma_cons me_int ma_nil))) (ma_cons (me_call d__law_cell (ma_cons (me_var 0 rfl rfl) (ma_cons me_int ma_nil))) ma_nil))) (me_sl (me_var 0 rfl rfl) (mo_some me_int) (mo_some me_int)))) (mgs_name rfl rfl) (mb_cons (ms_set [] rfl rfl (me_call d__law_row (ma_cons (me_var 11 rfl rfl) (ma_cons me_int ma_nil))))
  (mb_cons (ms_set [] rfl rfl (me_call d__law_dense (ma_cons (me_add (me_call d__law_spread (ma_cons (me_var 2 rfl rfl) (ma_cons (me_sl (me_var 12 rfl rfl) mo_none (mo_some me_int)) ma_nil))) (me_call d__law_spread (ma_cons (me_var 3 rfl rfl) (ma_cons (me_sl (me_var 12 rfl rfl) (mo_some me_int) mo_none) ma_nil)))) ma_nil)))
  (mb_one (ms_if [false, false, false, false, false, false, false, false, true] (mt_cmp1 .ne (me_len B.len_ (ma_cons (me_f (mf_comp (own := [("made", 10)]) (mi_seq (me_var 8 rfl rfl)) (mg_name rfl rfl) (mts_one (mt_cmp1 .eq (me_var 10 rfl rfl) (me_var 13 rfl rfl))) me_int (by rfl))) ma_nil)) me_int) (mb_one (ms_ret me_bl)) mb_nil)))))
  (mb_one (ms_ret me_bl)))))))))))))
theorem ok_law {C : Ctx} {k : Nat} (B : Blt C) (d__law_cell : Def C k "_law_cell" 2 m__law_cell) (d__law_row : Def C k "_law_row" 2 m__law_row) (d__law_words : Def C k "_law_words" 2 m__law_words) (d__law_small : Def C k "_law_small" 2 m__law_small) (d__law_distinct : Def C k "_law_distinct" 1 m__law_distinct) (d__law_placings : Def C k "_law_placings" 2 m__law_placings) (d_placings : Def C k "placings" 2 m_placings) (d_joined : Def C k "joined" 3 m_joined) (d__law_joined : Def C k "_law_joined" 3 m__law_joined) (d__law_positions : Def C k "_law_positions" 2 m__law_positions) (d_alike : Def C k "alike" 2 m_alike) (d__law_spread : Def C k "_law_spread" 2 m__law_spread) (d__law_dense : Def C k "_law_dense" 1 m__law_dense) {f : Addr} {fd : FuncData} (F : Fun C.K "law" "law" s_law f fd) (hm : C.mg "law" = some (.ref f)) (bi : Binds C.K fd ["script"] []) : Def C (k + 1) "law" 1 m_law_k03 :=
  def_mk F sc_law (mb_law B d__law_cell d__law_row d__law_words d__law_small d__law_distinct d__law_placings d_placings d_joined d__law_joined d__law_positions d_alike d__law_spread d__law_dense) hm bi
end VM
/-! H_k03 -/
namespace VM
open PySem PySem.Spec PyProof.Rows L2
def spLaw (K : PySem.W.Frag) : Sp := fun vs H Q _ => ∃ (a : Addr) (ns : List Int), vs = [.ref a] ∧ SqL K H a (ns.map V.int) ∧ ns.length ≤ 63 ∧ ∀ H', Q (.bl true) H'
set_option maxHeartbeats 4000000 in
theorem all_mk {l : PySem.W.OpenLaw} {w : World} {K : PySem.W.Frag} {h : Heap} {mg : Str → Option Value} {fa f0 f1 f2 f3 f4 f5 f6 f7 f8 f9 f10 f11 f12 f13 f14 f15 f16 f17 f18 f19 : Addr} (X : K.In h) (G : h.Ns mainGlobals mg) (hfa : mg "law" = some (.ref fa))
    {od0 an0 od1 an1 od2 an2 od3 an3 od4 an4 od5 an5 od6 an6 od7 an7 od8 an8 od9 an9 od10 an10 od11 an11 od12 an12 od13 an13 od14 an14 od15 an15 od16 an16 od17 an17 od18 an18 od19 an19 : Option Addr} {sl0 sl1 sl2 sl3 sl4 sl5 sl6 sl7 sl8 sl9 sl10 sl11 sl12 sl13 sl14 sl15 sl16 sl17 sl18 sl19 : Array (Option Value)} {oc0 kV0 dc0 pm0 cd0 ct0 oc1 kV1 dc1 pm1 cd1 ct1 oc2 kV2 dc2 pm2 cd2 ct2 oc3 kV3 dc3 pm3 cd3 ct3 oc4 kV4 dc4 pm4 cd4 ct4 oc5 kV5 dc5 pm5 cd5 ct5 oc6 kV6 dc6 pm6 cd6 ct6 oc7 kV7 dc7 pm7 cd7 ct7 oc8 kV8 dc8 pm8 cd8 ct8 oc9 kV9 dc9 pm9 cd9 ct9 oc10 kV10 dc10 pm10 cd10 ct10 oc11 kV11 dc11 pm11 cd11 ct11 oc12 kV12 dc12 pm12 cd12 ct12 oc13 kV13 dc13 pm13 cd13 ct13 oc14 kV14 dc14 pm14 cd14 ct14 oc15 kV15 dc15 pm15 cd15 ct15 oc16 kV16 dc16 pm16 cd16 ct16 oc17 kV17 dc17 pm17 cd17 ct17 oc18 kV18 dc18 pm18 cd18 ct18 oc19 kV19 dc19 pm19 cd19 ct19 : Value}
    (a0 : PySem.W.nsIn K mainGlobals "_law_cell" = some (some (.ref f0))) (l0 : K.lookup f0 = some ⟨oc0, od0, .func (PySem.W.fnOf "_law_cell" "_law_cell" (defArgs s__law_cell) (defBody s__law_cell) (defScope s__law_cell) .none kV0 dc0 pm0 an0 cd0 ct0), sl0⟩) (c0 : PySem.W.codeIn K cd0 "_law_cell" = true) (k0 : PySem.W.keepIn K (.ref f0) = true)
    (a1 : PySem.W.nsIn K mainGlobals "_law_row" = some (some (.ref f1))) (l1 : K.lookup f1 = some ⟨oc1, od1, .func (PySem.W.fnOf "_law_row" "_law_row" (defArgs s__law_row) (defBody s__law_row) (defScope s__law_row) .none kV1 dc1 pm1 an1 cd1 ct1), sl1⟩) (c1 : PySem.W.codeIn K cd1 "_law_row" = true) (k1 : PySem.W.keepIn K (.ref f1) = true)
    (a2 : PySem.W.nsIn K mainGlobals "_law_word" = some (some (.ref f2))) (l2 : K.lookup f2 = some ⟨oc2, od2, .func (PySem.W.fnOf "_law_word" "_law_word" (defArgs s__law_word) (defBody s__law_word) (defScope s__law_word) .none kV2 dc2 pm2 an2 cd2 ct2), sl2⟩) (c2 : PySem.W.codeIn K cd2 "_law_word" = true) (k2 : PySem.W.keepIn K (.ref f2) = true)
    (a3 : PySem.W.nsIn K mainGlobals "_law_words" = some (some (.ref f3))) (l3 : K.lookup f3 = some ⟨oc3, od3, .func (PySem.W.fnOf "_law_words" "_law_words" (defArgs s__law_words) (defBody s__law_words) (defScope s__law_words) .none kV3 dc3 pm3 an3 cd3 ct3), sl3⟩) (c3 : PySem.W.codeIn K cd3 "_law_words" = true) (k3 : PySem.W.keepIn K (.ref f3) = true)
    (a4 : PySem.W.nsIn K mainGlobals "_law_input" = some (some (.ref f4))) (l4 : K.lookup f4 = some ⟨oc4, od4, .func (PySem.W.fnOf "_law_input" "_law_input" (defArgs s__law_input) (defBody s__law_input) (defScope s__law_input) .none kV4 dc4 pm4 an4 cd4 ct4), sl4⟩) (c4 : PySem.W.codeIn K cd4 "_law_input" = true) (k4 : PySem.W.keepIn K (.ref f4) = true)
    (a5 : PySem.W.nsIn K mainGlobals "_law_small" = some (some (.ref f5))) (l5 : K.lookup f5 = some ⟨oc5, od5, .func (PySem.W.fnOf "_law_small" "_law_small" (defArgs s__law_small) (defBody s__law_small) (defScope s__law_small) .none kV5 dc5 pm5 an5 cd5 ct5), sl5⟩) (c5 : PySem.W.codeIn K cd5 "_law_small" = true) (k5 : PySem.W.keepIn K (.ref f5) = true)
    (a6 : PySem.W.nsIn K mainGlobals "_law_distinct" = some (some (.ref f6))) (l6 : K.lookup f6 = some ⟨oc6, od6, .func (PySem.W.fnOf "_law_distinct" "_law_distinct" (defArgs s__law_distinct) (defBody s__law_distinct) (defScope s__law_distinct) .none kV6 dc6 pm6 an6 cd6 ct6), sl6⟩) (c6 : PySem.W.codeIn K cd6 "_law_distinct" = true) (k6 : PySem.W.keepIn K (.ref f6) = true)
    (a7 : PySem.W.nsIn K mainGlobals "_law_placings" = some (some (.ref f7))) (l7 : K.lookup f7 = some ⟨oc7, od7, .func (PySem.W.fnOf "_law_placings" "_law_placings" (defArgs s__law_placings) (defBody s__law_placings) (defScope s__law_placings) .none kV7 dc7 pm7 an7 cd7 ct7), sl7⟩) (c7 : PySem.W.codeIn K cd7 "_law_placings" = true) (k7 : PySem.W.keepIn K (.ref f7) = true)
    (a8 : PySem.W.nsIn K mainGlobals "different" = some (some (.ref f8))) (l8 : K.lookup f8 = some ⟨oc8, od8, .func (PySem.W.fnOf "different" "different" (defArgs s_different) (defBody s_different) (defScope s_different) .none kV8 dc8 pm8 an8 cd8 ct8), sl8⟩) (c8 : PySem.W.codeIn K cd8 "different" = true) (k8 : PySem.W.keepIn K (.ref f8) = true)
    (a9 : PySem.W.nsIn K mainGlobals "lowest" = some (some (.ref f9))) (l9 : K.lookup f9 = some ⟨oc9, od9, .func (PySem.W.fnOf "lowest" "lowest" (defArgs s_lowest) (defBody s_lowest) (defScope s_lowest) .none kV9 dc9 pm9 an9 cd9 ct9), sl9⟩) (c9 : PySem.W.codeIn K cd9 "lowest" = true) (k9 : PySem.W.keepIn K (.ref f9) = true)
    (a10 : PySem.W.nsIn K mainGlobals "placings" = some (some (.ref f10))) (l10 : K.lookup f10 = some ⟨oc10, od10, .func (PySem.W.fnOf "placings" "placings" (defArgs s_placings) (defBody s_placings) (defScope s_placings) .none kV10 dc10 pm10 an10 cd10 ct10), sl10⟩) (c10 : PySem.W.codeIn K cd10 "placings" = true) (k10 : PySem.W.keepIn K (.ref f10) = true)
    (a11 : PySem.W.nsIn K mainGlobals "dense" = some (some (.ref f11))) (l11 : K.lookup f11 = some ⟨oc11, od11, .func (PySem.W.fnOf "dense" "dense" (defArgs s_dense) (defBody s_dense) (defScope s_dense) .none kV11 dc11 pm11 an11 cd11 ct11), sl11⟩) (c11 : PySem.W.codeIn K cd11 "dense" = true) (k11 : PySem.W.keepIn K (.ref f11) = true)
    (a12 : PySem.W.nsIn K mainGlobals "joined" = some (some (.ref f12))) (l12 : K.lookup f12 = some ⟨oc12, od12, .func (PySem.W.fnOf "joined" "joined" (defArgs s_joined) (defBody s_joined) (defScope s_joined) .none kV12 dc12 pm12 an12 cd12 ct12), sl12⟩) (c12 : PySem.W.codeIn K cd12 "joined" = true) (k12 : PySem.W.keepIn K (.ref f12) = true)
    (a13 : PySem.W.nsIn K mainGlobals "_law_dense" = some (some (.ref f13))) (l13 : K.lookup f13 = some ⟨oc13, od13, .func (PySem.W.fnOf "_law_dense" "_law_dense" (defArgs s__law_dense) (defBody s__law_dense) (defScope s__law_dense) .none kV13 dc13 pm13 an13 cd13 ct13), sl13⟩) (c13 : PySem.W.codeIn K cd13 "_law_dense" = true) (k13 : PySem.W.keepIn K (.ref f13) = true)
    (a14 : PySem.W.nsIn K mainGlobals "_law_joined" = some (some (.ref f14))) (l14 : K.lookup f14 = some ⟨oc14, od14, .func (PySem.W.fnOf "_law_joined" "_law_joined" (defArgs s__law_joined) (defBody s__law_joined) (defScope s__law_joined) .none kV14 dc14 pm14 an14 cd14 ct14), sl14⟩) (c14 : PySem.W.codeIn K cd14 "_law_joined" = true) (k14 : PySem.W.keepIn K (.ref f14) = true)
    (a15 : PySem.W.nsIn K mainGlobals "_law_position" = some (some (.ref f15))) (l15 : K.lookup f15 = some ⟨oc15, od15, .func (PySem.W.fnOf "_law_position" "_law_position" (defArgs s__law_position) (defBody s__law_position) (defScope s__law_position) .none kV15 dc15 pm15 an15 cd15 ct15), sl15⟩) (c15 : PySem.W.codeIn K cd15 "_law_position" = true) (k15 : PySem.W.keepIn K (.ref f15) = true)
    (a16 : PySem.W.nsIn K mainGlobals "_law_positions" = some (some (.ref f16))) (l16 : K.lookup f16 = some ⟨oc16, od16, .func (PySem.W.fnOf "_law_positions" "_law_positions" (defArgs s__law_positions) (defBody s__law_positions) (defScope s__law_positions) .none kV16 dc16 pm16 an16 cd16 ct16), sl16⟩) (c16 : PySem.W.codeIn K cd16 "_law_positions" = true) (k16 : PySem.W.keepIn K (.ref f16) = true)
    (a17 : PySem.W.nsIn K mainGlobals "alike" = some (some (.ref f17))) (l17 : K.lookup f17 = some ⟨oc17, od17, .func (PySem.W.fnOf "alike" "alike" (defArgs s_alike) (defBody s_alike) (defScope s_alike) .none kV17 dc17 pm17 an17 cd17 ct17), sl17⟩) (c17 : PySem.W.codeIn K cd17 "alike" = true) (k17 : PySem.W.keepIn K (.ref f17) = true)
    (a18 : PySem.W.nsIn K mainGlobals "_law_spread" = some (some (.ref f18))) (l18 : K.lookup f18 = some ⟨oc18, od18, .func (PySem.W.fnOf "_law_spread" "_law_spread" (defArgs s__law_spread) (defBody s__law_spread) (defScope s__law_spread) .none kV18 dc18 pm18 an18 cd18 ct18), sl18⟩) (c18 : PySem.W.codeIn K cd18 "_law_spread" = true) (k18 : PySem.W.keepIn K (.ref f18) = true)
    (a19 : PySem.W.nsIn K mainGlobals "law" = some (some (.ref f19))) (l19 : K.lookup f19 = some ⟨oc19, od19, .func (PySem.W.fnOf "law" "law" (defArgs s_law) (defBody s_law) (defScope s_law) .none kV19 dc19 pm19 an19 cd19 ct19), sl19⟩) (c19 : PySem.W.codeIn K cd19 "law" = true) (k19 : PySem.W.keepIn K (.ref f19) = true)
    (z_len : PySem.W.nsIn K mainGlobals "len" = some none)
    (z_int : PySem.W.nsIn K mainGlobals "int" = some none)
    (z_tuple : PySem.W.nsIn K mainGlobals "tuple" = some none)
    (z_list : PySem.W.nsIn K mainGlobals "list" = some none)
    (z_range : PySem.W.nsIn K mainGlobals "range" = some none)
    (z_enumerate : PySem.W.nsIn K mainGlobals "enumerate" = some none)
    (z_zip : PySem.W.nsIn K mainGlobals "zip" = some none)
    (z_sorted : PySem.W.nsIn K mainGlobals "sorted" = some none)
    (z_set : PySem.W.nsIn K mainGlobals "set" = some none)
    (z_isinstance : PySem.W.nsIn K mainGlobals "isinstance" = some none)
    (z_bool : PySem.W.nsIn K mainGlobals "bool" = some none)
    : ∃ fd : FuncData, (∀ (s : Shared) (v : Value), BindsTo s fd ⟨[v], []⟩ [("script", v)]) ∧ ∀ base : Heap, K.In base → base.Ns mainGlobals mg → FnOk l.prog w K mg base CX0 4 fa fd ["script"] (spLaw K) := by
  have e := hfa.symm.trans (PySem.W.mg_of X G a19)
  cases e
  have F0 := fun_mk (st := s__law_cell) l0 c0 k0
  have b0 := F0.binds (ps := ["script", "k"]) fun _ _ _ _ _ _ us hl => match us, hl with | [_, _], _ => rfl
  have F1 := fun_mk (st := s__law_row) l1 c1 k1
  have b1 := F1.binds (ps := ["cell", "count"]) fun _ _ _ _ _ _ us hl => match us, hl with | [_, _], _ => rfl
  have F2 := fun_mk (st := s__law_word) l2 c2 k2
  have b2 := F2.binds (ps := ["number"]) fun _ _ _ _ _ _ us hl => match us, hl with | [_], _ => rfl
  have F3 := fun_mk (st := s__law_words) l3 c3 k3
  have b3 := F3.binds (ps := ["row", "count"]) fun _ _ _ _ _ _ us hl => match us, hl with | [_, _], _ => rfl
  have F4 := fun_mk (st := s__law_input) l4 c4 k4
  have b4 := F4.binds (ps := ["names", "cell", "size"]) fun _ _ _ _ _ _ us hl => match us, hl with | [_, _, _], _ => rfl
  have F5 := fun_mk (st := s__law_small) l5 c5 k5
  have b5 := F5.binds (ps := ["names", "cell"]) fun _ _ _ _ _ _ us hl => match us, hl with | [_, _], _ => rfl
  have F6 := fun_mk (st := s__law_distinct) l6 c6 k6
  have b6 := F6.binds (ps := ["messages"]) fun _ _ _ _ _ _ us hl => match us, hl with | [_], _ => rfl
  have F7 := fun_mk (st := s__law_placings) l7 c7 k7
  have b7 := F7.binds (ps := ["first", "ending"]) fun _ _ _ _ _ _ us hl => match us, hl with | [_, _], _ => rfl
  have F8 := fun_mk (st := s_different) l8 c8 k8
  have b8 := F8.binds (ps := ["messages"]) fun _ _ _ _ _ _ us hl => match us, hl with | [_], _ => rfl
  have F9 := fun_mk (st := s_lowest) l9 c9 k9
  have b9 := F9.binds (ps := ["placing"]) fun _ _ _ _ _ _ us hl => match us, hl with | [_], _ => rfl
  have F10 := fun_mk (st := s_placings) l10 c10 k10
  have b10 := F10.binds (ps := ["first", "ending"]) fun _ _ _ _ _ _ us hl => match us, hl with | [_, _], _ => rfl
  have F11 := fun_mk (st := s_dense) l11 c11 k11
  have b11 := F11.binds (ps := ["messages"]) fun _ _ _ _ _ _ us hl => match us, hl with | [_], _ => rfl
  have F12 := fun_mk (st := s_joined) l12 c12 k12
  have b12 := F12.binds (ps := ["first", "ending", "placing"]) fun _ _ _ _ _ _ us hl => match us, hl with | [_, _, _], _ => rfl
  have F13 := fun_mk (st := s__law_dense) l13 c13 k13
  have b13 := F13.binds (ps := ["messages"]) fun _ _ _ _ _ _ us hl => match us, hl with | [_], _ => rfl
  have F14 := fun_mk (st := s__law_joined) l14 c14 k14
  have b14 := F14.binds (ps := ["first", "ending", "placing"]) fun _ _ _ _ _ _ us hl => match us, hl with | [_, _, _], _ => rfl
  have F15 := fun_mk (st := s__law_position) l15 c15 k15
  have b15 := F15.binds (ps := ["number", "others"]) fun _ _ _ _ _ _ us hl => match us, hl with | [_, _], _ => rfl
  have F16 := fun_mk (st := s__law_positions) l16 c16 k16
  have b16 := F16.binds (ps := ["messages", "size"]) fun _ _ _ _ _ _ us hl => match us, hl with | [_, _], _ => rfl
  have F17 := fun_mk (st := s_alike) l17 c17 k17
  have b17 := F17.binds (ps := ["first", "second"]) fun _ _ _ _ _ _ us hl => match us, hl with | [_, _], _ => rfl
  have F18 := fun_mk (st := s__law_spread) l18 c18 k18
  have b18 := F18.binds (ps := ["messages", "row"]) fun _ _ _ _ _ _ us hl => match us, hl with | [_, _], _ => rfl
  have F19 := fun_mk (st := s_law) l19 c19 k19
  refine ⟨PySem.W.fnOf "law" "law" (defArgs s_law) (defBody s_law) (defScope s_law) .none kV19 dc19 pm19 an19 cd19 ct19, fun s v => .of_eq rfl, fun base _ _ => ?_⟩
  let C : Ctx := ⟨l.prog, w, K, mg, base⟩
  have B : Blt C := ⟨PySem.W.mg_none_of X G z_len, PySem.W.mg_none_of X G z_int, PySem.W.mg_none_of X G z_tuple, PySem.W.mg_none_of X G z_list, PySem.W.mg_none_of X G z_range, PySem.W.mg_none_of X G z_enumerate, PySem.W.mg_none_of X G z_zip, PySem.W.mg_none_of X G z_sorted, PySem.W.mg_none_of X G z_set, PySem.W.mg_none_of X G z_isinstance, PySem.W.mg_none_of X G z_bool⟩
  have D__law_cell : Def C 1 "_law_cell" 2 m__law_cell := ok__law_cell (k := 0) B F0 (PySem.W.mg_of X G a0) b0
  have D__law_row : Def C 1 "_law_row" 2 m__law_row := ok__law_row (k := 0) B F1 (PySem.W.mg_of X G a1) b1
  have D__law_word : Def C 1 "_law_word" 1 m__law_word := ok__law_word (k := 0) B F2 (PySem.W.mg_of X G a2) b2
  have D__law_words : Def C 2 "_law_words" 2 m__law_words := ok__law_words (k := 1) B (D__law_word.mono (by decide)) F3 (PySem.W.mg_of X G a3) b3
  have D__law_input : Def C 2 "_law_input" 3 m__law_input := ok__law_input (k := 1) B (D__law_row.mono (by decide)) F4 (PySem.W.mg_of X G a4) b4
  have D__law_small : Def C 3 "_law_small" 2 m__law_small := ok__law_small (k := 2) B (D__law_input.mono (by decide)) F5 (PySem.W.mg_of X G a5) b5
  have D__law_distinct : Def C 1 "_law_distinct" 1 m__law_distinct := ok__law_distinct (k := 0) B F6 (PySem.W.mg_of X G a6) b6
  have D__law_placings : Def C 2 "_law_placings" 2 m__law_placings := ok__law_placings (k := 1) B (D__law_distinct.mono (by decide)) F7 (PySem.W.mg_of X G a7) b7
  have D_different : Def C 1 "different" 1 m_different := ok_different (k := 0) B F8 (PySem.W.mg_of X G a8) b8
  have D_lowest : Def C 1 "lowest" 1 m_lowest := ok_lowest (k := 0) B F9 (PySem.W.mg_of X G a9) b9
  have D_placings : Def C 2 "placings" 2 m_placings := ok_placings (k := 1) B (D_different.mono (by decide)) (D_lowest.mono (by decide)) F10 (PySem.W.mg_of X G a10) b10
  have D_dense : Def C 2 "dense" 1 m_dense := ok_dense (k := 1) B (D_different.mono (by decide)) F11 (PySem.W.mg_of X G a11) b11
  have D_joined : Def C 3 "joined" 3 m_joined := ok_joined (k := 2) B (D_different.mono (by decide)) (D_dense.mono (by decide)) F12 (PySem.W.mg_of X G a12) b12
  have D__law_dense : Def C 1 "_law_dense" 1 m__law_dense := ok__law_dense (k := 0) B F13 (PySem.W.mg_of X G a13) b13
  have D__law_joined : Def C 2 "_law_joined" 3 m__law_joined := ok__law_joined (k := 1) B (D__law_distinct.mono (by decide)) (D__law_dense.mono (by decide)) F14 (PySem.W.mg_of X G a14) b14
  have D__law_position : Def C 1 "_law_position" 2 m__law_position := ok__law_position (k := 0) B F15 (PySem.W.mg_of X G a15) b15
  have D__law_positions : Def C 2 "_law_positions" 2 m__law_positions := ok__law_positions (k := 1) B (D__law_distinct.mono (by decide)) (D__law_position.mono (by decide)) F16 (PySem.W.mg_of X G a16) b16
  have D_alike : Def C 3 "alike" 2 m_alike := ok_alike (k := 2) B (D_dense.mono (by decide)) F17 (PySem.W.mg_of X G a17) b17
  have D__law_spread : Def C 2 "_law_spread" 2 m__law_spread := ok__law_spread (k := 1) B (D__law_distinct.mono (by decide)) F18 (PySem.W.mg_of X G a18) b18
  have FL := def_fn F19 sc_law (mb_law (k := 3) B (D__law_cell.mono (by decide)) (D__law_row.mono (by decide)) (D__law_words.mono (by decide)) (D__law_small.mono (by decide)) (D__law_distinct.mono (by decide)) (D__law_placings.mono (by decide)) (D_placings.mono (by decide)) (D_joined.mono (by decide)) (D__law_joined.mono (by decide)) (D__law_positions.mono (by decide)) (D_alike.mono (by decide)) (D__law_spread.mono (by decide)) (D__law_dense.mono (by decide)))
  refine FL.imp fun vs H Q E q => ?_
  obtain ⟨a, ns, rfl, hS, hl, q⟩ := q
  refine ⟨rfl, H, [.ro (ns.map .int)], .bl true, fun _ _ h => h, .cons (.ro hS (ints_reps ns)) .nil, fin_k03 ns hl, fun v F' H' x r => ?_⟩
  cases r
  exact q H'
theorem walk {l : PySem.W.OpenLaw} {q : Program} {loose : List Str} {XP : (Str → Option Value) → Heap → Prop} {YP : World → Heap → Prop} {d : DefRec} {K : Params → PySem.W.Frag} (hn : l.most = some 63) (hdf : d.params.defaults = [])
    (hY : ∀ (w : World) (h : Heap), YP w h → (K w.params).In h)
    (F : ∀ (w : World) (mg : Str → Option Value) (fa : Addr) (h : Heap), (K w.params).In h → h.Ns mainGlobals mg → mg d.name = some (.ref fa) →
      ∃ fd : FuncData, (∀ (s : Shared) (u : Value), BindsTo s fd ⟨[u], []⟩ [("script", u)]) ∧ ∀ base : Heap, (K w.params).In base → base.Ns mainGlobals mg → FnOk l.prog w (K w.params) mg base CX0 4 fa fd ["script"] (spLaw (K w.params))) :
    PySem.W.WalkO q loose XP YP l.row.toRowW d [] (fun f vs => PySem.call f vs) :=
  L2.walk_of (n := 63) (k := 4) (x := "script") (CX := fun _ => CX0) (sp := fun w => spLaw (K w.params)) hn (by decide) hdf ⟨rfl, by decide, by decide⟩ hY F (fun _ _ a ns hl _ hS => ⟨a, ns, rfl, hS, hl, fun _ => rfl⟩) fun _ _ _ _ _ z => z
end VM

open PySem PySem.W PyProof.Rows in
set_option maxRecDepth 100000 in
set_option maxHeartbeats 0 in
theorem PySem.Challenge.cw_leastlearnt_k03_placings_holds : PySem.Challenge.rw_leastlearnt_k03_placings.Holds := by
  w_on; o_law; k_head; (case hw => w_witness2)
  k_fill
  refine VM.walk (l := PySem.Challenge.rw_leastlearnt_k03_placings) rfl rfl (fun w h Y => PySem.W.kIn_of Y) ?F
  case F =>
    intro w mg fa h KX G hmg
    refine' VM.all_mk KX G hmg ?a0 ?l0 ?c0 ?k0 ?a1 ?l1 ?c1 ?k1 ?a2 ?l2 ?c2 ?k2 ?a3 ?l3 ?c3 ?k3 ?a4 ?l4 ?c4 ?k4 ?a5 ?l5 ?c5 ?k5 ?a6 ?l6 ?c6 ?k6 ?a7 ?l7 ?c7 ?k7 ?a8 ?l8 ?c8 ?k8 ?a9 ?l9 ?c9 ?k9 ?a10 ?l10 ?c10 ?k10 ?a11 ?l11 ?c11 ?k11 ?a12 ?l12 ?c12 ?k12 ?a13 ?l13 ?c13 ?k13 ?a14 ?l14 ?c14 ?k14 ?a15 ?l15 ?c15 ?k15 ?a16 ?l16 ?c16 ?k16 ?a17 ?l17 ?c17 ?k17 ?a18 ?l18 ?c18 ?k18 ?a19 ?l19 ?c19 ?k19 ?z_len ?z_int ?z_tuple ?z_list ?z_range ?z_enumerate ?z_zip ?z_sorted ?z_set ?z_isinstance ?z_bool
    (case a0 => k_is)
    (case l0 => k_is)
    (case c0 => k_is)
    (case k0 => k_is)
    (case a1 => k_is)
    (case l1 => k_is)
    (case c1 => k_is)
    (case k1 => k_is)
    (case a2 => k_is)
    (case l2 => k_is)
    (case c2 => k_is)
    (case k2 => k_is)
    (case a3 => k_is)
    (case l3 => k_is)
    (case c3 => k_is)
    (case k3 => k_is)
    (case a4 => k_is)
    (case l4 => k_is)
    (case c4 => k_is)
    (case k4 => k_is)
    (case a5 => k_is)
    (case l5 => k_is)
    (case c5 => k_is)
    (case k5 => k_is)
    (case a6 => k_is)
    (case l6 => k_is)
    (case c6 => k_is)
    (case k6 => k_is)
    (case a7 => k_is)
    (case l7 => k_is)
    (case c7 => k_is)
    (case k7 => k_is)
    (case a8 => k_is)
    (case l8 => k_is)
    (case c8 => k_is)
    (case k8 => k_is)
    (case a9 => k_is)
    (case l9 => k_is)
    (case c9 => k_is)
    (case k9 => k_is)
    (case a10 => k_is)
    (case l10 => k_is)
    (case c10 => k_is)
    (case k10 => k_is)
    (case a11 => k_is)
    (case l11 => k_is)
    (case c11 => k_is)
    (case k11 => k_is)
    (case a12 => k_is)
    (case l12 => k_is)
    (case c12 => k_is)
    (case k12 => k_is)
    (case a13 => k_is)
    (case l13 => k_is)
    (case c13 => k_is)
    (case k13 => k_is)
    (case a14 => k_is)
    (case l14 => k_is)
    (case c14 => k_is)
    (case k14 => k_is)
    (case a15 => k_is)
    (case l15 => k_is)
    (case c15 => k_is)
    (case k15 => k_is)
    (case a16 => k_is)
    (case l16 => k_is)
    (case c16 => k_is)
    (case k16 => k_is)
    (case a17 => k_is)
    (case l17 => k_is)
    (case c17 => k_is)
    (case k17 => k_is)
    (case a18 => k_is)
    (case l18 => k_is)
    (case c18 => k_is)
    (case k18 => k_is)
    (case a19 => k_is)
    (case l19 => k_is)
    (case c19 => k_is)
    (case k19 => k_is)
    (case z_len => k_is)
    (case z_int => k_is)
    (case z_tuple => k_is)
    (case z_list => k_is)
    (case z_range => k_is)
    (case z_enumerate => k_is)
    (case z_zip => k_is)
    (case z_sorted => k_is)
    (case z_set => k_is)
    (case z_isinstance => k_is)
    (case z_bool => k_is)
#print axioms PySem.Challenge.cw_leastlearnt_k03_placings_holds
