import PyProof.Rows.All
import Wide.All
import OpenK.AllK
import Wide.FinOn
import HandS.ForMost
import HandS.TupMul
import HandS.TupAny
import HandS.TupSets
import HandS.Conv
import HandS.Property
import HandS.IsInst
import HandS.MakeKwOnly
import HandS.MakeKw
import HandS.SetBool
import PySem.Challenge.RW_firstbreach_k04_statuses
set_option Elab.async false
set_option linter.all false
set_option maxRecDepth 100000
set_option maxHeartbeats 4000000
/-! operations that the layer lacks: lists put together wherever they stand, a tuple once -/
namespace EL
open PySem L2 PySem.Spec PyProof.Rows
section
variable {X : Cx}
def rCatS (K : PySem.W.Frag) : R2 := fun x y H Q => ∃ l b vs ws, x = .ref l ∧ y = .ref b ∧ SqL K H l vs ∧ SqL K H b ws ∧ vs.length + ws.length ≤ sizeLine ∧ ∀ p, H p = none → Q (.ref p) (upd H p (.lst (vs ++ ws)))
theorem op_catS : OpR X (binaryOp .Add) (rCatS X.K) := by
  intro pins s σ H x y v u Q I rx ry h
  obtain ⟨l, b, xs, zs, rfl, rfl, h1, h2, hz, q⟩ := h
  cases rx
  cases ry
  obtain ⟨is1, r1, p1, _⟩ := I.list h1
  obtain ⟨is2, r2, p2, _⟩ := I.list h2
  obtain ⟨⟨c1, g1, t1, s1⟩, hc1, ec1, n1, ed1⟩ := id p1.isList
  obtain ⟨⟨c2, g2, t2, s2⟩, hc2, ec2, n2, ed2⟩ := id p2.isList
  simp only at ec1 ed1 ec2 ed2
  subst ec1 ed1 ec2 ed2
  have el1 := r1.length
  have el2 := r2.length
  refine concat_meets ⟨_, hc1, rfl⟩ ⟨_, hc2, rfl⟩ noFill_list_add seq_list_add PySem.F.slot_list_add PySem.F.entry_list_add (PySem.F.args_list_add_2 _ _) (list_addW l b is1.toArray is2.toArray n1 n2 g1 g2 s1 s2 (by rw [List.size_toArray, List.size_toArray]; omega)) ⟨hc1, hc2, ?_⟩
  have ea : is1.toArray ++ is2.toArray = (is1 ++ is2).toArray := by simp
  rw [ea]
  exact ⟨.ref _, _, I.lnew (t' := s.toks) (r1.append r2) (by rw [List.length_append]; omega), rfl, q _ I.fresh⟩
theorem tuple_once (l : Addr) (its : Array Value) (n : Nat) (dd : Option Addr) (sl : Array (Option Value)) (u : Tok) :
    Meets (Builtin.«tuple.__mul__» ⟨[.ref l, .int 1 u], []⟩) (fun _ R s => s.heap.get? l = some { cls := .type "tuple", dict := dd, data := .seq its n, slots := sl } ∧
      R (.ok (.ret (Value.ref l))) s) :=
  .of_wp fun prog w A R s h => by
    obtain ⟨hp, g, d, tk, os⟩ := s
    obtain ⟨hl, h⟩ := h
    have f1 := AutoSeq1.idx_int
    wp_walk using wpAny_loadPart' hl
    exact ⟨_, rfl, h⟩
def rRep1 (K : PySem.W.Frag) : R2 := fun x y H Q => ∃ l k xs, x = .ref l ∧ y = .int k ∧ SqT K H l xs ∧ ((k = 1 ∧ Q (.ref l) H) ∨ (xs ≠ [] ∧ 2 ≤ k ∧ k ≤ 1000 ∧ xs.length ≤ 1000 ∧ ∀ p, H p = none → Q (.ref p) (upd H p (.tup (List.replicate k.toNat xs).flatten))))
theorem op_rep1 : OpR X (binaryOp .Mult) (rRep1 X.K) := by
  intro pins s σ H x y v u Q I rx ry h
  obtain ⟨l, k, xs, rfl, rfl, hT, ⟨rfl, q⟩ | ⟨a1, a2, a3, a4, q⟩⟩ := h
  · cases rx
    obtain ⟨t, rfl⟩ := ry
    obtain ⟨its, r, ⟨⟨c1, g1, t1, s1⟩, ho, ec, n, ed⟩, hs⟩ := I.tuple hT
    simp only at ec ed
    subst ec ed
    refine wpAny_binaryOp_repeat_ref (T := "tuple") (U := "int") (by decide) ⟨_, ho, rfl⟩ (fun s' => typeIs_int s' 1 t) noFill_tuple_mul F.fills_int_mul F.slot_int_rmul repeat_tuple F.slot_int_index.lookup ?_
    refine call_meets F.slot_int_rmul (typeIs_int s 1 t) F.entry_int_rmul (F.args_int_rmul_2 _ _) (int_rmul_tuple 1 t l its.toArray n g1 s1) ⟨ho, rfl, ⟨_, ho, rfl⟩, ?_⟩
    exact call_meets F.slot_tuple_mul ⟨_, ho, rfl⟩ F.entry_tuple_mul (F.args_tuple_mul_2 _ _) (tuple_once l its.toArray n g1 s1 t) ⟨ho, .ref l, H, I, rfl, q⟩
  · exact op_repT pins s σ H _ _ v u Q I rx ry ⟨l, k, xs, rfl, rfl, hT, a1, a2, a3, a4, q⟩
end
end EL

set_option Elab.async false
set_option linter.all false
set_option maxRecDepth 100000
/-! trees of data, what they stand for in a heap, and what it means that an expression gives a tree -/
namespace EL
open PySem L2

/-- data as trees; obj c fs: an instance of the c-th class -/
inductive D where
  | non | bl (b : Bool) | int (i : Int) | str (s : Str)
  | tup (xs : List D) | lst (xs : List D)
  | dK (kvs : List (Key × D)) | dT (kvs : List (List Key × D))
  | obj (c : Nat) (fs : List (Str × D))

/-- what is told of the module: its written part, where the classes stand -/
structure Gl0 where
  P : Program
  w : World
  K : PySem.W.Frag
  mg : Str → Option Value
  base : Heap
  cls : Nat → Addr

mutual
inductive Rep (G : Gl0) (F : Hp) : V → D → Prop
  | non : Rep G F .non .non
  | bl (b : Bool) : Rep G F (.bl b) (.bl b)
  | int (i : Int) : Rep G F (.int i) (.int i)
  | str (s : Str) : Rep G F (.str s) (.str s)
  | tup {a : Addr} {vs : List V} {ds : List D} : SqT G.K F a vs → RepL G F vs ds → Rep G F (.ref a) (.tup ds)
  | lst {a : Addr} {vs : List V} {ds : List D} : SqL G.K F a vs → RepL G F vs ds → Rep G F (.ref a) (.lst ds)
  | dK {a : Addr} {kvs : List (Key × V)} {ds : List (Key × D)} : F a = some (.dK kvs) → kvs.map (·.1) = ds.map (·.1) → RepL G F (kvs.map (·.2)) (ds.map (·.2)) → Rep G F (.ref a) (.dK ds)
  | dT {a : Addr} {kvs : List (List Key × V)} {ds : List (List Key × D)} : F a = some (.dT kvs) → kvs.map (·.1) = ds.map (·.1) → RepL G F (kvs.map (·.2)) (ds.map (·.2)) → Rep G F (.ref a) (.dT ds)
  | obj {a dx : Addr} {c : Nat} {fs : List (Str × V)} {ds : List (Str × D)} : F a = some (.ins (G.cls c) dx fs) → fs.map (·.1) = ds.map (·.1) → RepL G F (fs.map (·.2)) (ds.map (·.2)) → Rep G F (.ref a) (.obj c ds)
inductive RepL (G : Gl0) (F : Hp) : List V → List D → Prop
  | nil : RepL G F [] []
  | cons {v : V} {d : D} {vs : List V} {ds : List D} : Rep G F v d → RepL G F vs ds → RepL G F (v :: vs) (d :: ds)
end

/-- all of F stands in H -/
def Le (F H : Hp) : Prop := ∀ a o, F a = some o → H a = some o
theorem Le.refl (F : Hp) : Le F F := fun _ _ h => h
theorem Le.trans {F G H : Hp} (a : Le F G) (b : Le G H) : Le F H := fun x o h => b x o (a x o h)
theorem Le.none {F H : Hp} (l : Le F H) {a : Addr} (h : H a = none) : F a = none := by
  cases q : F a with
  | none => rfl
  | some o => rw [l a o q] at h; cases h
theorem Le.sqT {K : PySem.W.Frag} {F H : Hp} {a : Addr} {xs : List V} (l : Le F H) (h : SqT K F a xs) : SqT K H a xs := by
  rcases h with (h | ⟨o, h⟩) | h
  · exact .inl (.inl (l _ _ h))
  · exact .inl (.inr ⟨o, l _ _ h⟩)
  · exact .inr h
theorem Le.sqL {K : PySem.W.Frag} {F H : Hp} {a : Addr} {xs : List V} (l : Le F H) (h : SqL K F a xs) : SqL K H a xs := by
  rcases h with (h | ⟨o, h⟩) | h
  · exact .inl (.inl (l _ _ h))
  · exact .inl (.inr ⟨o, l _ _ h⟩)
  · exact .inr h
mutual
theorem Rep.mono {G : Gl0} {F H : Hp} (l : Le F H) : ∀ {v : V} {d : D}, Rep G F v d → Rep G H v d
  | _, _, .non => .non
  | _, _, .bl b => .bl b
  | _, _, .int i => .int i
  | _, _, .str s => .str s
  | _, _, .tup h r => .tup (l.sqT h) (RepL.mono l r)
  | _, _, .lst h r => .lst (l.sqL h) (RepL.mono l r)
  | _, _, .dK h k r => .dK (l _ _ h) k (RepL.mono l r)
  | _, _, .dT h k r => .dT (l _ _ h) k (RepL.mono l r)
  | _, _, .obj h k r => .obj (l _ _ h) k (RepL.mono l r)
theorem RepL.mono {G : Gl0} {F H : Hp} (l : Le F H) : ∀ {vs : List V} {ds : List D}, RepL G F vs ds → RepL G H vs ds
  | _, _, .nil => .nil
  | _, _, .cons h r => .cons (Rep.mono l h) (RepL.mono l r)
end
theorem RepL.length {G : Gl0} {F : Hp} : ∀ {vs : List V} {ds : List D}, RepL G F vs ds → vs.length = ds.length
  | _, _, .nil => rfl
  | _, _, .cons _ r => by rw [List.length_cons, List.length_cons, RepL.length r]
theorem RepL.get {G : Gl0} {F : Hp} : ∀ {vs : List V} {ds : List D} {i : Nat} {d : D}, RepL G F vs ds → ds[i]? = some d → ∃ v, vs[i]? = some v ∧ Rep G F v d
  | _, _, _, _, .nil, h => by simp at h
  | _, _, 0, _, .cons r _, h => by
    simp only [List.getElem?_cons_zero, Option.some.injEq] at h
    subst h
    exact ⟨_, rfl, r⟩
  | _, _, i + 1, _, .cons _ t, h => by
    rw [List.getElem?_cons_succ] at h
    obtain ⟨v, e, r⟩ := RepL.get t h
    exact ⟨v, by rw [List.getElem?_cons_succ]; exact e, r⟩
theorem RepL.getV {G : Gl0} {F : Hp} : ∀ {vs : List V} {ds : List D} {i : Nat} {v : V}, RepL G F vs ds → vs[i]? = some v → ∃ d, ds[i]? = some d ∧ Rep G F v d
  | _, _, _, _, .nil, h => by simp at h
  | _, _, 0, _, .cons r _, h => by
    simp only [List.getElem?_cons_zero, Option.some.injEq] at h
    subst h
    exact ⟨_, rfl, r⟩
  | _, _, i + 1, _, .cons _ t, h => by
    rw [List.getElem?_cons_succ] at h
    obtain ⟨v, e, r⟩ := RepL.getV t h
    exact ⟨v, by rw [List.getElem?_cons_succ]; exact e, r⟩
theorem RepL.append {G : Gl0} {F : Hp} : ∀ {vs ws : List V} {ds es : List D}, RepL G F vs ds → RepL G F ws es → RepL G F (vs ++ ws) (ds ++ es)
  | _, _, _, _, .nil, r => r
  | _, _, _, _, .cons h t, r => .cons h (RepL.append t r)

/-- F', H' grew out of F, H: what is new in F' was free in H -/
structure New (F H F' H' : Hp) : Prop where
  ff : Le F F'
  hh : Le H H'
  fh : Le F' H'
  fr : ∀ a, F' a ≠ none → F a = none → H a = none
theorem New.refl {F H : Hp} (l : Le F H) : New F H F H := ⟨.refl _, .refl _, l, fun _ h e => absurd e h⟩
theorem New.trans {F H F1 H1 F2 H2 : Hp} (a : New F H F1 H1) (b : New F1 H1 F2 H2) : New F H F2 H2 := by
  refine ⟨a.ff.trans b.ff, a.hh.trans b.hh, b.fh, fun x h e => ?_⟩
  cases q : F1 x with
  | none => exact a.hh.none (b.fr x h q)
  | some o => exact a.fr x (by rw [q]; exact Option.some_ne_none o) e
theorem New.alloc {F H : Hp} {p : Addr} (o : HO) (l : Le F H) (n : H p = none) : New F H (upd F p o) (upd H p o) := by
  have nf : F p = none := l.none n
  refine ⟨fun a u e => ?_, fun a u e => ?_, fun a u e => ?_, fun a h e => ?_⟩
  · rw [upd_ne (ne_of_none e nf)]; exact e
  · rw [upd_ne (ne_of_none e n)]; exact e
  · by_cases q : a = p
    · subst q; rw [upd_same] at e ⊢; exact e
    · rw [upd_ne q] at e ⊢; exact l _ _ e
  · by_cases q : a = p
    · subst q; exact n
    · rw [upd_ne q] at h; exact absurd e h
/-- a new object that is not frozen -/
theorem New.allocH {F H : Hp} {p : Addr} (o : HO) (l : Le F H) (n : H p = none) : New F H F (upd H p o) := by
  refine ⟨.refl _, fun a u e => ?_, fun a u e => ?_, fun a h e => absurd e h⟩
  · rw [upd_ne (ne_of_none e n)]; exact e
  · rw [upd_ne (ne_of_none (l _ _ e) n)]; exact l _ _ e

/-! ### what code does, said of its own trees -/
def WE (X : Cx) (e : Expr) : TE := fun σ H Q => ∀ (pins : List (Addr × Obj)) (s : Shared), Inv X pins σ H s → wpAny (model X.prog X.w) X.A (eval e X.env) (EP X pins σ Q) X.xe s
def WT (X : Cx) (e : Expr) : TT := fun σ H Q => ∀ (pins : List (Addr × Obj)) (s : Shared), Inv X pins σ H s → wpAny (model X.prog X.w) X.A (isTrue e X.env (eval e X.env)) (TP X pins σ Q) X.xe s
def WA (X : Cx) (es : List Expr) : TA := fun σ H Q => ∀ (pos : Pos) (pins : List (Addr × Obj)) (s : Shared), Inv X pins σ H s → wpAny (model X.prog X.w) X.A (spliced (backTo pos (starEach es X.env))) (AP X pins σ Q) X.xe s
def WS (X : Cx) (st : Stmt) : TS := fun D σ H => ∀ (pins : List (Addr × Obj)) (s : Shared), Inv X pins σ H s → wpAny (model X.prog X.w) X.A (exec st X.env) (SP X pins D) X.xe s
def WSs (X : Cx) (st : List Stmt) : TS := fun D σ H => ∀ (pins : List (Addr × Obj)) (s : Shared), Inv X pins σ H s → wpAny (model X.prog X.w) X.A (execs st X.env) (SP X pins D) X.xe s
theorem WE.pe {X : Cx} {e : Expr} : PE X e (WE X e) := ⟨fun pins s _ _ _ I h => h pins s I⟩
theorem WT.pt {X : Cx} {e : Expr} : PT X e (WT X e) := ⟨fun pins s _ _ _ I h => h pins s I⟩
theorem WA.pa {X : Cx} {e : List Expr} : PA X e (WA X e) := ⟨fun pos pins s _ _ _ I h => h pos pins s I⟩
theorem WS.ps {X : Cx} {e : Stmt} : PS X e (WS X e) := ⟨fun pins s _ _ _ I h => h pins s I⟩
theorem WSs.pss {X : Cx} {e : List Stmt} : PSs X e (WSs X e) := ⟨fun pins s _ _ _ I h => h pins s I⟩
theorem WE.of {X : Cx} {e : Expr} {t : TE} (h : PE X e t) {σ : L2.St} {H : Hp} {Q : VK} (q : t σ H Q) : WE X e σ H Q := fun pins s I => h.run pins s σ H Q I q
theorem WT.of {X : Cx} {e : Expr} {t : TT} (h : PT X e t) {σ : L2.St} {H : Hp} {Q : Bool → Hp → Prop} (q : t σ H Q) : WT X e σ H Q := fun pins s I => h.run pins s σ H Q I q
theorem WA.of {X : Cx} {e : List Expr} {t : TA} (h : PA X e t) {σ : L2.St} {H : Hp} {Q : List V → Hp → Prop} (q : t σ H Q) : WA X e σ H Q := fun pos pins s I => h.run pos pins s σ H Q I q
theorem WS.of {X : Cx} {e : Stmt} {t : TS} (h : PS X e t) {σ : L2.St} {H : Hp} {D : Ends} (q : t D σ H) : WS X e D σ H := fun pins s I => h.run pins s σ H D I q
theorem WSs.of {X : Cx} {e : List Stmt} {t : TS} (h : PSs X e t) {σ : L2.St} {H : Hp} {D : Ends} (q : t D σ H) : WSs X e D σ H := fun pins s I => h.run pins s σ H D I q

/-- the expression gives the tree d, all that it makes being frozen behind it -/
def Gives (G : Gl0) (X : Cx) (e : Expr) (σ : L2.St) (F H : Hp) (d : D) : Prop := ∀ Q : VK, (∀ v F' H', New F H F' H' → Rep G F' v d → Q v H') → WE X e σ H Q
def GivesT (X : Cx) (e : Expr) (σ : L2.St) (F H : Hp) (b : Bool) : Prop := ∀ Q : Bool → Hp → Prop, (∀ F' H', New F H F' H' → Q b H') → WT X e σ H Q
def GivesA (G : Gl0) (X : Cx) (es : List Expr) (σ : L2.St) (F H : Hp) (ds : List D) : Prop := ∀ Q : List V → Hp → Prop, (∀ vs F' H', New F H F' H' → RepL G F' vs ds → Q vs H') → WA X es σ H Q
end EL

set_option Elab.async false
set_option linter.all false
set_option maxRecDepth 100000
/-! slots, what a cell stands for; the operations on trees -/
namespace EL
open PySem L2

/-- what a cell holds, its children frozen -/
def Cell (G : Gl0) (F : Hp) : HO → D → Prop
  | .lst vs, .lst ds => RepL G F vs ds
  | .dK kvs, .dK ds => kvs.map (·.1) = ds.map (·.1) ∧ RepL G F (kvs.map (·.2)) (ds.map (·.2))
  | .dT kvs, .dT ds => kvs.map (·.1) = ds.map (·.1) ∧ RepL G F (kvs.map (·.2)) (ds.map (·.2))
  | .ins C _ fs, .obj c ds => C = G.cls c ∧ fs.map (·.1) = ds.map (·.1) ∧ RepL G F (fs.map (·.2)) (ds.map (·.2))
  | _, _ => False
theorem Cell.mono {G : Gl0} {F F' : Hp} (l : Le F F') {o : HO} {d : D} (h : Cell G F o d) : Cell G F' o d := by
  cases o <;> cases d <;> first
    | exact (show False from h).elim
    | exact RepL.mono l h
    | exact ⟨h.1, RepL.mono l h.2⟩
    | exact ⟨h.1, h.2.1, RepL.mono l h.2.2⟩
theorem Cell.rep {G : Gl0} {F : Hp} {a : Addr} {o : HO} {d : D} (e : F a = some o) (h : Cell G F o d) : Rep G F (.ref a) d := by
  cases o <;> cases d <;> first
    | exact (show False from h).elim
    | exact .lst (.inl (.inl e)) h
    | exact .dK e h.1 h.2
    | exact .dT e h.1 h.2
    | (have h1 := h.1; subst h1; exact .obj e h.2.1 h.2.2)

/-- a slot: nothing known; a tree; the only name of a cell -/
inductive SV where
  | un | sh (d : D) | ow (d : D) | me (d : D)

structure EnvR (G : Gl0) (m : Addr) (F H : Hp) (σ : L2.St) (env : List SV) : Prop where
  len : env.length = σ.length
  sh : ∀ (i : Nat) (d : D), env[i]? = some (.sh d) → ∃ v, σ[i]? = some (some v) ∧ Rep G F v d
  ow : ∀ (i : Nat) (d : D), env[i]? = some (.ow d) → ∃ a o, σ[i]? = some (some (.ref a)) ∧ F a = none ∧ H a = some o ∧ Cell G F o d
  ne : ∀ (i j : Nat) (a : Addr) (d e : D), env[i]? = some (.ow d) → env[j]? = some (.ow e) → σ[i]? = some (some (.ref a)) → σ[j]? = some (some (.ref a)) → i = j
  me : ∀ (i : Nat) (d : D), env[i]? = some (.me d) → σ[i]? = some (some (.ref m)) ∧ F m = none ∧ ∃ o, H m = some o ∧ Cell G F o d
  mo : ∀ (i j : Nat) (d e : D), env[i]? = some (.me d) → env[j]? = some (.ow e) → σ[j]? ≠ some (some (.ref m))
  mi : ∀ (i j : Nat) (d e : D), env[i]? = some (.me d) → env[j]? = some (.me e) → i = j

theorem EnvR.new {G : Gl0} {m : Addr} {F H F' H' : Hp} {σ : L2.St} {env : List SV} (r : EnvR G m F H σ env) (n : New F H F' H') : EnvR G m F' H' σ env := by
  have keep : ∀ {a : Addr} {o : HO}, F a = none → H a = some o → F' a = none := fun {a o} h2 h3 => by
    cases q : F' a with
    | none => rfl
    | some u =>
      have z := n.fr a (by rw [q]; exact Option.some_ne_none u) h2
      rw [h3] at z
      cases z
  refine ⟨r.len, fun i d e => ?_, fun i d e => ?_, r.ne, fun i d e => ?_, r.mo, r.mi⟩
  · obtain ⟨v, h1, h2⟩ := r.sh i d e
    exact ⟨v, h1, h2.mono n.ff⟩
  · obtain ⟨a, o, h1, h2, h3, h4⟩ := r.ow i d e
    exact ⟨a, o, h1, keep h2 h3, n.hh _ _ h3, h4.mono n.ff⟩
  · obtain ⟨h1, h2, o, h3, h4⟩ := r.me i d e
    exact ⟨h1, keep h2 h3, o, n.hh _ _ h3, h4.mono n.ff⟩

/-- a value that stands for d; br: it may also be the only name of a cell (read, not handed on) -/
def RepB (G : Gl0) (br : Bool) (F H : Hp) (v : V) (d : D) : Prop := Rep G F v d ∨ (br = true ∧ ∃ a o, v = .ref a ∧ H a = some o ∧ Cell G F o d)
theorem RepB.of {G : Gl0} {br : Bool} {F H : Hp} {v : V} {d : D} (h : Rep G F v d) : RepB G br F H v d := .inl h
theorem RepB.rep {G : Gl0} {F H : Hp} {v : V} {d : D} (h : RepB G false F H v d) : Rep G F v d := h.elim id (fun z => absurd z.1 Bool.false_ne_true)
theorem RepB.new {G : Gl0} {br : Bool} {F H F' H' : Hp} {v : V} {d : D} (h : RepB G br F H v d) (n : New F H F' H') : RepB G br F' H' v d := by
  rcases h with h | ⟨b, a, o, e, h1, h2⟩
  · exact .inl (h.mono n.ff)
  · exact .inr ⟨b, a, o, e, n.hh _ _ h1, h2.mono n.ff⟩
section
variable {G : Gl0} {br : Bool} {F H : Hp} {v : V}
theorem RepB.int {i : Int} (h : RepB G br F H v (.int i)) : v = .int i := by
  rcases h with h | ⟨_, a, o, rfl, _, h⟩
  · cases h; rfl
  · cases o <;> exact (show False from h).elim
theorem RepB.bl {i : Bool} (h : RepB G br F H v (.bl i)) : v = .bl i := by
  rcases h with h | ⟨_, a, o, rfl, _, h⟩
  · cases h; rfl
  · cases o <;> exact (show False from h).elim
theorem RepB.str {i : Str} (h : RepB G br F H v (.str i)) : v = .str i := by
  rcases h with h | ⟨_, a, o, rfl, _, h⟩
  · cases h; rfl
  · cases o <;> exact (show False from h).elim
theorem RepB.non (h : RepB G br F H v .non) : v = .non := by
  rcases h with h | ⟨_, a, o, rfl, _, h⟩
  · cases h; rfl
  · cases o <;> exact (show False from h).elim
theorem RepB.tup {ds : List D} (l : Le F H) (h : RepB G br F H v (.tup ds)) : ∃ a vs, v = .ref a ∧ SqT G.K H a vs ∧ RepL G F vs ds := by
  rcases h with h | ⟨_, a, o, rfl, _, h⟩
  · cases h with
    | tup h r => exact ⟨_, _, rfl, l.sqT h, r⟩
  · cases o <;> exact (show False from h).elim
theorem RepB.lst {ds : List D} (l : Le F H) (h : RepB G br F H v (.lst ds)) : ∃ a vs, v = .ref a ∧ SqL G.K H a vs ∧ RepL G F vs ds := by
  rcases h with h | ⟨_, a, o, rfl, e, h⟩
  · cases h with
    | lst h r => exact ⟨_, _, rfl, l.sqL h, r⟩
  · cases o <;> first
      | exact (show False from h).elim
      | exact ⟨a, _, rfl, .inl (.inl e), h⟩
theorem RepB.dK {ds : List (Key × D)} (l : Le F H) (h : RepB G br F H v (.dK ds)) : ∃ a kvs, v = .ref a ∧ H a = some (.dK kvs) ∧ kvs.map (·.1) = ds.map (·.1) ∧ RepL G F (kvs.map (·.2)) (ds.map (·.2)) := by
  rcases h with h | ⟨_, a, o, rfl, e, h⟩
  · cases h with
    | dK h k r => exact ⟨_, _, rfl, l _ _ h, k, r⟩
  · cases o <;> first
      | exact (show False from h).elim
      | exact ⟨a, _, rfl, e, h.1, h.2⟩
theorem RepB.dT {ds : List (List Key × D)} (l : Le F H) (h : RepB G br F H v (.dT ds)) : ∃ a kvs, v = .ref a ∧ H a = some (.dT kvs) ∧ kvs.map (·.1) = ds.map (·.1) ∧ RepL G F (kvs.map (·.2)) (ds.map (·.2)) := by
  rcases h with h | ⟨_, a, o, rfl, e, h⟩
  · cases h with
    | dT h k r => exact ⟨_, _, rfl, l _ _ h, k, r⟩
  · cases o <;> first
      | exact (show False from h).elim
      | exact ⟨a, _, rfl, e, h.1, h.2⟩
theorem RepB.obj {c : Nat} {ds : List (Str × D)} (l : Le F H) (h : RepB G br F H v (.obj c ds)) : ∃ a dx fs, v = .ref a ∧ H a = some (.ins (G.cls c) dx fs) ∧ fs.map (·.1) = ds.map (·.1) ∧ RepL G F (fs.map (·.2)) (ds.map (·.2)) := by
  rcases h with h | ⟨_, a, o, rfl, e, h⟩
  · cases h with
    | obj h k r => exact ⟨_, _, _, rfl, l _ _ h, k, r⟩
  · cases o <;> first
      | exact (show False from h).elim
      | (have h1 := h.1; subst h1; exact ⟨a, _, _, rfl, e, h.2.1, h.2.2⟩)
end
/-- what is found in a row of pairs -/
theorem look_rep {κ : Type} [DecidableEq κ] {G : Gl0} {F : Hp} : ∀ {kvs : List (κ × V)} {ds : List (κ × D)} {k : κ} {d : D}, kvs.map (·.1) = ds.map (·.1) → RepL G F (kvs.map (·.2)) (ds.map (·.2)) → ds.lookup k = some d → ∃ v, kvs.lookup k = some v ∧ Rep G F v d
  | [], [], _, _, _, _, h => by simp at h
  | [], _ :: _, _, _, e, _, _ => by simp at e
  | _ :: _, [], _, _, e, _, _ => by simp at e
  | (k1, v1) :: kvs, (k2, d2) :: ds, k, d, e, r, h => by
    simp only [List.map_cons, List.cons.injEq] at e
    obtain ⟨e1, e2⟩ := e
    have e1 : k1 = k2 := e1
    subst e1
    cases r with
    | cons r1 r2 =>
      by_cases q : k = k1
      · subst q
        rw [List.lookup_cons_self] at h ⊢
        cases h
        exact ⟨v1, rfl, r1⟩
      · have q' : (k == k1) = false := by simp [q]
        rw [List.lookup_cons, q'] at h ⊢
        exact look_rep e2 r2 h
theorem look_none {κ : Type} [DecidableEq κ] {α β : Type} : ∀ {kvs : List (κ × α)} {ds : List (κ × β)} {k : κ}, kvs.map (·.1) = ds.map (·.1) → ds.lookup k = none → kvs.lookup k = none
  | [], [], _, _, _ => rfl
  | [], _ :: _, _, e, _ => by simp at e
  | _ :: _, [], _, e, _ => by simp at e
  | (k1, v1) :: kvs, (k2, d2) :: ds, k, e, h => by
    simp only [List.map_cons, List.cons.injEq] at e
    obtain ⟨e1, e2⟩ := e
    have e1 : k1 = k2 := e1
    subst e1
    by_cases q : k = k1
    · subst q
      rw [List.lookup_cons_self] at h
      cases h
    · have q' : (k == k1) = false := by simp [q]
      rw [List.lookup_cons, q'] at h ⊢
      exact look_none e2 h
/-- what an expression gives, by mode -/
def GivB (G : Gl0) (br : Bool) (X : Cx) (e : Expr) (σ : L2.St) (F H : Hp) (d : D) : Prop := ∀ Q : VK, (∀ v F' H', New F H F' H' → RepB G br F' H' v d → Q v H') → WE X e σ H Q
end EL

set_option Elab.async false
set_option linter.all false
set_option maxRecDepth 100000
/-! the code's shape with its names resolved (IE), that it is the shape of a tree (chk), what it gives (ev) -/
namespace EL
open PySem L2

inductive IT where
  | nm (i : Nat) | us (i : Nat) | tp (ts : List IT)
inductive Bi where
  | len | min | max | abs | int | bool | all | any | sum | sorted | tuple | list | isBool | isInt | isTup | isList | isStr
  deriving DecidableEq
inductive Bm where
  | join | index | get
  deriving DecidableEq

mutual
inductive IE where
  | var (i : Nat)
  | int (i : Int) | bl (b : Bool) | non | str (s : Str)
  | con (k : Nat)
  | bin (op : Operator) (a b : IE)
  | neg (a : IE)
  | cmp (op : CmpOp) (a b : IE)
  | chn (p q : CmpOp) (a b c : IE)
  | and (a b : IE) | or (a b : IE) | one (a : IE)
  | not (a : IE) | ite (c : IB) (a b : IE)
  | tup (es : List IE) | lst (es : List IE)
  | idx (a b : IE)
  | fld (a : IE) (k : Nat)
  | prp (a : IE) (k : Nat)
  | call (k : Nat) (es : List IE)
  | meth (k : Nat) (o : IE) (es : List IE)
  | bi (b : Bi) (es : List IE)
  | isi (b : Bi) (a : IE)
  | mk (k : Nat) (es : List IE)
  | mkk (k : Nat) (es : List IE) (z : IE)
  | jn (o a : IE)
  | lrg (a : IE)
  | lsc (t : IT) (it : II) (ifs : List IB) (e : IE) (own : List (Str × Nat))
  | lc (t : IT) (it : II) (ifs : List IB) (e : IE) (own : List (Str × Nat))
inductive IB where
  | and (a b : IB) | or (a b : IB) | one (a : IB)
  | not (a : IB) | ite (c a b : IB)
  | cmp (op : CmpOp) (a b : IE)
  | chn (p q : CmpOp) (a b c : IE)
  | tru (e : IE)
inductive II where
  | rng1 (a : IE) | rng2 (a b : IE) | zip (a b : IE) | enm (a : IE) | ex (e : IE)
end

/-- own functions: name, arity, what they give -/
structure FnE where
  name : Str
  ar : Nat
  sem : List D → Option D
/-- own methods: class, name, arity (self counted), what they give -/
structure MeE where
  cls : Nat
  name : Str
  ar : Nat
  sem : List D → Option D
/-- own classes that are made: name, number, arguments (self not counted), keywords, what is made -/
structure MkE where
  name : Str
  cls : Nat
  ar : Nat
  kw : List Str
  sem : List D → Option D
structure Sig where
  fns : List FnE
  mks : List MkE
  mes : List MeE
  prs : List MeE
  fls : List (Nat × Str)
  con : List (Str × D)
  blt : List Str

def opB : Operator → Operator → Bool
  | .Add, .Add => true | .Sub, .Sub => true | .Mult, .Mult => true | .FloorDiv, .FloorDiv => true | .Mod, .Mod => true | .Pow, .Pow => true
  | _, _ => false
def cmB : CmpOp → CmpOp → Bool
  | .Eq, .Eq => true | .NotEq, .NotEq => true | .Lt, .Lt => true | .LtE, .LtE => true | .Gt, .Gt => true | .GtE, .GtE => true
  | .In, .In => true | .NotIn, .NotIn => true | .Is, .Is => true | .IsNot, .IsNot => true | _, _ => false
def intB (a b : Int) : Bool := decide (a = b)
def strB (a b : Str) : Bool := decide (a = b)
def visB (sc : Scope) (x : Str) : Bool := match sc.names.lookup x with | some .local => true | some .cell => true | some .free => true | _ => false
def locB (sc : Scope) (x : Str) : Bool := match sc.names.lookup x with | some .local => true | _ => false
def celB (sc : Scope) (x : Str) : Bool := match sc.names.lookup x with | some .cell => true | _ => false
/-- what a def's own statements may store to -/
def stoB (sc : Scope) (x : Str) : Bool := locB sc x || celB sc x
def glB (sc : Scope) (x : Str) : Bool := match sc.names.lookup x with | some .globalImplicit => true | _ => false
def okN (x : Str) : Bool := !(x == ("__debug__" : Str)) && !(x == ("__classdict__" : Str)) && !(x == ("__name__" : Str))

def Bi.nm : Bi → Str
  | .len => "len" | .min => "min" | .max => "max" | .abs => "abs" | .int => "int" | .bool => "bool" | .all => "all" | .any => "any" | .sum => "sum" | .sorted => "sorted"
  | .tuple => "tuple" | .list => "list" | .isBool => "isinstance" | .isInt => "isinstance" | .isTup => "isinstance" | .isList => "isinstance" | .isStr => "isinstance"
/-- the class that an isinstance asks for -/
def Bi.ty : Bi → Option Str
  | .isBool => some "bool" | .isInt => some "int" | .isTup => some "tuple" | .isList => some "list" | .isStr => some "str" | _ => none
def Bm.nm : Bm → Str
  | .join => "join" | .index => "index" | .get => "get"

mutual
def chkT (N : List Str) (p : Str → Bool) : IT → Expr → Bool
  | .nm i, .Name x _ => decide (N[i]? = some x) && p x
  | .us i, .Name x _ => decide (N[i]? = some x) && p x
  | .tp ts, .Tuple es _ _ => chkTs N p ts es
  | _, _ => false
def chkTs (N : List Str) (p : Str → Bool) : List IT → List Expr → Bool
  | [], [] => true
  | t :: ts, e :: es => chkT N p t e && chkTs N p ts es
  | _, _ => false
end

mutual
/-- the slots of a target are among own -/
def inOwn (own : List Nat) : IT → Bool
  | .nm i => own.contains i
  | .us i => own.contains i
  | .tp ts => inOwns own ts
def inOwns (own : List Nat) : List IT → Bool
  | [] => true
  | t :: ts => inOwn own t && inOwns own ts
end
/-- a global name -/
def isG (sc : Scope) (x y : Str) : Bool := decide (x = y) && glB sc x && okN x

def baseB : Expr → Bool
  | .Call (.Name _ _) [] [] _ => false
  | _ => true
/-- heads whose test is their value's truth -/
def plainB : Expr → Bool
  | .Name _ _ => true | .Call _ _ _ _ => true | .Attribute _ _ _ => true | .Subscript _ _ _ => true | .Constant _ _ _ => true | .BinOp _ _ _ _ => true
  | _ => false
mutual
def chk (S : Sig) (N : List Str) (sc : Scope) : IE → Expr → Bool
  | .var i, .Name x _ => decide (N[i]? = some x) && visB sc x && okN x
  | .int i, .Constant (.int j) _ _ => intB i j
  | .bl a, .Constant (.bool b) _ _ => a == b
  | .non, .Constant .none _ _ => true
  | .str a, .Constant (.str b) _ _ => strB a b
  | .con k, .Name x _ => (match S.con[k]? with | some (y, _) => isG sc x y | none => false)
  | .bin o a b, .BinOp ea oe eb _ => opB o oe && chk S N sc a ea && chk S N sc b eb
  | .neg a, .UnaryOp .USub e _ => chk S N sc a e
  | .cmp o a b, .Compare ea [oe] [eb] _ => cmB o oe && !(behindInMarks oe eb) && chk S N sc a ea && chk S N sc b eb
  | .chn p q a b c, .Compare ea [pe, qe] [eb, ec] _ => cmB p pe && cmB q qe && !(lastMarks [pe, qe] [eb, ec]) && chk S N sc a ea && chk S N sc b eb && chk S N sc c ec
  | .and a b, .BoolOp .And (x :: y :: r) pos => chk S N sc a x && chk S N sc b (.BoolOp .And (y :: r) pos)
  | .or a b, .BoolOp .Or (x :: y :: r) pos => chk S N sc a x && chk S N sc b (.BoolOp .Or (y :: r) pos)
  | .one a, .BoolOp _ [x] _ => chk S N sc a x
  | .not a, .UnaryOp .Not e _ => chk S N sc a e
  | .ite c a b, .IfExp ec ea eb _ => chkB S N sc c ec && chk S N sc a ea && chk S N sc b eb
  | .tup es, .Tuple xs _ _ => chks S N sc es xs
  | .lst es, .List xs _ => chks S N sc es xs
  | .idx a b, .Subscript ea eb _ => chk S N sc a ea && chk S N sc b eb
  | .fld a k, .Attribute e f _ => baseB e && (match S.fls[k]? with | some (_, g) => decide (f = g) | none => false) && chk S N sc a e
  | .prp a k, .Attribute e f _ => baseB e && (match S.prs[k]? with | some m => decide (f = m.name) | none => false) && chk S N sc a e
  | .call k es, .Call (.Name x _) (y :: ys) [] _ => decide (ys.length < 25) && (match S.fns[k]? with | some f => isG sc x f.name | none => false) && chks S N sc es (y :: ys)
  | .meth k o es, .Call (.Attribute eo m ap) (y :: ys) [] cp => decide (ys.length < 25) && baseB eo && (ap.endLine == cp.line) && (match S.mes[k]? with | some f => decide (m = f.name) | none => false) && chk S N sc o eo && chks S N sc es (y :: ys)
  | .bi b es, .Call (.Name x _) (y :: ys) [] _ => b.ty.isNone && isG sc x b.nm && S.blt.contains b.nm && chks S N sc es (y :: ys)
  | .mk k es, .Call (.Name x _) (y :: ys) [] _ => decide (ys.length < 25) && (match S.mks[k]? with | some f => f.kw.isEmpty && isG sc x f.name | none => false) && chks S N sc es (y :: ys)
  | .mkk k es z, .Call (.Name x _) (y :: ys) [⟨some kn, kv, _⟩] _ => decide (ys.length < 25) && (match S.mks[k]? with | some f => decide (f.kw = [kn]) && isG sc x f.name | none => false) && chks S N sc es (y :: ys) && chk S N sc z kv
  | .isi b a, .Call (.Name x _) [y, .Name z _] [] _ => isG sc x b.nm && S.blt.contains b.nm && (match b.ty with | none => false | some t => isG sc z t && S.blt.contains t) && chk S N sc a y
  | .lsc t it ifs e own, .Call (.Name x _) [.SetComp elt [⟨tg, iter, fs, 0⟩] scope _] [] _ => isG sc x "len" && S.blt.contains "len" && blkC N sc scope own && inOwn (own.map (·.2)) t && chkI S N sc it iter && chkT N (locB (relS scope sc)) t tg && chkBs S N (relS scope sc) ifs fs && chk S N (relS scope sc) e elt
  | .lrg a, .Call (.Name x _) [.Call (.Name y _) [e] [] _] [] _ => isG sc x "list" && S.blt.contains "list" && isG sc y "range" && S.blt.contains "range" && chk S N sc a e
  | .jn o a, .Call (.Attribute eo x ap) [y] [] cp => strB x "join" && baseB eo && (ap.endLine == cp.line) && chk S N sc o eo && chk S N sc a y
  | .lc t it ifs e own, .ListComp elt [⟨tg, iter, fs, 0⟩] scope _ => blkC N sc scope own && inOwn (own.map (·.2)) t && chkI S N sc it iter && chkT N (locB (relS scope sc)) t tg && chkBs S N (relS scope sc) ifs fs && chk S N (relS scope sc) e elt
  | _, _ => false
def chkB (S : Sig) (N : List Str) (sc : Scope) : IB → Expr → Bool
  | .and a b, .BoolOp .And (x :: y :: r) pos => chkB S N sc a x && chkB S N sc b (.BoolOp .And (y :: r) pos)
  | .or a b, .BoolOp .Or (x :: y :: r) pos => chkB S N sc a x && chkB S N sc b (.BoolOp .Or (y :: r) pos)
  | .one a, .BoolOp _ [x] _ => chkB S N sc a x
  | .not a, .UnaryOp .Not e _ => chkB S N sc a e
  | .cmp o a b, .Compare ea [oe] [eb] _ => cmB o oe && !(behindInMarks oe eb) && chk S N sc a ea && chk S N sc b eb
  | .chn p q a b c, .Compare ea [pe, qe] [eb, ec] _ => cmB p pe && cmB q qe && !(lastMarks [pe, qe] [eb, ec]) && chk S N sc a ea && chk S N sc b eb && chk S N sc c ec
  | .tru a, e => plainB e && chk S N sc a e
  | _, _ => false
def chkI (S : Sig) (N : List Str) (sc : Scope) : II → Expr → Bool
  | .rng1 a, .Call (.Name x _) [e] [] _ => isG sc x "range" && S.blt.contains "range" && chk S N sc a e
  | .rng2 a b, .Call (.Name x _) [e, f] [] _ => isG sc x "range" && S.blt.contains "range" && chk S N sc a e && chk S N sc b f
  | .zip a b, .Call (.Name x _) [e, f] [] _ => isG sc x "zip" && S.blt.contains "zip" && chk S N sc a e && chk S N sc b f
  | .enm a, .Call (.Name x _) [e] [] _ => isG sc x "enumerate" && S.blt.contains "enumerate" && chk S N sc a e
  | .ex a, e => chk S N sc a e
  | _, _ => false
def chks (S : Sig) (N : List Str) (sc : Scope) : List IE → List Expr → Bool
  | [], [] => true
  | i :: is, e :: es => chk S N sc i e && chks S N sc is es
  | _, _ => false
def chkBs (S : Sig) (N : List Str) (sc : Scope) : List IB → List Expr → Bool
  | [], [] => true
  | i :: is, e :: es => chkB S N sc i e && chkBs S N sc is es
  | _, _ => false
end
end EL

set_option Elab.async false
set_option linter.all false
set_option maxRecDepth 100000
/-! what the shape gives over slots (ev), a test (evT), a walked thing (evI) -/
namespace EL
open PySem L2

mutual
def toPy : D → Option PyData
  | .non => some .none
  | .bl b => some (.bool b)
  | .int i => some (.int i)
  | .str s => some (.str s)
  | .tup xs => (toPys xs).map .tuple
  | .lst xs => (toPys xs).map .list
  | _ => none
def toPys : List D → Option (List PyData)
  | [] => some []
  | x :: xs => (toPy x).bind fun y => (toPys xs).map (y :: ·)
end
/-- == where it is told -/
def eqD (x y : D) : Option Bool :=
  (toPy x).bind fun p => (toPy y).bind fun q => if SeqAt.shaped p && SeqAt.shaped q then some (PyData.eqv p q) else none
def toInts : List D → Option (List Int)
  | [] => some []
  | .int i :: r => (toInts r).map (i :: ·)
  | _ => none
def toBls : List D → Option (List Bool)
  | [] => some []
  | .bl i :: r => (toBls r).map (i :: ·)
  | _ => none
def toStrs : List D → Option (List Str)
  | [] => some []
  | .str i :: r => (toStrs r).map (i :: ·)
  | _ => none
/-- a list of tuples of ints -/
def toTups : List D → Option (List (List Int))
  | [] => some []
  | .tup xs :: r => (toInts xs).bind fun ns => (toTups r).map (ns :: ·)
  | _ => none
/-- what a set of rows holds when one more comes -/
def addU (acc : List (List Int)) (k : List Int) : List (List Int) := if k ∈ acc then acc else k :: acc
def ofTup (ns : List Int) : D := .tup (ns.map .int)
def flatD : D → Option V
  | .non => some .non | .bl b => some (.bl b) | .int i => some (.int i) | .str s => some (.str s) | _ => none
def flatDs : List D → Option (List V)
  | [] => some []
  | x :: xs => (flatD x).bind fun y => (flatDs xs).map (y :: ·)
/-- the base of a row's number -/
def bigB : Int := 1000000
/-- rows in order of their numbers -/
def insL (x : List Int) : List (List Int) → List (List Int)
  | [] => [x]
  | y :: r => if _root_.TS.code bigB y < _root_.TS.code bigB x then y :: insL x r else x :: y :: r
def sortL : List (List Int) → List (List Int)
  | [] => []
  | x :: r => insL x (sortL r)
/-- all of one length, all of them small -/
def evenL (ns : List (List Int)) : Bool := match ns with
  | [] => true
  | n :: _ => decide (1 ≤ n.length) && ns.all fun m => decide (m.length = n.length) && m.all fun i => decide (0 ≤ i) && decide (i < bigB)
def insI (x : Int) : List Int → List Int
  | [] => [x]
  | y :: r => if y < x then y :: insI x r else x :: y :: r
def sortI : List Int → List Int
  | [] => []
  | x :: r => insI x (sortI r)
def maxI : Int → List Int → Int
  | m, [] => m
  | m, x :: r => maxI (if m < x then x else m) r
def minI : Int → List Int → Int
  | m, [] => m
  | m, x :: r => minI (if x < m then x else m) r

def mulOk (i j : Int) : Bool := (decide (-(2 ^ 64) < i) && decide (i < 2 ^ 64)) || (decide (-(2 ^ 64) < j) && decide (j < 2 ^ 64))
def binD (o : Operator) (x y : D) : Option D :=
  match o, x, y with
  | .Add, .int i, .int j => some (.int (i + j))
  | .Sub, .int i, .int j => some (.int (i - j))
  | .Mult, .int i, .int j => if mulOk i j then some (.int (i * j)) else none
  | .FloorDiv, .int i, .int j => if decide (j ≠ 0) && decide (j.natAbs < 1073741824) then some (.int (i.fdiv j)) else none
  | .Mod, .int i, .int j => if decide (j ≠ 0) then some (.int (i.fmod j)) else none
  | .Pow, .int i, .int j => if decide (0 ≤ j) && decide (j ≤ 1000000) && decide (i.natAbs < 2 ^ 64) then some (.int (i ^ j.toNat)) else none
  | .Add, .str i, .str j => if i.length + j.length ≤ sizeLine then some (.str (i ++ j)) else none
  | .Add, .lst xs, .lst ys => if xs.length + ys.length ≤ 100000 then some (.lst (xs ++ ys)) else none
  | .Add, .tup xs, .tup ys => if xs.length + ys.length ≤ 100000 then some (.tup (xs ++ ys)) else none
  | .Mult, .tup xs, .int j => if j = 1 then some (.tup xs) else if decide (xs ≠ []) && decide (2 ≤ j) && decide (j ≤ 1000) && decide (xs.length ≤ 1000) then some (.tup (List.replicate j.toNat xs).flatten) else none
  | _, _, _ => none
def inD (x y : D) : Option Bool :=
  match x, y with
  | .str a, .str b => some (!(Builtin.Str.occurrences b a 0 b.length 1).isEmpty)
  | x, .lst ys => (flatD x).bind fun v => (flatDs ys).map fun vs => inV v vs
  | x, .tup ys => (flatD x).bind fun v => (flatDs ys).map fun vs => inV v vs
  | _, _ => none
def cmpD (o : CmpOp) (x y : D) : Option Bool :=
  match o with
  | .Eq => eqD x y
  | .NotEq => (eqD x y).map (!·)
  | .Lt => (match x, y with | .int i, .int j => some (decide (i < j)) | _, _ => none)
  | .LtE => (match x, y with | .int i, .int j => some (decide (i ≤ j)) | _, _ => none)
  | .Gt => (match x, y with | .int i, .int j => some (decide (j < i)) | _, _ => none)
  | .GtE => (match x, y with | .int i, .int j => some (decide (j ≤ i)) | _, _ => none)
  | .In => inD x y
  | .NotIn => (inD x y).map (!·)
  | .Is => (match x, y with | .non, .non => some true | .int _, .non => some false | .bl _, .non => some false | .str _, .non => some false | .tup _, .non => some false | .lst _, .non => some false | .obj _ _, .non => some false | _, _ => none)
  | .IsNot => (match x, y with | .non, .non => some false | .int _, .non => some true | .bl _, .non => some true | .str _, .non => some true | .tup _, .non => some true | .lst _, .non => some true | .obj _ _, .non => some true | _, _ => none)
def truD : D → Option Bool
  | .non => some false
  | .bl b => some b
  | .int i => some (i != 0)
  | .str s => if s.length ≤ sizeLine then some ((s.length : Int) != 0) else none
  | .tup xs => some (!xs.isEmpty)
  | .lst xs => some (!xs.isEmpty)
  | .dK kvs => some (!kvs.isEmpty)
  | _ => none
def idxD : D → D → Option D
  | .tup xs, .int i => atI xs i
  | .lst xs, .int i => atI xs i
  | _, _ => none
def bsem : Bi → List D → Option D
  | .len, [.lst xs] => some (.int xs.length)
  | .len, [.tup xs] => some (.int xs.length)
  | .len, [.str s] => if s.length ≤ sizeLine then some (.int s.length) else none
  | .min, [.int i, .int j] => some (.int (if j < i then j else i))
  | .max, [.int i, .int j] => some (.int (if j > i then j else i))
  | .min, [.lst xs] => (match toInts xs with | some (m :: r) => some (.int (minI m r)) | _ => none)
  | .max, [.lst xs] => (match toInts xs with | some (m :: r) => some (.int (maxI m r)) | _ => none)
  | .abs, [.int i] => some (.int (if i < 0 then -i else i))
  | .int, [.int i] => some (.int i)
  | .int, [.bl b] => some (.int (if b then 1 else 0))
  | .all, [.lst xs] => (toBls xs).map fun bs => .bl (bs.all id)
  | .any, [.lst xs] => (toBls xs).map fun bs => .bl (bs.any id)
  | .sum, [.lst xs] => (toInts xs).map fun ns => .int ns.sum
  | .tuple, [.lst xs] => some (.tup xs)
  | .tuple, [.tup xs] => some (.tup xs)
  | .list, [.lst xs] => some (.lst xs)
  | .list, [.tup xs] => some (.lst xs)
  | .sorted, [.lst xs] => (toTups xs).bind fun ns => if decide (ns.length < 64) && evenL ns then some (.lst ((sortL ns).map ofTup)) else none
  | .bool, [.bl b] => some (.bl b)
  | .bool, [.int i] => some (.bl (i != 0))
  | .isBool, [.bl _] => some (.bl true)
  | .isBool, [.int _] => some (.bl false)
  | .isInt, [.bl _] => some (.bl true)
  | .isInt, [.int _] => some (.bl true)
  | _, _ => none
/-- a text's signs -/
def strD (z : Str) : List D := z.cps.toList.map fun c => .str ⟨#[c]⟩
def bmsem : Bm → D → List D → Option D
  | .join, .str a, [.lst xs] => (toStrs xs).bind fun ys => if (ys.map (·.length)).sum + ys.length * a.length ≤ 16777216 then some (.str (Txt.join a ys)) else none
  | _, _, _ => none

mutual
def bindT : IT → D → List SV → Option (List SV)
  | .nm i, d, env => if i < env.length then some (env.set i (.sh d)) else none
  | .us i, d, env => if i < env.length then some (env.set i (.sh d)) else none
  | .tp ts, .tup ds, env => bindTs ts ds env
  | _, _, _ => none
def bindTs : List IT → List D → List SV → Option (List SV)
  | [], [], env => some env
  | t :: ts, d :: ds, env => (bindT t d env).bind (bindTs ts ds)
  | _, _, _ => none
end
def wipeE (env : List SV) : List Nat → List SV
  | [] => env
  | v :: vs => (wipeE env vs).set v .un
def compL (f : D → Option (Option D)) : List D → Option (List D)
  | [] => some []
  | d :: ds => (f d).bind fun o => (compL f ds).map fun r => match o with | none => r | some y => y :: r

/-- what is made is of the class -/
def mkD (m : MkE) : Option D → Option D
  | some (.obj c fs) => if c = m.cls then some (.obj c fs) else none
  | _ => none
mutual
def ev (S : Sig) (br : Bool) : IE → List SV → Option D
  | .var i, env => (match env[i]? with | some (.sh d) => some d | some (.ow d) => if br then some d else none | some (.me d) => if br then some d else none | _ => none)
  | .int i, _ => some (.int i)
  | .bl b, _ => some (.bl b)
  | .non, _ => some .non
  | .str s, _ => some (.str s)
  | .con k, _ => S.con[k]?.map (·.2)
  | .bin o a b, env => (ev S true a env).bind fun x => (ev S true b env).bind fun y => binD o x y
  | .neg a, env => (match ev S true a env with | some (.int i) => some (.int (-i)) | _ => none)
  | .cmp o a b, env => (ev S true a env).bind fun x => (ev S true b env).bind fun y => (cmpD o x y).map .bl
  | .chn p q a b c, env => (ev S true a env).bind fun x => (ev S true b env).bind fun y => (cmpD p x y).bind fun k =>
      if k then (ev S true c env).bind fun z => (cmpD q y z).map .bl else some (.bl false)
  | .and a b, env => (match ev S true a env with | some (.bl true) => ev S br b env | some (.bl false) => some (.bl false) | _ => none)
  | .or a b, env => (match ev S true a env with | some (.bl true) => some (.bl true) | some (.bl false) => ev S br b env | _ => none)
  | .one a, env => ev S br a env
  | .not a, env => (match ev S true a env with | some (.bl k) => some (.bl (!k)) | _ => none)
  | .ite c a b, env => (match evT S c env with | some true => ev S br a env | some false => ev S br b env | none => none)
  | .tup es, env => if es.length ≤ 1000 then (evs S false es env).map .tup else none
  | .lst es, env => if es.length ≤ 1000 then (evs S false es env).map .lst else none
  | .idx a b, env => (ev S true a env).bind fun x => (ev S true b env).bind fun y => idxD x y
  | .fld a k, env => (match ev S true a env, S.fls[k]? with | some (.obj c fs), some (c', f) => if c = c' then fs.lookup f else none | _, _ => none)
  | .prp a k, env => (match ev S false a env, S.prs[k]? with | some (.obj c fs), some m => if c = m.cls ∧ fs.lookup m.name = none ∧ m.ar = 1 then m.sem [.obj c fs] else none | _, _ => none)
  | .call k es, env => (match S.fns[k]? with | some f => (evs S false es env).bind fun ds => if ds.length = f.ar then f.sem ds else none | none => none)
  | .meth k o es, env => (match ev S false o env, S.mes[k]? with
      | some (.obj c fs), some m => if c = m.cls ∧ fs.lookup m.name = none then (evs S false es env).bind fun ds => if ds.length + 1 = m.ar then m.sem (.obj c fs :: ds) else none else none
      | _, _ => none)
  | .bi b es, env => (evs S true es env).bind fun ds => bsem b ds
  | .mk k es, env => (match S.mks[k]? with | some m => (evs S false es env).bind fun ds => if ds.length = m.ar then mkD m (m.sem ds) else none | none => none)
  | .mkk k es z, env => (match S.mks[k]? with | some m => (evs S false es env).bind fun ds => (ev S false z env).bind fun dz => if (ds ++ [dz]).length = m.ar then mkD m (m.sem (ds ++ [dz])) else none | none => none)
  | .isi b a, env => (ev S true a env).bind fun x => bsem b [x]
  | .lsc t it ifs e own, env => (evI S true it env).bind fun ds => if ds.length < 63 then
      (compL (fun d => (bindT t d (wipeE env (own.map (·.2)))).bind fun env1 => (evTs S ifs env1).bind fun ok => if ok then (ev S false e env1).map some else some none) ds).bind fun out => (toTups out).map fun ns => .int ((ns.foldl addU []).length : Nat) else none
  | .lrg a, env => (match ev S true a env with | some (.int n) => if n < 100000 ∧ -100000 < n then some (.lst ((List.range n.toNat).map fun (i : Nat) => D.int (i : Int))) else none | _ => none)
  | .jn o a, env => (ev S true o env).bind fun x => (ev S true a env).bind fun y => bmsem .join x [y]
  | .lc t it ifs e own, env => (evI S true it env).bind fun ds => if ds.length ≤ 100000 then
      (compL (fun d => (bindT t d (wipeE env (own.map (·.2)))).bind fun env1 => (evTs S ifs env1).bind fun ok => if ok then (ev S false e env1).map some else some none) ds).map .lst else none
def evT (S : Sig) : IB → List SV → Option Bool
  | .and a b, env => (match evT S a env with | some true => evT S b env | some false => some false | none => none)
  | .or a b, env => (match evT S a env with | some true => some true | some false => evT S b env | none => none)
  | .one a, env => evT S a env
  | .not a, env => (evT S a env).map (!·)
  | .ite c a b, env => (match evT S c env with | some true => evT S a env | some false => evT S b env | none => none)
  | .cmp o a b, env => (ev S true a env).bind fun x => (ev S true b env).bind fun y => cmpD o x y
  | .chn p q a b c, env => (ev S true a env).bind fun x => (ev S true b env).bind fun y => (cmpD p x y).bind fun k =>
      if k then (ev S true c env).bind fun z => cmpD q y z else some false
  | .tru e, env => (ev S true e env).bind truD
def evI (S : Sig) (br : Bool) : II → List SV → Option (List D)
  | .rng1 a, env => (match ev S true a env with | some (.int n) => if n < 100000 ∧ -100000 < n then some ((List.range n.toNat).map fun (i : Nat) => D.int (i : Int)) else none | _ => none)
  | .rng2 a b, env => (match ev S true a env, ev S true b env with | some (.int m), some (.int n) => if -100000 < m ∧ n < 100000 ∧ m < 100000 ∧ -100000 < n then some ((List.range (n - m).toNat).map fun (i : Nat) => D.int (m + (i : Int))) else none | _, _ => none)
  | .ex e, env => (match ev S br e env with | some (.lst xs) => some xs | some (.tup xs) => some xs | some (.str z) => some (strD z) | _ => none)
  | _, _ => none
def evs (S : Sig) (br : Bool) : List IE → List SV → Option (List D)
  | [], _ => some []
  | e :: es, env => (ev S br e env).bind fun d => (evs S br es env).map fun r => d :: r
def evTs (S : Sig) : List IB → List SV → Option Bool
  | [], _ => some true
  | [c], env => evT S c env
  | _, _ => none
end
end EL

set_option Elab.async false
set_option linter.all false
set_option maxRecDepth 100000
/-! the rules, over trees -/
namespace EL
open PySem L2

/-- where code of this module stands -/
structure Cok (G : Gl0) (k : Nat) (N : List Str) (sc : Scope) (X : Cx) : Prop where
  nd : N.Nodup
  eP : X.prog = G.P
  ew : X.w = G.w
  eK : X.K = G.K
  em : X.mg = G.mg
  eb : X.base = G.base
  eN : X.N = N
  eS : X.env.scope = sc
  calm : X.calm = true
  room : Room k X.A

/-- the promise of a def that gives what sem says, and changes nothing that stands -/
def spOf (G : Gl0) (ar : Nat) (sem : List D → Option D) : Sp := fun vs H Q _ => ∃ (F : Hp) (ds : List D) (d : D), Le F H ∧ RepL G F vs ds ∧ ds.length = ar ∧ sem ds = some d ∧
  ∀ v F' H', New F H F' H' → Rep G F' v d → Q v H'
structure FnFact (G : Gl0) (k : Nat) (f : FnE) : Prop where
  ex : ∃ (a : Addr) (fd : FuncData) (ps : List Str), G.mg f.name = some (.ref a) ∧ PySem.W.keepIn G.K (.ref a) = true ∧ Binds G.K fd ps [] ∧ FnOk G.P G.w G.K G.mg G.base CX0 k a fd ps (spOf G f.ar f.sem)
structure MeFact (G : Gl0) (k : Nat) (m : MeE) : Prop where
  ex : ∃ (a : Addr) (fd : FuncData) (ps : List Str), Cls G.K (G.cls m.cls) ∧ Meth G.K (G.cls m.cls) m.name a ∧ Binds G.K fd ps [] ∧ FnOk G.P G.w G.K G.mg G.base CX0 k a fd ps (spOf G m.ar m.sem)
structure PrFact (G : Gl0) (k : Nat) (m : MeE) : Prop where
  ex : ∃ (p g : Addr) (fd : FuncData) (ps : List Str), Cls G.K (G.cls m.cls) ∧ PropOf G.K (G.cls m.cls) m.name p g ∧ Binds G.K fd ps [] ∧ FnOk G.P G.w G.K G.mg G.base CX0 (k - 1) g fd ps (spOf G m.ar m.sem)
/-- an __init__'s promise -/
def spIn (G : Gl0) (c ar : Nat) (sem : List D → Option D) : Sp := fun vs H Q _ => ∃ (x dx : Addr) (ws : List V) (F : Hp) (ds : List D) (fs : List (Str × D)), vs = .ref x :: ws ∧ H x = some (.ins (G.cls c) dx []) ∧ F x = none ∧ Le F H ∧ RepL G F ws ds ∧ ds.length = ar ∧ sem ds = some (.obj c fs) ∧
  ∀ F' H' o, Le F F' → (∀ a u, a ≠ x → H a = some u → H' a = some u) → Le F' H' → (∀ a, F' a ≠ none → F a = none → a ≠ x → H a = none) → F' x = none → H' x = some o → Cell G F' o (.obj c fs) → Q .non H'
structure MkFact (G : Gl0) (k : Nat) (m : MkE) : Prop where
  ex : ∃ (f : Addr) (fd : FuncData) (ps : List Str), G.mg m.name = some (.ref (G.cls m.cls)) ∧ Mk G.K (G.cls m.cls) f ∧ FnOk G.P G.w G.K G.mg G.base CX0 (k - 1) f fd ps (spIn G m.cls m.ar m.sem) ∧ (m.kw = [] → Binds G.K fd ps []) ∧
    ∀ kn, m.kw = [kn] → KBn G.K fd ps m.ar [kn] (fun us ws => us ++ ws) (fun vs zs => vs ++ zs)
structure Facts (G : Gl0) (k : Nat) (S : Sig) : Prop where
  fn : ∀ (i : Nat) (f : FnE), S.fns[i]? = some f → FnFact G k f
  me : ∀ (i : Nat) (m : MeE), S.mes[i]? = some m → MeFact G k m
  pr : ∀ (i : Nat) (m : MeE), S.prs[i]? = some m → PrFact G k m ∧ 1 ≤ k
  mks : ∀ (i : Nat) (m : MkE), S.mks[i]? = some m → MkFact G k m ∧ 1 ≤ k
  fl : ∀ (i : Nat) (c : Nat) (f : Str), S.fls[i]? = some (c, f) → Cls G.K (G.cls c) ∧ NoAttr G.K (G.cls c) f
  con : ∀ (i : Nat) (x : Str) (d : D), S.con[i]? = some (x, d) → ∃ (u : Value) (v : V), G.mg x = some u ∧ RelV v u ∧ ∀ F, Rep G F v d
  blt : ∀ x, x ∈ S.blt → G.mg x = none

section
variable {m : Addr} {G : Gl0} {k : Nat} {N : List Str} {sc : Scope} {X : Cx} {σ : L2.St} {F H : Hp} {br : Bool}

theorem visB_ok (h : visB sc x = true) : Vis sc x := by
  unfold visB at h
  split at h
  · exact .inl (by assumption)
  · exact .inr (.inl (by assumption))
  · exact .inr (.inr (by assumption))
  · cases h
theorem celB_ok (h : celB sc x = true) : sc.names.lookup x = some .cell := by
  unfold celB at h
  split at h
  · assumption
  · cases h
theorem locB_ok (h : locB sc x = true) : sc.names.lookup x = some .local := by
  unfold locB at h
  split at h
  · assumption
  · cases h
theorem glB_ok (c : Cok G k N sc X) (h : glB sc x = true) : Gl X x := by
  unfold glB at h
  split at h
  · show X.env.scope.names.lookup x = some .globalImplicit
    rw [c.eS]
    assumption
  · cases h
theorem okN_ok {x : Str} (h : okN x = true) : (x == ("__debug__" : Str)) = false ∧ (x == ("__classdict__" : Str)) = false ∧ x ≠ "__name__" := by
  unfold okN at h
  simp only [Bool.and_eq_true, Bool.not_eq_true', beq_eq_false_iff_ne] at h
  refine ⟨by simp [h.1.1], by simp [h.1.2], h.2⟩

theorem g_const {d : D} {v : V} {e : Expr} (h : PE X e (tC v)) (r : Rep G F v d) (l : Le F H) : GivB G br X e σ F H d := fun Q q => WE.of h (q v F H (New.refl l) (.inl r))
theorem g_var {i : Nat} {x : Str} {pos : Pos} {env : List SV} {d : D} (c : Cok G k N sc X) (hN : N[i]? = some x) (hv : visB sc x = true) (ho : okN x = true) (R : EnvR G m F H σ env) (l : Le F H)
    (he : (match env[i]? with | some (.sh d) => some d | some (.ow d) => if br then some d else none | some (.me d) => if br then some d else none | _ => none) = some d) : GivB G br X (.Name x pos) σ F H d := fun Q q => by
  obtain ⟨h1, h2, _⟩ := okN_ok ho
  refine WE.of (pe_var (i := i) (by rw [c.eN]; exact hN) (by rw [c.eS]; exact visB_ok hv) h1 h2) ?_
  split at he
  · rename_i d' e
    cases he
    obtain ⟨v, e1, r⟩ := R.sh _ _ e
    exact ⟨v, e1, q v F H (New.refl l) (.inl r)⟩
  · rename_i d' e
    cases br with
    | false => cases he
    | true =>
      cases he
      obtain ⟨a, o, e1, _, e3, e4⟩ := R.ow _ _ e
      exact ⟨.ref a, e1, q _ F H (New.refl l) (.inr ⟨rfl, a, o, rfl, e3, e4⟩)⟩
  · rename_i d' e
    cases br with
    | false => cases he
    | true =>
      cases he
      obtain ⟨e1, _, o, e3, e4⟩ := R.me _ _ e
      exact ⟨.ref m, e1, q _ F H (New.refl l) (.inr ⟨rfl, m, o, rfl, e3, e4⟩)⟩
  · cases he

/-- two parts, then an operation -/
theorem g_op {r : R2} {a b e : Expr} {x y d : D} (he : PE X e (tOp r (WE X a) (WE X b))) (ha : GivB G true X a σ F H x) (hb : ∀ F1 H1, New F H F1 H1 → GivB G true X b σ F1 H1 y)
    (hr : ∀ F2 H2 v u, Le F2 H2 → RepB G true F2 H2 v x → RepB G true F2 H2 u y → ∀ Q : VK, (∀ z F3 H3, New F2 H2 F3 H3 → Rep G F3 z d → Q z H3) → r v u H2 Q) : GivB G br X e σ F H d := fun Q q =>
  WE.of he (ha _ fun v F1 H1 n1 r1 => hb F1 H1 n1 _ fun u F2 H2 n2 r2 => hr F2 H2 v u n2.fh (r1.new n2) r2 _ fun z F3 H3 n3 r3 => q z F3 H3 ((n1.trans n2).trans n3) (.inl r3))
theorem g_opT {r : R2} {a b e : Expr} {x y : D} {d : Bool} (he : PT X e (tTest (tOp r (WE X a) (WE X b)))) (ha : GivB G true X a σ F H x) (hb : ∀ F1 H1, New F H F1 H1 → GivB G true X b σ F1 H1 y)
    (hr : ∀ F2 H2 v u, Le F2 H2 → RepB G true F2 H2 v x → RepB G true F2 H2 u y → ∀ Q : VK, (∀ z F3 H3, New F2 H2 F3 H3 → Rep G F3 z (.bl d) → Q z H3) → r v u H2 Q) : GivesT X e σ F H d := fun Q q =>
  WT.of he (ha _ fun v F1 H1 n1 r1 => hb F1 H1 n1 _ fun u F2 H2 n2 r2 => hr F2 H2 v u n2.fh (r1.new n2) r2 _ fun z F3 H3 n3 r3 => by
    cases r3
    exact ⟨d, rfl, q F3 H3 ((n1.trans n2).trans n3)⟩)
/-- an operation by its trees -/
def OpD (G : Gl0) (r : R2) (x y d : D) : Prop := ∀ F2 H2 v u, Le F2 H2 → RepB G true F2 H2 v x → RepB G true F2 H2 u y → ∀ Q : VK, (∀ z F3 H3, New F2 H2 F3 H3 → Rep G F3 z d → Q z H3) → r v u H2 Q

theorem RepB.tupR {ds : List D} {v : V} (h : RepB G br F H v (.tup ds)) : Rep G F v (.tup ds) := by
  rcases h with h | ⟨_, a, o, _, _, z⟩
  · exact h
  · cases o <;> exact (show False from z).elim
theorem RepL.times {ds : List D} {vs : List V} (r : RepL G F vs ds) : ∀ n : Nat, RepL G F (List.replicate n vs).flatten (List.replicate n ds).flatten
  | 0 => .nil
  | n + 1 => by
    rw [List.replicate_succ, List.replicate_succ, List.flatten_cons, List.flatten_cons]
    exact r.append (RepL.times r n)
theorem bin_ok {o : Operator} {x y d : D} (h : binD o x y = some d) : ∃ r, (∀ X : Cx, X.K = G.K → OpR X (binaryOp o) r) ∧ OpD G r x y d := by
  unfold binD at h
  split at h
  · cases h
    exact ⟨_, fun _ _ => op_add, fun F2 H2 v u l r1 r2 Q q => by rw [r1.int, r2.int]; exact ⟨_, _, rfl, rfl, q _ _ _ (New.refl l) (.int _)⟩⟩
  · cases h
    exact ⟨_, fun _ _ => op_sub, fun F2 H2 v u l r1 r2 Q q => by rw [r1.int, r2.int]; exact ⟨_, _, rfl, rfl, q _ _ _ (New.refl l) (.int _)⟩⟩
  · split at h
    · rename_i i j hm
      cases h
      refine ⟨_, fun _ _ => op_mul, fun F2 H2 v u l r1 r2 Q q => ?_⟩
      rw [r1.int, r2.int]
      refine ⟨_, _, rfl, rfl, ?_, q _ _ _ (New.refl l) (.int _)⟩
      unfold mulOk at hm
      simp only [Bool.or_eq_true, Bool.and_eq_true, decide_eq_true_eq] at hm
      exact hm
    · cases h
  · split at h
    · rename_i i j hm
      cases h
      refine ⟨_, fun _ _ => op_fdivN, fun F2 H2 v u l r1 r2 Q q => ?_⟩
      rw [r1.int, r2.int]
      simp only [Bool.and_eq_true, decide_eq_true_eq] at hm
      exact ⟨_, _, rfl, rfl, hm, q _ _ _ (New.refl l) (.int _)⟩
    · cases h
  · split at h
    · rename_i i j hm
      cases h
      refine ⟨_, fun _ _ => op_modN, fun F2 H2 v u l r1 r2 Q q => ?_⟩
      rw [r1.int, r2.int]
      exact ⟨_, _, rfl, rfl, of_decide_eq_true hm, q _ _ _ (New.refl l) (.int _)⟩
    · cases h
  · split at h
    · rename_i i j hm
      cases h
      refine ⟨_, fun _ _ => op_pow, fun F2 H2 v u l r1 r2 Q q => ?_⟩
      rw [r1.int, r2.int]
      simp only [Bool.and_eq_true, decide_eq_true_eq] at hm
      exact ⟨_, _, rfl, rfl, ⟨hm.1.1, hm.1.2, hm.2⟩, q _ _ _ (New.refl l) (.int _)⟩
    · cases h
  · split at h
    · rename_i i j hm
      cases h
      refine ⟨_, fun _ _ => op_add_str, fun F2 H2 v u l r1 r2 Q q => ?_⟩
      rw [r1.str, r2.str]
      exact ⟨_, _, rfl, rfl, hm, q _ _ _ (New.refl l) (.str _)⟩
    · cases h
  · split at h
    · rename_i xs ys hm
      cases h
      refine ⟨rCatS G.K, fun X e => by rw [← e]; exact op_catS, fun F2 H2 v u l r1 r2 Q q => ?_⟩
      obtain ⟨a1, v1, rfl, s1, t1⟩ := r1.lst l
      obtain ⟨a2, v2, rfl, s2, t2⟩ := r2.lst l
      refine ⟨a1, a2, v1, v2, rfl, rfl, s1, s2, by rw [t1.length, t2.length, sizeLine_eq]; omega, fun p hp => ?_⟩
      exact q (.ref p) (upd F2 p (.lst (v1 ++ v2))) _ (New.alloc _ l hp) (.lst (.inl (.inl upd_same)) ((t1.append t2).mono (New.alloc (.lst (v1 ++ v2)) l hp).ff))
    · cases h
  · split at h
    · rename_i xs ys hm
      cases h
      refine ⟨rCatA G.K, fun X e => by rw [← e]; exact op_catA, fun F2 H2 v u l r1 r2 Q q => ?_⟩
      have k1 := r1.tupR
      have k2 := r2.tupR
      obtain ⟨a1, v1, rfl, s1, t1⟩ := r1.tup l
      obtain ⟨a2, v2, rfl, s2, t2⟩ := r2.tup l
      refine ⟨a1, a2, v1, v2, rfl, rfl, s1, s2, by rw [t1.length, t2.length, sizeLine_eq]; omega, fun e => ?_, fun e e2 => ?_, fun e e2 p hp => ?_⟩
      · subst e
        cases t1
        exact q _ F2 H2 (New.refl l) k2
      · subst e2
        cases t2
        exact q _ F2 H2 (New.refl l) (by rw [List.append_nil]; exact k1)
      · exact q (.ref p) (upd F2 p (.tup (v1 ++ v2))) _ (New.alloc _ l hp) (.tup (.inl (.inl upd_same)) ((t1.append t2).mono (New.alloc (.tup (v1 ++ v2)) l hp).ff))
    · cases h
  · split at h
    · rename_i xs j hm
      cases h
      refine ⟨rRep1 G.K, fun X e => by rw [← e]; exact op_rep1, fun F2 H2 v u l r1 r2 Q q => ?_⟩
      have k1 := r1.tupR
      obtain ⟨a1, v1, rfl, s1, t1⟩ := r1.tup l
      rw [r2.int]
      exact ⟨a1, j, v1, rfl, rfl, s1, .inl ⟨hm, q _ F2 H2 (New.refl l) k1⟩⟩
    · split at h
      · rename_i xs j _ hm
        cases h
        simp only [Bool.and_eq_true, decide_eq_true_eq] at hm
        refine ⟨rRep1 G.K, fun X e => by rw [← e]; exact op_rep1, fun F2 H2 v u l r1 r2 Q q => ?_⟩
        obtain ⟨a1, v1, rfl, s1, t1⟩ := r1.tup l
        rw [r2.int]
        refine ⟨a1, j, v1, rfl, rfl, s1, .inr ⟨fun e => ?_, hm.1.1.2, hm.1.2, by rw [t1.length]; exact hm.2, fun p hp => ?_⟩⟩
        · subst e
          cases t1
          exact hm.1.1.1 rfl
        · exact q (.ref p) (upd F2 p (.tup (List.replicate j.toNat v1).flatten)) _ (New.alloc _ l hp) (.tup (.inl (.inl upd_same)) ((t1.times j.toNat).mono (New.alloc (.tup (List.replicate j.toNat v1).flatten) l hp).ff))
      · cases h
  · cases h

mutual
theorem dp_ok (l : Le F H) : ∀ {d : D} {v : V} {p : PyData}, toPy d = some p → Rep G F v d → Dp G.K H v p
  | .non, _, _, h, r => by simp only [toPy, Option.some.injEq] at h; subst h; cases r; exact .non
  | .bl b, _, _, h, r => by simp only [toPy, Option.some.injEq] at h; subst h; cases r; exact .bl b
  | .int b, _, _, h, r => by simp only [toPy, Option.some.injEq] at h; subst h; cases r; exact .int b
  | .str b, _, _, h, r => by simp only [toPy, Option.some.injEq] at h; subst h; cases r; exact .str b
  | .tup xs, _, _, h, r => by
    simp only [toPy, Option.map_eq_some_iff] at h
    obtain ⟨ps, h1, rfl⟩ := h
    cases r with
    | tup e r => exact .tup (l.sqT e) (dps_ok l h1 r)
  | .lst xs, _, _, h, r => by
    simp only [toPy, Option.map_eq_some_iff] at h
    obtain ⟨ps, h1, rfl⟩ := h
    cases r with
    | lst e r => exact .lst (l.sqL e) (dps_ok l h1 r)
  | .dK _, _, _, h, _ => by simp [toPy] at h
  | .dT _, _, _, h, _ => by simp [toPy] at h
  | .obj _ _, _, _, h, _ => by simp [toPy] at h
theorem dps_ok (l : Le F H) : ∀ {ds : List D} {vs : List V} {ps : List PyData}, toPys ds = some ps → RepL G F vs ds → DpAll G.K H vs ps
  | [], _, _, h, r => by simp only [toPys, Option.some.injEq] at h; subst h; cases r; exact .nil
  | d :: ds, _, _, h, r => by
    simp only [toPys, Option.bind_eq_some_iff, Option.map_eq_some_iff] at h
    obtain ⟨p, h1, ps, h2, rfl⟩ := h
    cases r with
    | cons r1 r2 => exact .cons (dp_ok l h1 r1) (dps_ok l h2 r2)
end
theorem dpB_ok {d : D} {v : V} {p : PyData} (l : Le F H) (h : toPy d = some p) (r : RepB G br F H v d) : Dp G.K H v p := by
  cases d with
  | lst xs =>
    simp only [toPy, Option.map_eq_some_iff] at h
    obtain ⟨ps, h1, rfl⟩ := h
    obtain ⟨a, vs, rfl, e, r⟩ := r.lst l
    exact .lst e (dps_ok l h1 r)
  | _ =>
    rcases r with r | ⟨_, a, o, rfl, e, z⟩
    · exact dp_ok l h r
    · first
        | (simp [toPy] at h; done)
        | (cases o <;> exact (show False from z).elim)
end
end EL

set_option Elab.async false
set_option linter.all false
set_option maxRecDepth 100000
/-! heads; comparisons; parts of code with several parts -/
namespace EL
open PySem L2

/-! ### what the heads make of side conditions -/
def noStar : Expr → Bool
  | .Starred _ _ => false
  | _ => true
theorem star_cons {e : Expr} {es : List Expr} {env : Env} (h : noStar e = true) : starEach (e :: es) env = (false, eval e env) :: starEach es env := by
  cases e <;> first
    | rfl
    | exact absurd h Bool.false_ne_true
theorem base_ok {e : Expr} {f : Str} {env : Env} {w : Sem Value} (h : baseB e = true) : attributeBase e f env w = w := by
  unfold attributeBase
  split
  · exact absurd h Bool.false_ne_true
  · rfl
theorem starsAll {env : Env} {pos : Pos} : ∀ {es : List Expr}, (∀ e ∈ es, noStar e = true) → (backTo pos (starEach es env)).any (·.1) = false
  | [], _ => rfl
  | e :: es, h => by
    have h1 := h e List.mem_cons_self
    have ih := starsAll (env := env) (pos := pos) (es := es) fun x hx => h x (List.mem_cons_of_mem _ hx)
    rw [star_cons h1]
    show (false || (backTo pos (starEach es env)).any (·.1)) = false
    rw [ih] <;> rfl
theorem starsAll' {env : Env} {pos : Pos} {es : List Expr} (h : ∀ e ∈ es, noStar e = true) : (backTo pos (starEach es env)).all (!·.1) = true := by
  have q := starsAll (env := env) (pos := pos) h
  rw [List.all_eq_true]
  intro x hx
  have := List.any_eq_false.mp q x hx
  simpa using this
theorem meth_tree {o : Expr} {m : Str} {apos pos : Pos} {args : List Expr} {env : Env} (hb : baseB o = true) (hl : (apos.endLine == pos.line) = true) (hs : ∀ e ∈ args, noStar e = true) (hn : args.length < 30) :
    eval (.Call (.Attribute o m apos) args [] pos) env = (do
      let ov ← eval o env
      standAt apos.atName
      let (f, first) ← holding [ov] (getMethod ov m (do return (← importBound o env).getD true))
      callWith pos f first (backTo pos (starEach args env)) (backToKw pos (keywordEach [] env))) := by
  have hf : methodCallForm (args.length + ([] : List Keyword).length) (backTo pos (starEach args env)) (backToKw pos (keywordEach [] env)) = true := by
    unfold methodCallForm
    rw [starsAll' hs]
    show (true && true && decide (args.length + 0 + 0 < 30)) = true
    rw [decide_eq_true (by omega)] <;> rfl
  show (do
    let ov ← attributeBase o m env (eval o env)
    standAt apos.atName
    methodCall o m apos pos env ov (args.length + ([] : List Keyword).length) (backTo pos (starEach args env)) (backToKw pos (keywordEach [] env))) = _
  rw [base_ok hb]
  unfold methodCall
  rw [hf]
  unfold calleeOf methodCallPos
  rw [hl]
  rfl

section
variable {m : Addr} {G : Gl0} {k : Nat} {N : List Str} {sc : Scope} {X : Cx} {σ : L2.St} {F H : Hp} {br : Bool}

/-! ### comparisons -/
theorem flat_rep {x : D} {v u : V} (h : flatD x = some v) (r : RepB G br F H u x) : u = v ∧ flatV v = true := by
  cases x <;> simp only [flatD, Option.some.injEq, reduceCtorEq] at h
  · subst h; exact ⟨r.non, rfl⟩
  · subst h; exact ⟨r.bl, rfl⟩
  · subst h; exact ⟨r.int, rfl⟩
  · subst h; exact ⟨r.str, rfl⟩
theorem flats_rep : ∀ {ds : List D} {vs us : List V}, flatDs ds = some vs → RepL G F us ds → us = vs ∧ vs.all flatV = true
  | [], _, _, h, r => by
    simp only [flatDs, Option.some.injEq] at h
    subst h
    cases r
    exact ⟨rfl, rfl⟩
  | d :: ds, _, _, h, r => by
    simp only [flatDs, Option.bind_eq_some_iff, Option.map_eq_some_iff] at h
    obtain ⟨v, h1, vs, h2, rfl⟩ := h
    cases r with
    | cons r1 r2 =>
      obtain ⟨e1, f1⟩ := flat_rep (br := false) (H := F) h1 (.inl r1)
      obtain ⟨e2, f2⟩ := flats_rep h2 r2
      refine ⟨by rw [e1, e2], ?_⟩
      rw [List.all_cons, f1, f2] <;> rfl
theorem eqD_ok {x y : D} {b : Bool} (h : eqD x y = some b) : ∃ p q, toPy x = some p ∧ toPy y = some q ∧ SeqAt.shaped p = true ∧ SeqAt.shaped q = true ∧ PyData.eqv p q = b := by
  unfold eqD at h
  simp only [Option.bind_eq_some_iff] at h
  obtain ⟨p, h1, q, h2, h3⟩ := h
  split at h3
  · rename_i hs
    simp only [Bool.and_eq_true] at hs
    cases h3
    exact ⟨p, q, h1, h2, hs.1, hs.2, rfl⟩
  · cases h3
theorem inD_ok {x y : D} {b : Bool} (c : Cok G k N sc X) (h : inD x y = some b) : (∃ r, OpR X (compareOp .In) r ∧ OpD G r x y (.bl b)) ∧ ∃ r, OpR X (compareOp .NotIn) r ∧ OpD G r x y (.bl (!b)) := by
  have seq : ∀ (neg : Bool) (ys : List D) (b : Bool), ((flatD x).bind fun v => (flatDs ys).map fun vs => inV v vs) = some b →
      ∀ F2 H2 v u, Le F2 H2 → RepB G true F2 H2 v x → (∃ a us, u = V.ref a ∧ (SqL G.K H2 a us ∨ SqT G.K H2 a us) ∧ RepL G F2 us ys) → ∀ Q : VK, (∀ z F3 H3, New F2 H2 F3 H3 → Rep G F3 z (.bl (if neg then !b else b)) → Q z H3) → rIn X.K neg v u H2 Q := by
    intro neg ys b h F2 H2 v u l r1 ⟨a, us, e, hs, rs⟩ Q q
    simp only [Option.bind_eq_some_iff, Option.map_eq_some_iff] at h
    obtain ⟨v', h1, vs, h2, e2⟩ := h
    obtain ⟨rfl, f1⟩ := flat_rep h1 r1
    obtain ⟨rfl, f2⟩ := flats_rep h2 rs
    refine ⟨a, us, e, by rw [c.eK]; exact hs, f1, f2, ?_⟩
    rw [← e2] at q
    refine q _ F2 H2 (New.refl l) ?_
    cases neg <;> exact .bl _
  unfold inD at h
  split at h
  · cases h
    refine ⟨⟨_, op_in_str, fun F2 H2 v u l r1 r2 Q q => ?_⟩, ⟨_, op_notIn_str, fun F2 H2 v u l r1 r2 Q q => ?_⟩⟩
    · rw [r1.str, r2.str]; exact ⟨_, _, rfl, rfl, q _ _ _ (New.refl l) (.bl _)⟩
    · rw [r1.str, r2.str]; exact ⟨_, _, rfl, rfl, q _ _ _ (New.refl l) (.bl _)⟩
  · refine ⟨⟨_, op_in_seq, fun F2 H2 v u l r1 r2 Q q => ?_⟩, ⟨_, op_notIn_seq, fun F2 H2 v u l r1 r2 Q q => ?_⟩⟩
    · obtain ⟨a, us, e, hs, rs⟩ := r2.lst l
      exact seq false _ b h F2 H2 v u l r1 ⟨a, us, e, .inl hs, rs⟩ Q q
    · obtain ⟨a, us, e, hs, rs⟩ := r2.lst l
      exact seq true _ b h F2 H2 v u l r1 ⟨a, us, e, .inl hs, rs⟩ Q q
  · refine ⟨⟨_, op_in_seq, fun F2 H2 v u l r1 r2 Q q => ?_⟩, ⟨_, op_notIn_seq, fun F2 H2 v u l r1 r2 Q q => ?_⟩⟩
    · obtain ⟨a, us, e, hs, rs⟩ := r2.tup l
      exact seq false _ b h F2 H2 v u l r1 ⟨a, us, e, .inr hs, rs⟩ Q q
    · obtain ⟨a, us, e, hs, rs⟩ := r2.tup l
      exact seq true _ b h F2 H2 v u l r1 ⟨a, us, e, .inr hs, rs⟩ Q q
  · cases h
theorem int_ord {o : CmpOp} {p : Int → Int → Bool} {x y : D} {b : Bool} (ho : OpR X (compareOp o) (rI0 fun i j => .bl (p i j))) (h : (match x, y with | .int i, .int j => some (p i j) | _, _ => none) = some b) :
    ∃ r, OpR X (compareOp o) r ∧ OpD G r x y (.bl b) := by
  split at h
  · cases h
    exact ⟨_, ho, fun F2 H2 v u l r1 r2 Q q => by rw [r1.int, r2.int]; exact ⟨_, _, rfl, rfl, q _ _ _ (New.refl l) (.bl _)⟩⟩
  · cases h
/-- what is None -/
theorem non_or {x : D} {v : V} (r : RepB G br F H v x) : (x = .non → v = .non) ∧ (x ≠ .non → v ≠ .non) := by
  refine ⟨fun e => by subst e; exact r.non, fun ne e => ?_⟩
  subst e
  rcases r with r | ⟨_, a, o, e, _⟩
  · cases r
    exact ne rfl
  · cases e
theorem cmp_ok {o : CmpOp} {x y : D} {b : Bool} (c : Cok G k N sc X) (h : cmpD o x y = some b) : ∃ r, OpR X (compareOp o) r ∧ OpD G r x y (.bl b) := by
  have hu : X.A.units + 64 < cLine := by have := c.room.un; omega
  cases o <;> simp only [cmpD] at h
  · obtain ⟨p, q, h1, h2, s1, s2, e⟩ := eqD_ok h
    refine ⟨_, op_eqD hu, fun F2 H2 v u l r1 r2 Q z => ?_⟩
    refine ⟨p, q, by rw [c.eK]; exact dpB_ok l h1 r1, by rw [c.eK]; exact dpB_ok l h2 r2, s1, s2, ?_⟩
    rw [e]
    exact z _ _ _ (New.refl l) (.bl _)
  · rw [Option.map_eq_some_iff] at h
    obtain ⟨b', h, rfl⟩ := h
    obtain ⟨p, q, h1, h2, s1, s2, e⟩ := eqD_ok h
    refine ⟨_, op_neD hu, fun F2 H2 v u l r1 r2 Q z => ?_⟩
    refine ⟨p, q, by rw [c.eK]; exact dpB_ok l h1 r1, by rw [c.eK]; exact dpB_ok l h2 r2, s1, s2, ?_⟩
    rw [e]
    exact z _ _ _ (New.refl l) (.bl _)
  · exact int_ord op_lt h
  · exact int_ord op_le h
  · exact int_ord op_gt h
  · exact int_ord op_ge h
  · refine ⟨_, op_isN, fun F2 H2 v u l r1 r2 Q z => ?_⟩
    have n1 := non_or r1
    have n2 := non_or r2
    split at h <;> first
      | (cases h; done)
      | (cases h
         refine ⟨n2.1 rfl, ?_⟩
         first
           | (rw [n1.1 rfl]; exact z _ _ _ (New.refl l) (.bl _))
           | (rw [decide_eq_false (n1.2 (by intro q; cases q))]; exact z _ _ _ (New.refl l) (.bl _)))
  · refine ⟨_, op_notN, fun F2 H2 v u l r1 r2 Q z => ?_⟩
    have n1 := non_or r1
    have n2 := non_or r2
    split at h <;> first
      | (cases h; done)
      | (cases h
         refine ⟨n2.1 rfl, ?_⟩
         first
           | (rw [n1.1 rfl]; exact z _ _ _ (New.refl l) (.bl _))
           | (rw [decide_eq_false (n1.2 (by intro q; cases q))]; exact z _ _ _ (New.refl l) (.bl _)))
  · exact (inD_ok c h).1
  · rw [Option.map_eq_some_iff] at h
    obtain ⟨b', h, rfl⟩ := h
    exact (inD_ok c h).2

theorem g_cmp {o oe : CmpOp} {a b : Expr} {pos : Pos} {x y : D} {d : Bool} (c : Cok G k N sc X) (eo : o = oe) (hm : behindInMarks oe b = false) (h : cmpD o x y = some d) (ha : GivB G true X a σ F H x) (hb : ∀ F1 H1, New F H F1 H1 → GivB G true X b σ F1 H1 y) :
    GivB G br X (.Compare a [oe] [b] pos) σ F H (.bl d) := by
  subst eo
  obtain ⟨r, h1, h2⟩ := cmp_ok c h
  exact g_op (pe_cmpR h1 WE.pe WE.pe hm) ha hb h2
theorem g_cmpT {o oe : CmpOp} {a b : Expr} {pos : Pos} {x y : D} {d : Bool} (c : Cok G k N sc X) (eo : o = oe) (hm : behindInMarks oe b = false) (h : cmpD o x y = some d) (ha : GivB G true X a σ F H x) (hb : ∀ F1 H1, New F H F1 H1 → GivB G true X b σ F1 H1 y) :
    GivesT X (.Compare a [oe] [b] pos) σ F H d := by
  subst eo
  obtain ⟨r, h1, h2⟩ := cmp_ok c h
  exact g_opT (pt_cmpR h1 WE.pe WE.pe hm) ha hb h2
/-- the reading of a chain -/
theorem chain_ok {p q : CmpOp} {a b e : Expr} {x y z : D} {k1 k2 : Bool} {r r' : R2} (h1 : OpD G r x y (.bl k1)) (ha : GivB G true X a σ F H x) (hb : ∀ F1 H1, New F H F1 H1 → GivB G true X b σ F1 H1 y)
    (h2 : k1 = true → OpD G r' y z (.bl k2) ∧ ∀ F1 H1, New F H F1 H1 → GivB G true X e σ F1 H1 z) (Q : VK) (hq : ∀ F' H', New F H F' H' → Q (.bl (if k1 then k2 else false)) H') :
    tChain r r' (WE X a) (WE X b) (WE X e) σ H Q := by
  refine ha _ fun v F1 H1 n1 r1 => hb F1 H1 n1 _ fun u F2 H2 n2 r2 => h1 F2 H2 v u n2.fh (r1.new n2) r2 _ fun w F3 H3 n3 r3 => ?_
  cases r3
  refine ⟨k1, rfl, ?_⟩
  cases k1 with
  | false =>
    show Q (.bl false) H3
    exact hq F3 H3 ((n1.trans n2).trans n3)
  | true =>
    obtain ⟨h3, h4⟩ := h2 rfl
    show WE X e σ H3 _
    refine h4 F3 H3 ((n1.trans n2).trans n3) _ fun t F4 H4 n4 r4 => h3 F4 H4 u t n4.fh ((r2.new n3).new n4) r4 _ fun m F5 H5 n5 r5 => ?_
    cases r5
    exact hq F5 H5 ((((n1.trans n2).trans n3).trans n4).trans n5)
theorem cmB_ok {o p : CmpOp} (h : cmB o p = true) : o = p := by
  cases o <;> cases p <;> first | rfl | exact absurd h Bool.false_ne_true
theorem opB_ok {o p : Operator} (h : opB o p = true) : o = p := by
  cases o <;> cases p <;> first | rfl | exact absurd h Bool.false_ne_true
/-- a chain of two comparisons, as trees: where the first fails the third part isn't asked, its rule may be any -/
theorem chn_pair {p q : CmpOp} {x y : D} {k1 : Bool} {S2 : Option Bool} {d : Bool} {zz : Option D} (c : Cok G k N sc X) (h1 : cmpD p x y = some k1) (h2 : (if k1 then zz.bind fun z => cmpD q y z else some false) = some d) :
    ∃ r r', OpR X (compareOp p) r ∧ OpD G r x y (.bl k1) ∧ OpR X (compareOp q) r' ∧ ∃ z k2, (k1 = true → zz = some z ∧ OpD G r' y z (.bl k2)) ∧ (if k1 then k2 else false) = d := by
  obtain ⟨r, a1, a2⟩ := cmp_ok c h1
  cases k1 with
  | true =>
    simp only [if_true, Option.bind_eq_some_iff] at h2
    obtain ⟨z, e, h2⟩ := h2
    obtain ⟨r', b1, b2⟩ := cmp_ok c h2
    exact ⟨r, r', a1, a2, b1, z, d, fun _ => ⟨e, b2⟩, rfl⟩
  | false =>
    cases h2
    have any : ∃ r', OpR X (compareOp q) r' := ⟨fun _ _ _ _ => False, fun _ _ _ _ _ _ _ _ _ _ _ _ z => z.elim⟩
    obtain ⟨r', b1⟩ := any
    exact ⟨r, r', a1, a2, b1, .non, false, fun z => (Bool.false_ne_true z).elim, rfl⟩
end
end EL

set_option Elab.async false
set_option linter.all false
set_option maxRecDepth 100000
/-! and, or, not, displays, items, fields, calls -/
namespace EL
open PySem L2
section
variable {m : Addr} {G : Gl0} {k : Nat} {N : List Str} {sc : Scope} {X : Cx} {σ : L2.St} {F H : Hp} {br : Bool} {a b e : Expr} {pos : Pos}

theorem g_and {x y : Expr} {r : List Expr} {ka : Bool} {d : D} (ha : GivB G true X x σ F H (.bl ka)) (h1 : ka = true → ∀ F1 H1, New F H F1 H1 → GivB G br X (.BoolOp .And (y :: r) pos) σ F1 H1 d) (h0 : ka = false → d = .bl false) (l : Le F H) :
    GivB G br X (.BoolOp .And (x :: y :: r) pos) σ F H d := fun Q q => by
  refine WE.of (pe_and WE.pe WE.pe) (ha _ fun v F1 H1 n1 r1 => ?_)
  rw [r1.bl]
  refine ⟨ka, rfl, ?_⟩
  cases ka with
  | true =>
    show WE X _ σ H1 Q
    exact h1 rfl F1 H1 n1 _ fun v F2 H2 n2 r2 => q v F2 H2 (n1.trans n2) r2
  | false =>
    show Q (.bl false) H1
    rw [h0 rfl] at q
    exact q _ F1 H1 n1 (.inl (.bl _))
theorem g_or {x y : Expr} {r : List Expr} {ka : Bool} {d : D} (ha : GivB G true X x σ F H (.bl ka)) (h1 : ka = false → ∀ F1 H1, New F H F1 H1 → GivB G br X (.BoolOp .Or (y :: r) pos) σ F1 H1 d) (h0 : ka = true → d = .bl true) (l : Le F H) :
    GivB G br X (.BoolOp .Or (x :: y :: r) pos) σ F H d := fun Q q => by
  refine WE.of (pe_or WE.pe WE.pe) (ha _ fun v F1 H1 n1 r1 => ?_)
  rw [r1.bl]
  refine ⟨ka, rfl, ?_⟩
  cases ka with
  | false =>
    show WE X _ σ H1 Q
    exact h1 rfl F1 H1 n1 _ fun v F2 H2 n2 r2 => q v F2 H2 (n1.trans n2) r2
  | true =>
    show Q (.bl true) H1
    rw [h0 rfl] at q
    exact q _ F1 H1 n1 (.inl (.bl _))
theorem g_one {op : BoolOp} {d : D} (ha : GivB G br X a σ F H d) : GivB G br X (.BoolOp op [a] pos) σ F H d := fun Q q => WE.of (pe_one WE.pe) (ha Q q)
theorem g_not {ka : Bool} (ha : GivB G true X a σ F H (.bl ka)) : GivB G br X (.UnaryOp .Not a pos) σ F H (.bl (!ka)) := fun Q q => by
  refine WE.of (pe_not WE.pe) (ha _ fun v F1 H1 n1 r1 => ?_)
  rw [r1.bl]
  exact ⟨ka, rfl, q _ F1 H1 n1 (.inl (.bl _))⟩
theorem g_neg {i : Int} (ha : GivB G true X a σ F H (.int i)) : GivB G br X (.UnaryOp .USub a pos) σ F H (.int (-i)) := fun Q q => by
  refine WE.of (pe_un un_neg WE.pe) (ha _ fun v F1 H1 n1 r1 => ?_)
  rw [r1.int]
  exact ⟨i, rfl, q _ F1 H1 n1 (.inl (.int _))⟩
theorem g_ite {c : Expr} {kc : Bool} {d : D} (hc : GivesT X c σ F H kc) (h1 : kc = true → ∀ F1 H1, New F H F1 H1 → GivB G br X a σ F1 H1 d) (h0 : kc = false → ∀ F1 H1, New F H F1 H1 → GivB G br X b σ F1 H1 d) :
    GivB G br X (.IfExp c a b pos) σ F H d := fun Q q => by
  refine WE.of (pe_ifExp WT.pt WE.pe WE.pe) (hc _ fun F1 H1 n1 => ?_)
  cases kc with
  | true =>
    show WE X a σ H1 Q
    exact h1 rfl F1 H1 n1 _ fun v F2 H2 n2 r2 => q v F2 H2 (n1.trans n2) r2
  | false =>
    show WE X b σ H1 Q
    exact h0 rfl F1 H1 n1 _ fun v F2 H2 n2 r2 => q v F2 H2 (n1.trans n2) r2

theorem isEmpty_len {α : Type} (l : List α) : l.isEmpty = decide (l.length = 0) := by
  cases l <;> rfl
/-! ### tests -/
theorem pw_of {op : BoolOp} {vs : List Expr} : PW X (.BoolOp op vs pos) (WT X (.BoolOp op vs pos)) := ⟨fun _ pins s _ _ _ I h => h pins s I⟩
theorem gt_and {x y : Expr} {r : List Expr} {ka d : Bool} (ha : GivesT X x σ F H ka) (h1 : ka = true → ∀ F1 H1, New F H F1 H1 → GivesT X (.BoolOp .And (y :: r) pos) σ F1 H1 d) (h0 : ka = false → d = false) :
    GivesT X (.BoolOp .And (x :: y :: r) pos) σ F H d := fun Q q => by
  refine WT.of (pw_and WT.pt pw_of).pt (ha _ fun F1 H1 n1 => ?_)
  cases ka with
  | true =>
    show WT X _ σ H1 Q
    exact h1 rfl F1 H1 n1 _ fun F2 H2 n2 => q F2 H2 (n1.trans n2)
  | false =>
    show Q false H1
    rw [h0 rfl] at q
    exact q F1 H1 n1
theorem gt_or {x y : Expr} {r : List Expr} {ka d : Bool} (ha : GivesT X x σ F H ka) (h1 : ka = false → ∀ F1 H1, New F H F1 H1 → GivesT X (.BoolOp .Or (y :: r) pos) σ F1 H1 d) (h0 : ka = true → d = true) :
    GivesT X (.BoolOp .Or (x :: y :: r) pos) σ F H d := fun Q q => by
  refine WT.of (pw_or WT.pt pw_of).pt (ha _ fun F1 H1 n1 => ?_)
  cases ka with
  | false =>
    show WT X _ σ H1 Q
    exact h1 rfl F1 H1 n1 _ fun F2 H2 n2 => q F2 H2 (n1.trans n2)
  | true =>
    show Q true H1
    rw [h0 rfl] at q
    exact q F1 H1 n1
theorem gt_one {op : BoolOp} {d : Bool} (ha : GivesT X a σ F H d) : GivesT X (.BoolOp op [a] pos) σ F H d := fun Q q => by
  cases op with
  | And => exact WT.of (pw_and1 WT.pt).pt (ha Q q)
  | Or => exact WT.of (pw_or1 WT.pt).pt (ha Q q)
theorem gt_not {d : Bool} (ha : GivesT X a σ F H d) : GivesT X (.UnaryOp .Not a pos) σ F H (!d) := fun Q q => WT.of (pt_not WT.pt) (ha _ fun F1 H1 n1 => q F1 H1 n1)
theorem plain_ok {whole : Sem Value} {env : Env} (h : plainB e = true) : isTrue e env whole = (do let v ← whole; standAt e.pos; holding [v] (truthy v)) := by
  cases e <;> first
    | exact absurd h Bool.false_ne_true
    | rfl
theorem gt_tru {d : D} {t : Bool} (c : Cok G k N sc X) (hp : plainB e = true) (h : truD d = some t) (ha : GivB G true X e σ F H d) : GivesT X e σ F H t := fun Q q => by
  refine WT.of (pt_truth WE.pe fun _ => plain_ok hp) (ha _ fun v F1 H1 n1 r1 => ⟨t, ?_, q F1 H1 n1⟩)
  rw [c.eK]
  cases d <;> simp only [truD, Option.some.injEq, reduceCtorEq] at h
  · rw [r1.non]; exact h.symm
  · rw [r1.bl]; exact h.symm
  · rw [r1.int]; exact h.symm
  · rw [r1.str]
    split at h
    · rename_i hl
      cases h
      exact ⟨hl, rfl⟩
    · cases h
  · obtain ⟨a, vs, rfl, e, r⟩ := r1.tup n1.fh
    refine .inr (.inl ⟨vs, e, ?_⟩)
    rw [← h]
    cases r <;> rfl
  · obtain ⟨a, vs, rfl, e, r⟩ := r1.lst n1.fh
    refine .inl ⟨vs, e, ?_⟩
    rw [← h]
    cases r <;> rfl
  · obtain ⟨a, kvs, rfl, e, ek, r⟩ := r1.dK n1.fh
    refine .inr (.inr ⟨kvs, e, ?_⟩)
    rw [← h]
    have el := congrArg List.length ek
    rw [List.length_map, List.length_map] at el
    rw [isEmpty_len kvs, isEmpty_len, el]

/-! ### argument lists -/
def GivA (G : Gl0) (br : Bool) (X : Cx) (es : List Expr) (σ : L2.St) (F H : Hp) (ds : List D) : Prop := ∀ Q : List V → Hp → Prop, (∀ vs F' H', New F H F' H' → Paired (RepB G br F' H') vs ds → Q vs H') → WA X es σ H Q
theorem repBs_new {br : Bool} {F' H' : Hp} (n : New F H F' H') : ∀ {vs : List V} {ds : List D}, Paired (RepB G br F H) vs ds → Paired (RepB G br F' H') vs ds
  | _, _, .nil => .nil
  | _, _, .cons r t => .cons (r.new n) (repBs_new n t)
theorem repBs_rep : ∀ {vs : List V} {ds : List D}, Paired (RepB G false F H) vs ds → RepL G F vs ds
  | _, _, .nil => .nil
  | _, _, .cons r t => .cons r.rep (repBs_rep t)
theorem ga_nil (l : Le F H) : GivA G br X [] σ F H [] := fun Q q => WA.of pa_nil (q [] F H (New.refl l) .nil)
theorem ga_cons {es : List Expr} {d : D} {ds : List D} (hn : noStar e = true) (h1 : GivB G br X e σ F H d) (h2 : ∀ F1 H1, New F H F1 H1 → GivA G br X es σ F1 H1 ds) : GivA G br X (e :: es) σ F H (d :: ds) := fun Q q =>
  WA.of (pa_cons WE.pe WA.pa (star_cons hn)) (h1 _ fun v F1 H1 n1 r1 => h2 F1 H1 n1 _ fun vs F2 H2 n2 r2 => q (v :: vs) F2 H2 (n1.trans n2) (.cons (r1.new n2) r2))
theorem small_line {n : Nat} (h : n ≤ 100000) : n ≤ sizeLine := by rw [sizeLine_eq]; omega
theorem g_tup {es : List Expr} {x1 : Nat} {ds : List D} (h : GivA G false X es σ F H ds) (hl : ds.length ≤ 100000) : GivB G br X (.Tuple es x1 pos) σ F H (.tup ds) := fun Q q =>
  WE.of (pe_tup WA.pa) (h _ fun vs F1 H1 n1 r1 => ⟨small_line (by rw [(repBs_rep r1).length]; exact hl), fun p hp => by
    have nF := n1.fh.none hp
    refine q (.ref p) (upd F1 p (.tup vs)) _ (n1.trans (New.alloc _ n1.fh hp)) (.inl (.tup (.inl (.inl upd_same)) ?_))
    exact (repBs_rep r1).mono (New.alloc (.tup vs) n1.fh hp).ff⟩)
theorem g_lst {es : List Expr} {ds : List D} (h : GivA G false X es σ F H ds) (hl : ds.length ≤ 100000) : GivB G br X (.List es pos) σ F H (.lst ds) := fun Q q =>
  WE.of (pe_lst WA.pa) (h _ fun vs F1 H1 n1 r1 => ⟨small_line (by rw [(repBs_rep r1).length]; exact hl), fun p hp => by
    refine q (.ref p) (upd F1 p (.lst vs)) _ (n1.trans (New.alloc _ n1.fh hp)) (.inl (.lst (.inl (.inl upd_same)) ?_))
    exact (repBs_rep r1).mono (New.alloc (.lst vs) n1.fh hp).ff⟩)

/-! ### items, fields -/
theorem atI_rep {ds : List D} {vs : List V} {i : Int} {d : D} (r : RepL G F vs ds) (h : atI ds i = some d) : ∃ v, atI vs i = some v ∧ Rep G F v d := by
  unfold atI at h ⊢
  rw [r.length]
  rw [Option.bind_eq_some_iff] at h
  obtain ⟨j, h1, h2⟩ := h
  obtain ⟨v, h3, h4⟩ := r.get h2
  exact ⟨v, by rw [h1]; exact h3, h4⟩
def isSlice : Expr → Bool
  | .Slice _ _ _ _ => true
  | _ => false
theorem plainIx_ok (h : isSlice b = false) : PlainIx b := fun o i => by
  cases b <;> first
    | rfl
    | exact absurd h (by intro z; cases z)
theorem g_idx {x y d : D} (c : Cok G k N sc X) (hs : isSlice b = false) (h : idxD x y = some d) (ha : GivB G true X a σ F H x) (hb : ∀ F1 H1, New F H F1 H1 → GivB G true X b σ F1 H1 y) : GivB G br X (.Subscript a b pos) σ F H d := by
  unfold idxD at h
  split at h
  · refine g_op (pe_ix ix_tup WE.pe WE.pe (plainIx_ok hs)) ha hb fun F2 H2 v u l r1 r2 Q q => ?_
    obtain ⟨p, vs, rfl, e, rs⟩ := r1.tup l
    obtain ⟨w, h1, h2⟩ := atI_rep rs h
    exact ⟨p, vs, _, w, rfl, r2.int, by rw [c.eK]; exact e, h1, q w F2 H2 (New.refl l) h2⟩
  · refine g_op (pe_ix ix_list WE.pe WE.pe (plainIx_ok hs)) ha hb fun F2 H2 v u l r1 r2 Q q => ?_
    obtain ⟨p, vs, rfl, e, rs⟩ := r1.lst l
    obtain ⟨w, h1, h2⟩ := atI_rep rs h
    exact ⟨p, vs, _, w, rfl, r2.int, by rw [c.eK]; exact e, h1, q w F2 H2 (New.refl l) h2⟩
  · cases h
theorem g_fld {cl : Nat} {fs : List (Str × D)} {f : Str} {d : D} (c : Cok G k N sc X) (hc : Cls G.K (G.cls cl) ∧ NoAttr G.K (G.cls cl) f) (hb : baseB e = true) (h : fs.lookup f = some d) (ha : GivB G true X e σ F H (.obj cl fs)) :
    GivB G br X (.Attribute e f pos) σ F H d := fun Q q => by
  refine WE.of (pe_fld WE.pe (base_ok hb)) (ha _ fun v F1 H1 n1 r1 => ?_)
  obtain ⟨p, dx, vs, rfl, e, ek, rs⟩ := r1.obj n1.fh
  obtain ⟨w, h1, h2⟩ := look_rep ek rs h
  exact ⟨p, _, dx, vs, w, rfl, e, by rw [c.eK]; exact hc.1, by rw [c.eK]; exact hc.2, h1, q w F1 H1 n1 (.inl h2)⟩
theorem Cok.fn {cl : Gl0 → Nat → FnE → Prop} {f : Addr} {fd : FuncData} {ps : List Str} {sp : Sp} {j : Nat} (c : Cok G k N sc X) (h : FnOk G.P G.w G.K G.mg G.base CX0 j f fd ps sp) : FnOk X.prog X.w X.K X.mg X.base CX0 j f fd ps sp := by
  rw [c.eP, c.ew, c.eK, c.em, c.eb]
  exact h
theorem g_prp {m : MeE} {fs : List (Str × D)} {d : D} (c : Cok G k N sc X) (hm : PrFact G k m) (hk : 1 ≤ k) (hb : baseB e = true) (har : m.ar = 1) (h : m.sem [.obj m.cls fs] = some d) (ha : GivB G false X e σ F H (.obj m.cls fs)) :
    GivB G br X (.Attribute e m.name pos) σ F H d := fun Q q => by
  obtain ⟨p, g, fd, ps, h1, h2, h3, h4⟩ := hm.ex
  have hr : Room (k - 1 + 1) X.A := by rw [Nat.sub_add_cancel hk]; exact c.room
  refine WE.of (pe_prop WE.pe (by rw [c.eK]; exact h1) (by rw [c.eK]; exact h2) (c.fn (cl := fun _ _ _ => True) h4) hr (by rw [c.eK]; exact h3) .nil pass0 (base_ok hb)) (ha _ fun v F1 H1 n1 r1 => ?_)
  have rv := r1.rep
  obtain ⟨o, dx, vs, rfl, e, ek, rs⟩ := r1.obj n1.fh
  exact ⟨o, dx, vs, rfl, e, F1, [.obj m.cls fs], d, n1.fh, .cons rv .nil, har.symm, h, fun w F2 H2 n2 r2 => q w F2 H2 (n1.trans n2) (.inl r2)⟩

/-! ### calls -/
theorem g_call {es : List Expr} {f : FnE} {ds : List D} {d : D} {x : Str} {p : Pos} (c : Cok G k N sc X) (hf : FnFact G k f) (hx : x = f.name) (hg : glB sc x = true) (ho : okN x = true) (hs : ∀ y ∈ e :: es, noStar y = true) (hl : ds.length = f.ar) (h : f.sem ds = some d)
    (ha : GivA G false X (e :: es) σ F H ds) : GivB G br X (.Call (.Name x p) (e :: es) [] pos) σ F H d := fun Q q => by
  obtain ⟨a, fd, ps, h1, h2, h3, h4⟩ := hf.ex
  obtain ⟨o1, _, _⟩ := okN_ok ho
  refine WE.of (pe_call (c.fn (cl := fun _ _ _ => True) h4) c.room (glB_ok c hg) (by rw [c.em, hx]; exact h1) (by rw [c.eK]; exact h2) (by rw [c.eK]; exact h3) .nil pass0 WA.pa o1 (star_cons (hs _ List.mem_cons_self)) (starsAll fun y hy => hs y (List.mem_cons_of_mem _ hy))) ?_
  refine ha _ fun vs F1 H1 n1 r1 => ?_
  rw [List.append_nil]
  exact ⟨F1, ds, d, n1.fh, repBs_rep r1, hl, h, fun w F2 H2 n2 r2 => q w F2 H2 (n1.trans n2) (.inl r2)⟩
theorem g_meth {o : Expr} {es : List Expr} {m : MeE} {fs : List (Str × D)} {ds : List D} {d : D} {x : Str} {ap : Pos} (c : Cok G k N sc X) (hf : MeFact G k m) (hx : x = m.name) (hb : baseB o = true) (hln : (ap.endLine == pos.line) = true)
    (hs : ∀ y ∈ e :: es, noStar y = true) (hn : es.length < 25) (hno : fs.lookup m.name = none) (hl : ds.length + 1 = m.ar) (h : m.sem (.obj m.cls fs :: ds) = some d)
    (h0 : GivB G false X o σ F H (.obj m.cls fs)) (ha : ∀ F1 H1, New F H F1 H1 → GivA G false X (e :: es) σ F1 H1 ds) : GivB G br X (.Call (.Attribute o x ap) (e :: es) [] pos) σ F H d := fun Q q => by
  obtain ⟨a, fd, ps, h1, h2, h3, h4⟩ := hf.ex
  subst hx
  refine WE.of (pe_meth WE.pe (by rw [c.eK]; exact h1) (by rw [c.eK]; exact h2) (c.fn (cl := fun _ _ _ => True) h4) c.room (by rw [c.eK]; exact h3) .nil pass0 WA.pa (star_cons (hs _ List.mem_cons_self)) (starsAll fun y hy => hs y (List.mem_cons_of_mem _ hy))
    (meth_tree hb hln hs (by rw [List.length_cons]; omega))) (h0 _ fun v F1 H1 n1 r1 => ?_)
  have rv := r1.rep
  obtain ⟨o, dx, vs, rfl, e, ek, rs⟩ := r1.obj n1.fh
  refine ⟨o, dx, vs, rfl, e, look_none ek hno, ha F1 H1 n1 _ fun ws F2 H2 n2 r2 => ?_⟩
  rw [List.append_nil]
  exact ⟨F2, .obj m.cls fs :: ds, d, n2.fh, .cons (rv.mono n2.ff) (repBs_rep r2), hl, h, fun w F3 H3 n3 r3 => q w F3 H3 ((n1.trans n2).trans n3) (.inl r3)⟩
/-! ### objects made -/
theorem mk_fin {F2 H2 : Hp} {x dx C : Addr} {cl : Nat} {fs : List (Str × D)} {Q : VK} (hC : C = G.cls cl) (l : Le F2 H2) (nx : H2 x = none) (ndx : H2 dx = none) (nex : dx ≠ x) (q : ∀ v F' H', New F2 H2 F' H' → Rep G F' v (.obj cl fs) → Q v H') :
    (upd (upd H2 dx (.own x)) x (.ins C dx [])) x = some (.ins (G.cls cl) dx []) ∧ F2 x = none ∧ Le F2 (upd (upd H2 dx (.own x)) x (.ins C dx [])) ∧
      ∀ F' H' o, Le F2 F' → (∀ a u, a ≠ x → (upd (upd H2 dx (.own x)) x (.ins C dx [])) a = some u → H' a = some u) → Le F' H' → (∀ a, F' a ≠ none → F2 a = none → a ≠ x → (upd (upd H2 dx (.own x)) x (.ins C dx [])) a = none) → F' x = none → H' x = some o → Cell G F' o (.obj cl fs) → Q (.ref x) H' := by
  have keep : ∀ a u, H2 a = some u → (upd (upd H2 dx (.own x)) x (.ins C dx [])) a = some u := fun a u e => by
    rw [upd_ne (ne_of_none e nx), upd_ne (ne_of_none e ndx)]
    exact e
  refine ⟨by rw [upd_same, hC], l.none nx, fun a u e => keep a u (l a u e), fun F' H' o l1 h1 l2 h2 fx hx hc => ?_⟩
  refine q (.ref x) (upd F' x o) H' ⟨fun a u e => ?_, fun a u e => h1 a u (ne_of_none e nx) (keep a u e), fun a u e => ?_, fun a h e => ?_⟩ ((hc.mono (fun a u e => ?_)).rep upd_same)
  · rw [upd_ne (ne_of_none (l1 a u e) fx)]
    exact l1 a u e
  · by_cases z : a = x
    · subst z
      rw [upd_same] at e
      cases e
      exact hx
    · rw [upd_ne z] at e
      exact l2 a u e
  · by_cases z : a = x
    · rw [z]; exact nx
    · rw [upd_ne z] at h
      have w := h2 a h e z
      rw [upd_ne z] at w
      by_cases z2 : a = dx
      · rw [z2]; exact ndx
      · rw [upd_ne z2] at w
        exact w
  · rw [upd_ne (ne_of_none e fx)]
    exact e
theorem mkD_ok {mm : MkE} {o : Option D} {d : D} (h : mkD mm o = some d) : ∃ fs, d = .obj mm.cls fs ∧ o = some (.obj mm.cls fs) := by
  unfold mkD at h
  split at h
  · split at h
    · rename_i c fs e
      cases h
      subst e
      exact ⟨fs, rfl, rfl⟩
    · cases h
  · cases h
theorem g_mk {es : List Expr} {mm : MkE} {ds : List D} {d : D} {x : Str} {p : Pos} (c : Cok G k N sc X) (hf : MkFact G k mm) (hk : 1 ≤ k) (hkw : mm.kw = []) (hx : x = mm.name) (hg : glB sc x = true) (ho : okN x = true) (hs : ∀ y ∈ e :: es, noStar y = true) (hl : ds.length = mm.ar) (h : mkD mm (mm.sem ds) = some d)
    (ha : GivA G false X (e :: es) σ F H ds) : GivB G br X (.Call (.Name x p) (e :: es) [] pos) σ F H d := fun Q q => by
  obtain ⟨f, fd, ps, h1, h2, h3, h4, _⟩ := hf.ex
  have hh := mkD_ok h
  obtain ⟨fs, rfl, h'⟩ := hh
  obtain ⟨o1, _, _⟩ := okN_ok ho
  have hr : Room (k - 1 + 1) X.A := by rw [Nat.sub_add_cancel hk]; exact c.room
  refine WE.of (pe_make (by rw [c.eK]; exact h2) (c.fn (cl := fun _ _ _ => True) h3) hr (glB_ok c hg) (by rw [c.em, hx]; exact h1) (by rw [c.eK]; exact h4 hkw) .nil pass0 WA.pa o1 (star_cons (hs _ List.mem_cons_self)) (starsAll fun y hy => hs y (List.mem_cons_of_mem _ hy))) ?_
  refine ha _ fun vs F1 H1 n1 r1 y dx ny ndx nex => ?_
  rw [List.append_nil]
  obtain ⟨g1, g2, g3, g4⟩ := mk_fin (G := G) (cl := mm.cls) (fs := fs) (Q := Q) rfl n1.fh ny ndx nex (fun v F' H' n r => q v F' H' (n1.trans n) (.inl r))
  exact ⟨y, dx, vs, F1, ds, fs, rfl, g1, g2, g3, repBs_rep r1, hl, h', fun F' H' o z1 z2 z3 z4 z5 z6 z7 => ⟨rfl, g4 F' H' o z1 z2 z3 z4 z5 z6 z7⟩⟩
theorem g_mkk {es : List Expr} {mm : MkE} {ds : List D} {dz d : D} {x kn : Str} {kv : Expr} {kpos : Pos} {p : Pos} (c : Cok G k N sc X) (hf : MkFact G k mm) (hk : 1 ≤ k) (hkw : mm.kw = [kn]) (hx : x = mm.name) (hg : glB sc x = true) (ho : okN x = true) (hs : ∀ y ∈ e :: es, noStar y = true) (hl : (ds ++ [dz]).length = mm.ar) (h : mkD mm (mm.sem (ds ++ [dz])) = some d)
    (ha : GivA G false X (e :: es) σ F H ds) (hz : ∀ F1 H1, New F H F1 H1 → GivB G false X kv σ F1 H1 dz) : GivB G br X (.Call (.Name x p) (e :: es) [⟨some kn, kv, kpos⟩] pos) σ F H d := fun Q q => by
  obtain ⟨f, fd, ps, h1, h2, h3, _, h4⟩ := hf.ex
  have hh := mkD_ok h
  obtain ⟨fs, rfl, h'⟩ := hh
  obtain ⟨o1, _, _⟩ := okN_ok ho
  have hr : Room (k - 1 + 1) X.A := by rw [Nat.sub_add_cancel hk]; exact c.room
  rw [List.length_append] at hl
  have hl : ds.length + 1 = mm.ar := hl
  have hkb := h4 kn hkw
  rw [← hl, ← c.eK] at hkb
  have hst : (backTo pos (starEach (e :: es) X.env)).any (·.1) = false := starsAll hs
  refine WE.of (pe_makeK (n := ds.length) (ks := [kn]) (by rw [c.eK]; exact h2) (c.fn (cl := fun _ _ _ => True) h3) hr (glB_ok c hg) (by rw [c.em, hx]; exact h1) hkb pass0 WA.pa (pk_cons WE.pe pk_nil) rfl rfl o1 (star_cons (hs _ List.mem_cons_self)) (by rw [hst]; rfl)) ?_
  refine ha _ fun vs F1 H1 n1 r1 => hz F1 H1 n1 _ fun u F2 H2 n2 r2 => ?_
  have rv := (repBs_rep r1).mono n2.ff
  refine ⟨by rw [rv.length], rfl, fun y dx ny ndx nex => ?_⟩
  obtain ⟨g1, g2, g3, g4⟩ := mk_fin (G := G) (cl := mm.cls) (fs := fs) (Q := Q) rfl n2.fh ny ndx nex (fun v F' H' n r => q v F' H' ((n1.trans n2).trans n) (.inl r))
  refine ⟨y, dx, vs ++ [u], F2, ds ++ [dz], fs, rfl, g1, g2, g3, rv.append (.cons r2.rep .nil), by rw [List.length_append]; exact hl, h', fun F' H' o z1 z2 z3 z4 z5 z6 z7 => ⟨rfl, g4 F' H' o z1 z2 z3 z4 z5 z6 z7⟩⟩
end
end EL

set_option Elab.async false
set_option linter.all false
set_option maxRecDepth 100000
/-! built-in functions -/
namespace EL
open PySem L2
section
variable {m : Addr} {G : Gl0} {k : Nat} {N : List Str} {sc : Scope} {X : Cx} {σ : L2.St} {F H : Hp} {br : Bool} {a b e : Expr} {pos : Pos}

theorem ints_rep : ∀ {ds : List D} {ns : List Int} {vs : List V}, toInts ds = some ns → RepL G F vs ds → vs = ns.map V.int
  | [], _, _, h, r => by simp only [toInts, Option.some.injEq] at h; subst h; cases r; rfl
  | d :: ds, _, _, h, r => by
    cases d <;> simp only [toInts, Option.map_eq_some_iff, reduceCtorEq] at h
    obtain ⟨ns, h1, rfl⟩ := h
    cases r with
    | cons r1 r2 =>
      cases r1
      rw [ints_rep h1 r2] <;> rfl
theorem bls_rep : ∀ {ds : List D} {ns : List Bool} {vs : List V}, toBls ds = some ns → RepL G F vs ds → vs = ns.map V.bl
  | [], _, _, h, r => by simp only [toBls, Option.some.injEq] at h; subst h; cases r; rfl
  | d :: ds, _, _, h, r => by
    cases d <;> simp only [toBls, Option.map_eq_some_iff, reduceCtorEq] at h
    obtain ⟨ns, h1, rfl⟩ := h
    cases r with
    | cons r1 r2 =>
      cases r1
      rw [bls_rep h1 r2] <;> rfl
theorem strs_rep : ∀ {ds : List D} {ns : List Str} {vs : List V}, toStrs ds = some ns → RepL G F vs ds → vs = ns.map V.str
  | [], _, _, h, r => by simp only [toStrs, Option.some.injEq] at h; subst h; cases r; rfl
  | d :: ds, _, _, h, r => by
    cases d <;> simp only [toStrs, Option.map_eq_some_iff, reduceCtorEq] at h
    obtain ⟨ns, h1, rfl⟩ := h
    cases r with
    | cons r1 r2 =>
      cases r1
      rw [strs_rep h1 r2] <;> rfl
theorem minI_spec : ∀ (r : List Int) (m : Int), minI m r ∈ m :: r ∧ ∀ y ∈ m :: r, minI m r ≤ y
  | [], m => ⟨List.mem_cons_self, fun y hy => by
    have e : y = m := by simpa using hy
    rw [e]; exact Int.le_refl m⟩
  | x :: r, m => by
    obtain ⟨h1, h2⟩ := minI_spec r (if x < m then x else m)
    have h3 := h2 _ List.mem_cons_self
    show minI (if x < m then x else m) r ∈ m :: x :: r ∧ ∀ y ∈ m :: x :: r, minI (if x < m then x else m) r ≤ y
    refine ⟨?_, fun y hy => ?_⟩
    · rcases List.mem_cons.mp h1 with e | e
      · rw [e]
        split
        · exact List.mem_cons_of_mem _ List.mem_cons_self
        · exact List.mem_cons_self
      · exact List.mem_cons_of_mem _ (List.mem_cons_of_mem _ e)
    · rcases List.mem_cons.mp hy with e | hy
      · subst e
        refine Int.le_trans h3 ?_
        split <;> omega
      · rcases List.mem_cons.mp hy with e | hy
        · subst e
          refine Int.le_trans h3 ?_
          split <;> omega
        · exact h2 y (List.mem_cons_of_mem _ hy)
theorem maxI_spec : ∀ (r : List Int) (m : Int), maxI m r ∈ m :: r ∧ ∀ y ∈ m :: r, y ≤ maxI m r
  | [], m => ⟨List.mem_cons_self, fun y hy => by
    have e : y = m := by simpa using hy
    rw [e]; exact Int.le_refl m⟩
  | x :: r, m => by
    obtain ⟨h1, h2⟩ := maxI_spec r (if m < x then x else m)
    have h3 := h2 _ List.mem_cons_self
    show maxI (if m < x then x else m) r ∈ m :: x :: r ∧ ∀ y ∈ m :: x :: r, y ≤ maxI (if m < x then x else m) r
    refine ⟨?_, fun y hy => ?_⟩
    · rcases List.mem_cons.mp h1 with e | e
      · rw [e]
        split
        · exact List.mem_cons_of_mem _ List.mem_cons_self
        · exact List.mem_cons_self
      · exact List.mem_cons_of_mem _ (List.mem_cons_of_mem _ e)
    · rcases List.mem_cons.mp hy with e | hy
      · subst e
        refine Int.le_trans ?_ h3
        split <;> omega
      · rcases List.mem_cons.mp hy with e | hy
        · subst e
          refine Int.le_trans ?_ h3
          split <;> omega
        · exact h2 y (List.mem_cons_of_mem _ hy)

theorem insL_perm (x : List Int) : ∀ l, (insL x l).Perm (x :: l)
  | [] => .refl _
  | y :: r => by
    unfold insL
    split
    · exact (List.Perm.cons y (insL_perm x r)).trans (.swap x y r)
    · exact .refl _
theorem sortL_perm : ∀ l, (sortL l).Perm l
  | [] => .refl _
  | x :: r => (insL_perm x (sortL r)).trans ((sortL_perm r).cons x)
theorem insL_up (x : List Int) : ∀ l, l.Pairwise (fun a b => _root_.TS.code bigB a ≤ _root_.TS.code bigB b) → (insL x l).Pairwise (fun a b => _root_.TS.code bigB a ≤ _root_.TS.code bigB b)
  | [], _ => List.pairwise_singleton _ _
  | y :: r, h => by
    unfold insL
    rw [List.pairwise_cons] at h
    split
    · rename_i lt
      refine List.pairwise_cons.mpr ⟨fun z hz => ?_, insL_up x r h.2⟩
      rcases List.mem_cons.mp ((insL_perm x r).mem_iff.mp hz) with e | hz
      · subst e
        exact Int.le_of_lt lt
      · exact h.1 z hz
    · rename_i lt
      refine List.pairwise_cons.mpr ⟨fun z hz => ?_, List.pairwise_cons.mpr h⟩
      rcases List.mem_cons.mp hz with e | hz
      · subst e
        exact Int.not_lt.mp lt
      · exact Int.le_trans (Int.not_lt.mp lt) (h.1 z hz)
theorem sortL_up : ∀ l, (sortL l).Pairwise (fun a b => _root_.TS.code bigB a ≤ _root_.TS.code bigB b)
  | [] => .nil
  | x :: r => insL_up x _ (sortL_up r)
theorem code_one {B : Int} : ∀ {a b : List Int}, a.length = b.length → _root_.TS.Bd B a → _root_.TS.Bd B b → _root_.TS.code B a = _root_.TS.code B b → a = b
  | [], [], _, _, _, _ => rfl
  | [], _ :: _, h, _, _, _ => by cases h
  | _ :: _, [], h, _, _, _ => by cases h
  | x :: a, y :: b, h, h1, h2, e => by
    have hl : a.length = b.length := by simpa using h
    rcases Int.lt_trichotomy x y with lt | eq | gt
    · have := _root_.TS.code_lt hl h1.tail h2.tail lt
      omega
    · subst eq
      have e2 : _root_.TS.code B a = _root_.TS.code B b := by
        have q1 := _root_.TS.code_same (B := B) (d := x) hl
        have q2 := _root_.TS.code_same (B := B) (d := x) hl.symm
        rcases Int.lt_trichotomy (_root_.TS.code B a) (_root_.TS.code B b) with z | z | z
        · have := q1.mpr z
          omega
        · exact z
        · have := q2.mpr z
          omega
      rw [code_one hl h1.tail h2.tail e2]
    · have := _root_.TS.code_lt hl.symm h2.tail h1.tail gt
      omega
theorem perm_lift {α β : Type} (f : α → β) {l m : List β} (h : l.Perm m) : ∀ ps : List α, ps.map f = m → ∃ qs : List α, qs.Perm ps ∧ qs.map f = l := by
  induction h with
  | nil => exact fun ps e => ⟨ps, .refl _, e⟩
  | cons x _ ih =>
    intro ps e
    cases ps with
    | nil => cases e
    | cons p ps =>
      rw [List.map_cons, List.cons.injEq] at e
      obtain ⟨qs, h1, h2⟩ := ih ps e.2
      exact ⟨p :: qs, h1.cons p, by rw [List.map_cons, h2, e.1]⟩
  | swap x y l =>
    intro ps e
    rcases ps with _ | ⟨p, _ | ⟨q, ps⟩⟩
    · cases e
    · cases e
    · simp only [List.map_cons, List.cons.injEq] at e
      exact ⟨q :: p :: ps, .swap p q ps, by simp [e.1, e.2.1, e.2.2]⟩
  | trans _ _ ih1 ih2 =>
    intro ps e
    obtain ⟨qs, h1, h2⟩ := ih2 ps e
    obtain ⟨rs, h3, h4⟩ := ih1 qs h2
    exact ⟨rs, h3.trans h1, h4⟩
theorem ints_back : ∀ {xs : List D} {ns : List Int}, toInts xs = some ns → xs = ns.map .int
  | [], _, h => by simp only [toInts, Option.some.injEq] at h; subst h; rfl
  | d :: r, _, h => by
    cases d <;> simp only [toInts, Option.map_eq_some_iff, reduceCtorEq] at h
    obtain ⟨ns, h1, rfl⟩ := h
    rw [ints_back h1]
    rfl
theorem tups_back : ∀ {xs : List D} {ns : List (List Int)}, toTups xs = some ns → xs = ns.map ofTup
  | [], _, h => by simp only [toTups, Option.some.injEq] at h; subst h; rfl
  | d :: r, _, h => by
    cases d <;> simp only [toTups, Option.bind_eq_some_iff, Option.map_eq_some_iff, reduceCtorEq] at h
    obtain ⟨n, h0, ns, h1, rfl⟩ := h
    rw [tups_back h1, ints_back h0]
    rfl
theorem zip_rep : ∀ {vs : List V} {ns : List (List Int)}, RepL G F vs (ns.map ofTup) → ∃ ps : List (V × List Int), ps.map (·.1) = vs ∧ ps.map (·.2) = ns ∧ ∀ p ∈ ps, Rep G F p.1 (ofTup p.2)
  | vs, [], r => by
    cases r
    exact ⟨[], rfl, rfl, fun _ h => by cases h⟩
  | vs, n :: ns, r => by
    cases r with
    | cons r1 r2 =>
      rename_i v vs
      obtain ⟨ps, h1, h2, h3⟩ := zip_rep r2
      refine ⟨(v, n) :: ps, by rw [List.map_cons, h1], by rw [List.map_cons, h2], fun p hp => ?_⟩
      rcases List.mem_cons.mp hp with e | hp
      · subst e
        exact r1
      · exact h3 p hp
theorem rep_zip : ∀ {ps : List (V × List Int)}, (∀ p ∈ ps, Rep G F p.1 (ofTup p.2)) → RepL G F (ps.map (·.1)) ((ps.map (·.2)).map ofTup)
  | [], _ => .nil
  | p :: ps, h => .cons (h p List.mem_cons_self) (rep_zip fun q hq => h q (List.mem_cons_of_mem _ hq))
theorem tupI_of {F H : Hp} {v : V} {n : List Int} (l : Le F H) (h : Rep G F v (ofTup n)) : TupI G.K H v n := by
  unfold ofTup at h
  cases h with
  | tup e r =>
    have z := ints_rep (ns := n) (ds := n.map .int) (by
      clear r
      induction n with
      | nil => rfl
      | cons a r ih => simp [toInts, ih]) r
    subst z
    exact ⟨_, rfl, l.sqT e⟩
/-- the value that a built-in's name holds -/
def Bi.val : Bi → Value
  | .len => .builtin "len" | .min => .builtin "min" | .max => .builtin "max" | .abs => .builtin "abs" | .all => .builtin "all" | .any => .builtin "any" | .sum => .builtin "sum" | .sorted => .builtin "sorted"
  | .int => .type "int" | .bool => .type "bool" | .tuple => .type "tuple" | .list => .type "list"
  | _ => .builtin "isinstance"
theorem boot_bi : ∀ b : Bi, bootBuiltins b.nm = some b.val := by
  intro b
  cases b <;> decide +kernel
/-- what a call by values asks -/
def CallD (G : Gl0) (r : List V → Hp → VK → Prop) (ds : List D) (d : D) : Prop := ∀ F1 H1 vs, Le F1 H1 → Paired (RepB G true F1 H1) vs ds → ∀ Q : VK, (∀ v F2 H2, New F1 H1 F2 H2 → Rep G F2 v d → Q v H2) → r vs H1 Q
theorem one_of {F1 H1 : Hp} {vs : List V} {d : D} (h : Paired (RepB G true F1 H1) vs [d]) : ∃ v, vs = [v] ∧ RepB G true F1 H1 v d := by
  cases h with
  | cons r t => cases t; exact ⟨_, rfl, r⟩
theorem two_of {F1 H1 : Hp} {vs : List V} {d e : D} (h : Paired (RepB G true F1 H1) vs [d, e]) : ∃ v u, vs = [v, u] ∧ RepB G true F1 H1 v d ∧ RepB G true F1 H1 u e := by
  cases h with
  | cons r t => cases t with
    | cons r2 t2 => cases t2; exact ⟨_, _, rfl, r, r2⟩
theorem bi_ok {b : Bi} {ds : List D} {d : D} (c : Cok G k N sc X) (hb : b.ty = none) (h : bsem b ds = some d) : ∃ r, CallR X b.val r ∧ CallD G r ds d := by
  unfold bsem at h
  split at h <;> first | (exact absurd hb (by decide)) | skip
  -- len
  · cases h
    refine ⟨_, call_len_seq, fun F1 H1 vs l r0 Q q => ?_⟩
    obtain ⟨v, rfl, r⟩ := one_of r0
    obtain ⟨p, us, rfl, e, rs⟩ := r.lst l
    refine ⟨p, us, rfl, by rw [c.eK]; exact .inl e, ?_⟩
    rw [rs.length]
    exact q _ F1 H1 (New.refl l) (.int _)
  · cases h
    refine ⟨_, call_len_seq, fun F1 H1 vs l r0 Q q => ?_⟩
    obtain ⟨v, rfl, r⟩ := one_of r0
    obtain ⟨p, us, rfl, e, rs⟩ := r.tup l
    refine ⟨p, us, rfl, by rw [c.eK]; exact .inr e, ?_⟩
    rw [rs.length]
    exact q _ F1 H1 (New.refl l) (.int _)
  · split at h
    · rename_i hl
      cases h
      refine ⟨_, call_len, fun F1 H1 vs l r0 Q q => ?_⟩
      obtain ⟨v, rfl, r⟩ := one_of r0
      rw [r.str]
      exact ⟨_, _, rfl, ⟨hl, rfl⟩, q _ F1 H1 (New.refl l) (.int _)⟩
    · cases h
  -- min, max of two
  · cases h
    refine ⟨_, call_min2 c.calm, fun F1 H1 vs l r0 Q q => ?_⟩
    obtain ⟨v, u, rfl, r1, r2⟩ := two_of r0
    rw [r1.int, r2.int]
    exact ⟨_, _, rfl, q _ F1 H1 (New.refl l) (.int _)⟩
  · cases h
    refine ⟨_, call_max2 c.calm, fun F1 H1 vs l r0 Q q => ?_⟩
    obtain ⟨v, u, rfl, r1, r2⟩ := two_of r0
    rw [r1.int, r2.int]
    exact ⟨_, _, rfl, q _ F1 H1 (New.refl l) (.int _)⟩
  -- min, max of a list
  · split at h
    · rename_i m r hi
      cases h
      refine ⟨_, cr_min c.calm, fun F1 H1 vs l r0 Q q => ?_⟩
      obtain ⟨v, rfl, rr⟩ := one_of r0
      obtain ⟨p, us, rfl, e, rs⟩ := rr.lst l
      have eu := ints_rep hi rs
      subst eu
      refine ⟨p, m :: r, rfl, by rw [c.eK]; exact e, by simp, fun z hz hle => ?_⟩
      obtain ⟨s1, s2⟩ := minI_spec r m
      have ez : z = minI m r := Int.le_antisymm (hle _ s1) (s2 z hz)
      rw [ez]
      exact q _ F1 H1 (New.refl l) (.int _)
    · cases h
  · split at h
    · rename_i m r hi
      cases h
      refine ⟨_, cr_max c.calm, fun F1 H1 vs l r0 Q q => ?_⟩
      obtain ⟨v, rfl, rr⟩ := one_of r0
      obtain ⟨p, us, rfl, e, rs⟩ := rr.lst l
      have eu := ints_rep hi rs
      subst eu
      refine ⟨p, m :: r, rfl, by rw [c.eK]; exact e, by simp, fun z hz hle => ?_⟩
      obtain ⟨s1, s2⟩ := maxI_spec r m
      have ez : z = maxI m r := Int.le_antisymm (s2 z hz) (hle _ s1)
      rw [ez]
      exact q _ F1 H1 (New.refl l) (.int _)
    · cases h
  -- abs, int
  · cases h
    refine ⟨_, call_abs, fun F1 H1 vs l r0 Q q => ?_⟩
    obtain ⟨v, rfl, r⟩ := one_of r0
    rw [r.int]
    exact ⟨_, rfl, q _ F1 H1 (New.refl l) (.int _)⟩
  · cases h
    refine ⟨_, call_int1, fun F1 H1 vs l r0 Q q => ?_⟩
    obtain ⟨v, rfl, r⟩ := one_of r0
    rw [r.int]
    exact .inl ⟨_, rfl, q _ F1 H1 (New.refl l) (.int _)⟩
  · cases h
    refine ⟨_, call_int1, fun F1 H1 vs l r0 Q q => ?_⟩
    obtain ⟨v, rfl, r⟩ := one_of r0
    rw [r.bl]
    exact .inr ⟨_, rfl, q _ F1 H1 (New.refl l) (.int _)⟩
  -- all, any, sum
  · rw [Option.map_eq_some_iff] at h
    obtain ⟨bs, hi, rfl⟩ := h
    refine ⟨_, cr_all c.calm, fun F1 H1 vs l r0 Q q => ?_⟩
    obtain ⟨v, rfl, r⟩ := one_of r0
    obtain ⟨p, us, rfl, e, rs⟩ := r.lst l
    have eu := bls_rep hi rs
    subst eu
    exact ⟨p, bs, rfl, by rw [c.eK]; exact e, q _ F1 H1 (New.refl l) (.bl _)⟩
  · rw [Option.map_eq_some_iff] at h
    obtain ⟨bs, hi, rfl⟩ := h
    refine ⟨_, cr_any c.calm, fun F1 H1 vs l r0 Q q => ?_⟩
    obtain ⟨v, rfl, r⟩ := one_of r0
    obtain ⟨p, us, rfl, e, rs⟩ := r.lst l
    have eu := bls_rep hi rs
    subst eu
    exact ⟨p, bs, rfl, by rw [c.eK]; exact e, q _ F1 H1 (New.refl l) (.bl _)⟩
  · rw [Option.map_eq_some_iff] at h
    obtain ⟨bs, hi, rfl⟩ := h
    refine ⟨_, cr_sum c.calm, fun F1 H1 vs l r0 Q q => ?_⟩
    obtain ⟨v, rfl, r⟩ := one_of r0
    obtain ⟨p, us, rfl, e, rs⟩ := r.lst l
    have eu := ints_rep hi rs
    subst eu
    exact ⟨p, bs, rfl, by rw [c.eK]; exact e, q _ F1 H1 (New.refl l) (.int _)⟩
  -- tuple, list
  · cases h
    refine ⟨_, call_tuple_of, fun F1 H1 vs l r0 Q q => ?_⟩
    obtain ⟨v, rfl, r⟩ := one_of r0
    obtain ⟨p, us, rfl, e, rs⟩ := r.lst l
    refine ⟨p, us, rfl, .inl ⟨by rw [c.eK]; exact e, fun x hx => ?_⟩⟩
    exact q (.ref x) (upd F1 x (.tup us)) _ (New.alloc _ l hx) (.tup (.inl (.inl upd_same)) (rs.mono (New.alloc (.tup us) l hx).ff))
  · cases h
    refine ⟨_, call_tuple_of, fun F1 H1 vs l r0 Q q => ?_⟩
    obtain ⟨v, rfl, r⟩ := one_of r0
    have rr := r
    obtain ⟨p, us, rfl, e, rs⟩ := r.tup l
    refine ⟨p, us, rfl, .inr ⟨by rw [c.eK]; exact e, q _ F1 H1 (New.refl l) ?_⟩⟩
    rcases rr with rr | ⟨_, a', o, _, _, z⟩
    · exact rr
    · cases o <;> exact (show False from z).elim
  · cases h
    refine ⟨_, call_list_of, fun F1 H1 vs l r0 Q q => ?_⟩
    obtain ⟨v, rfl, r⟩ := one_of r0
    obtain ⟨p, us, rfl, e, rs⟩ := r.lst l
    refine ⟨p, us, rfl, by rw [c.eK]; exact .inl e, fun x hx => ?_⟩
    exact q (.ref x) (upd F1 x (.lst us)) _ (New.alloc _ l hx) (.lst (.inl (.inl upd_same)) (rs.mono (New.alloc (.lst us) l hx).ff))
  · cases h
    refine ⟨_, call_list_of, fun F1 H1 vs l r0 Q q => ?_⟩
    obtain ⟨v, rfl, r⟩ := one_of r0
    obtain ⟨p, us, rfl, e, rs⟩ := r.tup l
    refine ⟨p, us, rfl, by rw [c.eK]; exact .inr e, fun x hx => ?_⟩
    exact q (.ref x) (upd F1 x (.lst us)) _ (New.alloc _ l hx) (.lst (.inl (.inl upd_same)) (rs.mono (New.alloc (.lst us) l hx).ff))
  -- sorted
  · rw [Option.bind_eq_some_iff] at h
    obtain ⟨ns, hi, h⟩ := h
    split at h
    · rename_i hl
      cases h
      rw [Bool.and_eq_true, decide_eq_true_eq] at hl
      obtain ⟨h64, hev⟩ := hl
      obtain ⟨dd, hd, hall⟩ : ∃ dd, 1 ≤ dd ∧ ∀ n ∈ ns, n.length = dd ∧ _root_.TS.Bd bigB n := by
        unfold evenL at hev
        split at hev
        · exact ⟨1, Nat.le_refl _, fun _ h => by cases h⟩
        · rename_i n0 r0
          simp only [Bool.and_eq_true, decide_eq_true_eq, List.all_eq_true] at hev
          exact ⟨n0.length, hev.1, fun n hn => ⟨(hev.2 n hn).1, fun i hi => (hev.2 n hn).2 i hi⟩⟩
      refine ⟨_, cr_sortT (B := bigB) hd, fun F1 H1 vs l r0 Q q => ?_⟩
      obtain ⟨v, rfl, r⟩ := one_of r0
      obtain ⟨p, us, rfl, e, rs⟩ := r.lst l
      rw [tups_back hi] at rs
      obtain ⟨ps, e1, e2, hps⟩ := zip_rep rs
      have hk : ∀ p ∈ ps, p.2.length = dd ∧ _root_.TS.Bd bigB p.2 := fun p hp => hall p.2 (by rw [← e2]; exact List.mem_map_of_mem hp)
      refine ⟨p, us, rfl, by rw [c.eK]; exact e, ?_, fun x hx => ?_, fun ys pa hperm hpw hpa => ?_⟩
      · rw [rs.length, List.length_map]
        exact h64
      · rw [← e1] at hx
        obtain ⟨pp, hpp, rfl⟩ := List.mem_map.mp hx
        exact ⟨pp.2, by rw [c.eK]; exact tupI_of l (hps pp hpp), hk pp hpp⟩
      · obtain ⟨qs, hq1, hq2⟩ := perm_lift (·.1) hperm ps e1
        subst hq2
        have hqs : ∀ p ∈ qs, Rep G F1 p.1 (ofTup p.2) := fun p hp => hps p (hq1.mem_iff.mp hp)
        have es : qs.map (·.2) = sortL ns := by
          refine List.Perm.eq_of_pairwise (le := fun a b => _root_.TS.code bigB a ≤ _root_.TS.code bigB b) (fun a b ha hb h1 h2 => ?_) ?_ (sortL_up ns) (((hq1.map (·.2)).trans (by rw [e2])).trans (sortL_perm ns).symm)
          · have ha' : a ∈ ns := by
              obtain ⟨pp, hpp, rfl⟩ := List.mem_map.mp ha
              rw [← e2]
              exact List.mem_map_of_mem (hq1.mem_iff.mp hpp)
            have hb' : b ∈ ns := (sortL_perm ns).mem_iff.mp hb
            exact code_one ((hall a ha').1.trans (hall b hb').1.symm) (hall a ha').2 (hall b hb').2 (Int.le_antisymm h1 h2)
          · rw [List.pairwise_map] at hpw ⊢
            exact hpw.imp_of_mem fun {a b} ha hb z => z a.2 b.2 (by rw [c.eK]; exact tupI_of l (hqs a ha)) (by rw [c.eK]; exact tupI_of l (hqs b hb))
        have rq := rep_zip hqs
        rw [es] at rq
        exact q (.ref pa) (upd F1 pa (.lst (qs.map (·.1)))) _ (New.alloc _ l hpa) (.lst (.inl (.inl upd_same)) (rq.mono (New.alloc (.lst (qs.map (·.1))) l hpa).ff))
    · cases h
  -- bool
  · cases h
    refine ⟨_, call_bool1, fun F1 H1 vs l r0 Q q => ?_⟩
    obtain ⟨v, rfl, r⟩ := one_of r0
    rw [r.bl]
    exact .inr ⟨_, rfl, q _ F1 H1 (New.refl l) (.bl _)⟩
  · cases h
    refine ⟨_, call_bool1, fun F1 H1 vs l r0 Q q => ?_⟩
    obtain ⟨v, rfl, r⟩ := one_of r0
    rw [r.int]
    exact .inl ⟨_, rfl, q _ F1 H1 (New.refl l) (.bl _)⟩
  · cases h
end
end EL

set_option Elab.async false
set_option linter.all false
set_option maxRecDepth 100000
/-! targets, walks, comprehensions -/
namespace EL
open PySem L2

mutual
def gT (K : PySem.W.Frag) : IT → TG
  | .nm i => gName i
  | .us i => gName i
  | .tp ts => gTup K ts.length (gTs K ts)
def gTs (K : PySem.W.Frag) : List IT → TGs
  | [] => gNil
  | t :: ts => gCons (gT K t) (gTs K ts)
end
mutual
/-- the slots that a target sets -/
def slT : IT → List Nat
  | .nm i => [i]
  | .us i => [i]
  | .tp ts => slTs ts
def slTs : List IT → List Nat
  | [] => []
  | t :: ts => slT t ++ slTs ts
end
mutual
theorem own_sl {own : List Nat} : ∀ {t : IT}, inOwn own t = true → ∀ i ∈ slT t, i ∈ own
  | .nm j, h, i, hi => by
    have e : i = j := by simpa [slT] using hi
    subst e
    simpa [inOwn] using h
  | .us j, h, i, hi => by
    have e : i = j := by simpa [slT] using hi
    subst e
    simpa [inOwn] using h
  | .tp ts, h, i, hi => owns_sl (ts := ts) (by simpa [inOwn] using h) i (by simpa [slT] using hi)
theorem owns_sl {own : List Nat} : ∀ {ts : List IT}, inOwns own ts = true → ∀ i ∈ slTs ts, i ∈ own
  | [], _, i, hi => by simp [slTs] at hi
  | t :: ts, h, i, hi => by
    simp only [inOwns, Bool.and_eq_true] at h
    simp only [slTs, List.mem_append] at hi
    rcases hi with hi | hi
    · exact own_sl h.1 i hi
    · exact owns_sl h.2 i hi
end
section
variable {m : Addr} {G : Gl0} {k : Nat} {N : List Str} {sc : Scope} {X : Cx} {σ : L2.St} {F H : Hp} {br : Bool} {a b e : Expr} {pos : Pos}

/-! ### targets -/
def tgB : Expr → Bool
  | .Name _ _ => true
  | .Tuple _ _ _ => true
  | _ => false
theorem chkT_tg {pr : Str → Bool} {t : IT} {e : Expr} (h : chkT N pr t e = true) : tgB e = true := by
  cases t <;> cases e <;> first
    | rfl
    | (simp [chkT] at h)
theorem each_cons {es : List Expr} {env : Env} (h : tgB e = true) : assignEach (e :: es) env = (false, assign e env) :: assignEach es env := by
  cases e <;> first
    | rfl
    | exact absurd h Bool.false_ne_true
theorem each_ok {pr : Str → Bool} {env : Env} : ∀ {ts : List IT} {es : List Expr}, chkTs N pr ts es = true → (assignEach es env).length = ts.length ∧ (assignEach es env).findIdx? (·.1) = none
  | [], [], _ => ⟨rfl, rfl⟩
  | [], _ :: _, h => by simp [chkTs] at h
  | _ :: _, [], h => by simp [chkTs] at h
  | t :: ts, e :: es, h => by
    simp only [chkTs, Bool.and_eq_true] at h
    obtain ⟨h1, h2⟩ := each_ok (env := env) h.2
    rw [each_cons (chkT_tg h.1)]
    refine ⟨by rw [List.length_cons, h1, List.length_cons], ?_⟩
    rw [List.findIdx?_cons]
    simp [h2]
theorem loc_pr {x : Str} (h : locB sc x = true) : Loc sc x ∧ (X.fn x = true ∨ sc.names.lookup x = some .local) := ⟨.inl (locB_ok h), .inr (locB_ok h)⟩
theorem sto_pr (hf : ∀ x, X.fn x = true) {x : Str} (h : stoB sc x = true) : Loc sc x ∧ (X.fn x = true ∨ sc.names.lookup x = some .local) := by
  unfold stoB at h
  rw [Bool.or_eq_true] at h
  exact ⟨h.elim (fun z => .inl (locB_ok z)) fun z => .inr (celB_ok z), .inl (hf x)⟩
mutual
theorem pgT (c : Cok G k N sc X) (hpr : ∀ x, pr x = true → Loc sc x ∧ (X.fn x = true ∨ sc.names.lookup x = some .local)) : ∀ {t : IT} {e : Expr}, chkT N pr t e = true → PG X e (gT X.K t)
  | .nm i, e, h => by
    cases e <;> simp [chkT] at h
    exact pg_name (by rw [c.eN]; exact c.nd) (by rw [c.eN]; exact h.1) (by rw [c.eS]; exact (hpr _ h.2).1) (by rw [c.eS]; exact (hpr _ h.2).2)
  | .us i, e, h => by
    cases e <;> simp [chkT] at h
    exact pg_name (by rw [c.eN]; exact c.nd) (by rw [c.eN]; exact h.1) (by rw [c.eS]; exact (hpr _ h.2).1) (by rw [c.eS]; exact (hpr _ h.2).2)
  | .tp ts, e, h => by
    cases e <;> simp [chkT] at h
    rename_i es kk pos
    exact pg_tup c.calm (pgTs c hpr h) (each_ok h).1 (each_ok h).2
theorem pgTs (c : Cok G k N sc X) (hpr : ∀ x, pr x = true → Loc sc x ∧ (X.fn x = true ∨ sc.names.lookup x = some .local)) : ∀ {ts : List IT} {es : List Expr}, chkTs N pr ts es = true → PGs X es (gTs X.K ts)
  | [], [], _ => pgs_nil
  | [], _ :: _, h => by simp [chkTs] at h
  | _ :: _, [], h => by simp [chkTs] at h
  | t :: ts, e :: es, h => by
    simp only [chkTs, Bool.and_eq_true] at h
    exact pgs_cons (pgT c hpr h.1) (pgTs c hpr h.2) (by rw [each_cons (chkT_tg h.1)]; rfl)
end
theorem set_at {α : Type} {l : List α} {i j : Nat} {x y : α} (h : (l.set i x)[j]? = some y) : (i = j ∧ y = x) ∨ (i ≠ j ∧ l[j]? = some y) := by
  by_cases q : i = j
  · subst q
    have hi : i < l.length := by
      have := (List.getElem?_eq_some_iff.mp h).1
      rwa [List.length_set] at this
    rw [List.getElem?_set_self hi] at h
    exact .inl ⟨rfl, (Option.some.inj h).symm⟩
  · rw [List.getElem?_set_ne q] at h
    exact .inr ⟨q, h⟩
/-- a slot set to what is neither owned nor the object itself -/
theorem EnvR.set0 {env : List SV} {i : Nat} {x : Option V} {u : SV} (R : EnvR G m F H σ env) (h1 : ∀ d, u ≠ .ow d) (h2 : ∀ d, u ≠ .me d) (h3 : i < env.length → ∀ d, u = .sh d → ∃ v, x = some v ∧ Rep G F v d) : EnvR G m F H (σ.set i x) (env.set i u) := by
  have nO : ∀ {j : Nat} {d : D}, (env.set i u)[j]? = some (.ow d) → i ≠ j ∧ env[j]? = some (.ow d) := fun {j d} h => by
    rcases set_at h with ⟨_, q⟩ | q
    · exact absurd q.symm (h1 d)
    · exact q
  have nM : ∀ {j : Nat} {d : D}, (env.set i u)[j]? = some (.me d) → i ≠ j ∧ env[j]? = some (.me d) := fun {j d} h => by
    rcases set_at h with ⟨_, q⟩ | q
    · exact absurd q.symm (h2 d)
    · exact q
  refine ⟨by rw [List.length_set, List.length_set]; exact R.len, fun j e he => ?_, fun j e he => ?_, fun j1 j2 a d1 d2 e1 e2 s1 s2 => ?_, fun j e he => ?_, fun j1 j2 d1 d2 e1 e2 => ?_, fun j1 j2 d1 d2 e1 e2 => ?_⟩
  · rcases set_at he with ⟨rfl, q⟩ | ⟨ne, q⟩
    · have hi : i < env.length := by
        have := (List.getElem?_eq_some_iff.mp he).1
        rwa [List.length_set] at this
      obtain ⟨v, hv, r⟩ := h3 hi e q.symm
      rw [List.getElem?_set_self (by rw [← R.len]; exact hi), hv]
      exact ⟨v, rfl, r⟩
    · rw [List.getElem?_set_ne ne]
      exact R.sh j e q
  · obtain ⟨ne, q⟩ := nO he
    rw [List.getElem?_set_ne ne]
    exact R.ow j e q
  · obtain ⟨n1, q1⟩ := nO e1
    obtain ⟨n2, q2⟩ := nO e2
    rw [List.getElem?_set_ne n1] at s1
    rw [List.getElem?_set_ne n2] at s2
    exact R.ne j1 j2 a d1 d2 q1 q2 s1 s2
  · obtain ⟨ne, q⟩ := nM he
    rw [List.getElem?_set_ne ne]
    exact R.me j e q
  · obtain ⟨n1, q1⟩ := nM e1
    obtain ⟨n2, q2⟩ := nO e2
    rw [List.getElem?_set_ne n2]
    exact R.mo j1 j2 d1 d2 q1 q2
  · exact R.mi j1 j2 d1 d2 (nM e1).2 (nM e2).2
theorem EnvR.put {env : List SV} {i : Nat} {x : V} {d : D} (R : EnvR G m F H σ env) (r : Rep G F x d) : EnvR G m F H (σ.set i (some x)) (env.set i (.sh d)) :=
  R.set0 (fun _ z => by cases z) (fun _ z => by cases z) fun _ e z => by cases z; exact ⟨x, rfl, r⟩
theorem EnvR.drop {env : List SV} {i : Nat} (R : EnvR G m F H σ env) : EnvR G m F H (σ.set i none) (env.set i .un) :=
  R.set0 (fun _ z => by cases z) (fun _ z => by cases z) fun _ e z => by cases z
theorem EnvR.wipe {env : List SV} (R : EnvR G m F H σ env) : ∀ vs : List Nat, EnvR G m F H (wipe σ vs) (wipeE env vs)
  | [] => R
  | v :: vs => by
    unfold L2.wipe wipeE
    exact (EnvR.wipe R vs).drop
mutual
/-- a target set: what is known behind it -/
theorem bind_ok (l : Le F H) : ∀ {t : IT} {d : D} {σ : L2.St} {env env1 : List SV} {x : V} {Q : L2.St → Hp → Prop}, bindT t d env = some env1 → Rep G F x d → EnvR G m F H σ env →
    (∀ σ1, EnvR G m F H σ1 env1 → σ1.length = σ.length → (∀ i, i ∉ slT t → σ1[i]? = σ[i]?) → Q σ1 H) → gT G.K t x σ H Q
  | .nm i, d, σ, env, env1, x, Q, h, r, R, q => by
    simp only [bindT] at h
    split at h
    · cases h
      refine q _ (R.put r) (List.length_set) fun j hj => ?_
      have ne : i ≠ j := fun z => hj (by simp [slT, z])
      rw [List.getElem?_set_ne ne]
    · cases h
  | .us i, d, σ, env, env1, x, Q, h, r, R, q => by
    simp only [bindT] at h
    split at h
    · cases h
      refine q _ (R.put r) (List.length_set) fun j hj => ?_
      have ne : i ≠ j := fun z => hj (by simp [slT, z])
      rw [List.getElem?_set_ne ne]
    · cases h
  | .tp ts, d, σ, env, env1, x, Q, h, r, R, q => by
    cases d <;> simp only [bindT, reduceCtorEq] at h
    rename_i ds
    cases r with
    | tup e rs =>
      rename_i p vs
      have hl : ds.length = ts.length := binds_len h
      exact ⟨p, vs, rfl, l.sqT e, by rw [rs.length, hl], binds_ok l h rs R q⟩
theorem binds_ok (l : Le F H) : ∀ {ts : List IT} {ds : List D} {σ : L2.St} {env env1 : List SV} {xs : List V} {Q : L2.St → Hp → Prop}, bindTs ts ds env = some env1 → RepL G F xs ds → EnvR G m F H σ env →
    (∀ σ1, EnvR G m F H σ1 env1 → σ1.length = σ.length → (∀ i, i ∉ slTs ts → σ1[i]? = σ[i]?) → Q σ1 H) → gTs G.K ts xs σ H Q
  | [], ds, σ, env, env1, xs, Q, h, r, R, q => by
    cases ds with
    | nil =>
      simp only [bindTs, Option.some.injEq] at h
      subst h
      cases r
      exact ⟨rfl, q σ R rfl fun _ _ => rfl⟩
    | cons _ _ => simp [bindTs] at h
  | t :: ts, ds, σ, env, env1, xs, Q, h, r, R, q => by
    cases ds with
    | nil => simp [bindTs] at h
    | cons d ds =>
      simp only [bindTs, Option.bind_eq_some_iff] at h
      obtain ⟨env2, h1, h2⟩ := h
      cases r with
      | cons r1 r2 =>
        refine ⟨_, _, rfl, bind_ok l h1 r1 R fun σ1 R1 l1 k1 => binds_ok l h2 r2 R1 fun σ2 R2 l2 k2 => q σ2 R2 (l2.trans l1) fun i hi => ?_⟩
        simp only [slTs, List.mem_append, not_or] at hi
        rw [k2 i hi.2, k1 i hi.1]
theorem binds_len : ∀ {ts : List IT} {ds : List D} {env env1 : List SV}, bindTs ts ds env = some env1 → ds.length = ts.length
  | [], ds, _, _, h => by
    cases ds with
    | nil => rfl
    | cons _ _ => simp [bindTs] at h
  | t :: ts, ds, _, _, h => by
    cases ds with
    | nil => simp [bindTs] at h
    | cons d ds =>
      simp only [bindTs, Option.bind_eq_some_iff] at h
      obtain ⟨env2, _, h2⟩ := h
      rw [List.length_cons, List.length_cons, binds_len h2]
end
theorem wipe_get (σ : L2.St) (i : Nat) : ∀ vs : List Nat, (wipe σ vs)[i]? = if i ∈ vs then (σ[i]?).map (fun _ => none) else σ[i]?
  | [] => by simp [wipe]
  | v :: vs => by
    have ih := wipe_get σ i vs
    show ((wipe σ vs).set v none)[i]? = _
    by_cases q : v = i
    · subst q
      rw [if_pos List.mem_cons_self]
      by_cases hv : v < (wipe σ vs).length
      · rw [List.getElem?_set_self hv]
        rw [wipe_length] at hv
        rw [List.getElem?_eq_getElem hv]
        rfl
      · rw [List.getElem?_eq_none (by rw [List.length_set]; omega)]
        rw [wipe_length] at hv
        rw [List.getElem?_eq_none (by omega)]
        rfl
    · rw [List.getElem?_set_ne q, ih]
      by_cases hm : i ∈ vs
      · rw [if_pos hm, if_pos (List.mem_cons_of_mem _ hm)]
      · rw [if_neg hm, if_neg (by simp only [List.mem_cons, not_or]; exact ⟨fun z => q z.symm, hm⟩)]
theorem wipe_eq {σ1 σ : L2.St} {vs : List Nat} (hl : σ1.length = σ.length) (h : ∀ i, i ∉ vs → σ1[i]? = σ[i]?) : wipe σ1 vs = wipe σ vs := by
  refine List.ext_getElem? fun i => ?_
  rw [wipe_get, wipe_get]
  by_cases hm : i ∈ vs
  · rw [if_pos hm, if_pos hm]
    by_cases hi : i < σ.length
    · rw [List.getElem?_eq_getElem hi, List.getElem?_eq_getElem (by omega)]
      rfl
    · rw [List.getElem?_eq_none (by omega), List.getElem?_eq_none (by omega)]
  · rw [if_neg hm, if_neg hm, h i hm]

/-! ### walks -/
def WI (X : Cx) (tg iter : Expr) : TI := fun σ H R => ∀ (pins : List (Addr × Obj)) (s : Shared), Inv X pins σ H s →
  wpAny (model X.prog X.w) X.A (eval iter X.env) (fun v s1 => wpAny (model X.prog X.w) X.A (pyIter v) (PIE X pins σ tg R) X.xe s1) X.xe s
theorem WI.pi {tg iter : Expr} : PI X tg iter (WI X tg iter) := ⟨fun pins s _ _ _ I h => h pins s I⟩
theorem WI.of {tg iter : Expr} {wi : TI} (h : PI X tg iter wi) {R : It → Hp → Prop} (q : wi σ H R) : WI X tg iter σ H R := fun pins s I => h.run pins s σ H R I q
def Walks (G : Gl0) (J : It) (ds : List D) (ok : Hp → Hp → Prop) : Prop := ∀ F1 H1, Le F1 H1 → ok F1 H1 →
  (∀ i, i < ds.length → J.go i H1) ∧ J.stop ds.length H1 ∧ ∀ (i : Nat) x H2 d, ds[i]? = some d → J.yld i H1 x H2 → ∃ F2, New F1 H1 F2 H2 ∧ Rep G F2 x d
def GivI (G : Gl0) (br : Bool) (X : Cx) (tg iter : Expr) (σ : L2.St) (F H : Hp) (ds : List D) : Prop := ∀ R : It → Hp → Prop,
  (∀ J F' H', New F H F' H' → Walks G J ds (fun F1 H1 => Le F' F1 ∧ (br = true → Le H' H1)) → R J H') → WI X tg iter σ H R
theorem gi_lst {tg : Expr} {ds : List D} (c : Cok G k N sc X) (ha : GivB G br X e σ F H (.lst ds)) : GivI G br X tg e σ F H ds := fun R q => by
  refine WI.of (pi_list WE.pe) (ha _ fun v F1 H1 n1 r1 => ?_)
  have key : ∃ a vs, v = .ref a ∧ RepL G F1 vs ds ∧ SqL G.K H1 a vs ∧ ∀ F2 H2, Le F2 H2 → Le F1 F2 → (br = true → Le H1 H2) → SqL G.K H2 a vs := by
    rcases r1 with r1 | ⟨hb, a, o, rfl, e, z⟩
    · cases r1 with
      | lst e rs => exact ⟨_, _, rfl, rs, n1.fh.sqL e, fun F2 H2 l1 l2 _ => l1.sqL (l2.sqL e)⟩
    · cases o <;> first
        | exact (show False from z).elim
        | exact ⟨a, _, rfl, z, .inl (.inl e), fun F2 H2 _ _ l3 => (l3 hb).sqL (.inl (.inl e))⟩
  obtain ⟨a, vs, rfl, rs, e0, st⟩ := key
  refine ⟨a, rfl, ⟨vs, by rw [c.eK]; exact e0⟩, q _ F1 H1 n1 fun F2 H2 l ok => ?_⟩
  rw [c.eK]
  have e2 := st F2 H2 l ok.1 ok.2
  refine ⟨fun i hi => ?_, ⟨vs, e2, by rw [rs.length]; exact Nat.le_refl _⟩, fun i x H3 d hd y => ?_⟩
  · have hi' : i < vs.length := by rw [rs.length]; exact hi
    exact ⟨vs, vs[i], e2, List.getElem?_eq_getElem hi'⟩
  · obtain ⟨rfl, y2⟩ := y
    obtain ⟨w, h1, h2⟩ := rs.get hd
    have ex : w = x := Option.some.inj (h1.symm.trans (y2 vs e2))
    subst ex
    exact ⟨F2, New.refl l, h2.mono ok.1⟩
theorem gi_tup {tg : Expr} {ds : List D} (c : Cok G k N sc X) (ha : GivB G br X e σ F H (.tup ds)) : GivI G br X tg e σ F H ds := fun R q => by
  refine WI.of (pi_tup WE.pe) (ha _ fun v F1 H1 n1 r1 => ?_)
  have key : ∃ a vs, v = .ref a ∧ RepL G F1 vs ds ∧ SqT G.K F1 a vs := by
    rcases r1 with r1 | ⟨hb, a, o, rfl, e, z⟩
    · cases r1 with
      | tup e rs => exact ⟨_, _, rfl, rs, e⟩
    · cases o <;> exact (show False from z).elim
  obtain ⟨a, vs, rfl, rs, e0⟩ := key
  refine ⟨a, rfl, ⟨vs, by rw [c.eK]; exact n1.fh.sqT e0⟩, q _ F1 H1 n1 fun F2 H2 l ok => ?_⟩
  rw [c.eK]
  have e2 := l.sqT (ok.1.sqT e0)
  refine ⟨fun i hi => ?_, ⟨vs, e2, by rw [rs.length]; exact Nat.le_refl _⟩, fun i x H3 d hd y => ?_⟩
  · have hi' : i < vs.length := by rw [rs.length]; exact hi
    exact ⟨vs, vs[i], e2, List.getElem?_eq_getElem hi'⟩
  · obtain ⟨rfl, y2⟩ := y
    obtain ⟨w, h1, h2⟩ := rs.get hd
    have ex : w = x := Option.some.inj (h1.symm.trans (y2 vs e2))
    subst ex
    exact ⟨F2, New.refl l, h2.mono ok.1⟩
theorem gi_str {tg : Expr} {z : Str} (c : Cok G k N sc X) (ha : GivB G br X e σ F H (.str z)) : GivI G br X tg e σ F H (strD z) := fun R q => by
  refine WI.of (pi_str WE.pe) (ha _ fun v F1 H1 n1 r1 => ?_)
  rw [r1.str]
  refine ⟨z, rfl, q _ F1 H1 n1 fun F2 H2 l ok => ?_⟩
  have el : (strD z).length = z.cps.size := by simp [strD]
  refine ⟨fun i hi => ?_, ?_, fun i x H3 d hd y => ?_⟩
  · rw [el] at hi
    exact hi
  · show z.cps.size ≤ _
    rw [el]
    exact Nat.le_refl _
  · obtain ⟨rfl, ch, h1, rfl⟩ := y
    have ed : d = .str ⟨#[ch]⟩ := by
      unfold strD at hd
      rw [List.getElem?_map, Array.getElem?_toList, h1] at hd
      exact (Option.some.inj hd).symm
    subst ed
    exact ⟨F2, New.refl l, .str _⟩
theorem walks_rng {lo : Int} {n : Nat} {ok : Hp → Hp → Prop} : Walks G (Itr lo n) ((List.range n).map fun (i : Nat) => D.int (lo + (i : Int))) ok := fun F1 H1 l _ => by
  refine ⟨fun i hi => ?_, ?_, fun i x H2 d hd y => ?_⟩
  · rw [List.length_map, List.length_range] at hi
    exact hi
  · show n ≤ _
    rw [List.length_map, List.length_range]
    exact Nat.le_refl _
  · obtain ⟨rfl, rfl⟩ := y
    rw [List.getElem?_map, Option.map_eq_some_iff] at hd
    obtain ⟨j, h1, rfl⟩ := hd
    have e : j = i := by
      rw [List.getElem?_eq_some_iff] at h1
      obtain ⟨_, h1⟩ := h1
      rw [← h1, List.getElem_range]
    subst e
    exact ⟨F1, New.refl l, .int _⟩
theorem gi_rng1 {tg : Expr} {n : Int} {x : Str} {p : Pos} (c : Cok G k N sc X) (hx : x = "range") (hg : glB sc x = true) (hm : G.mg "range" = none) (hs : noStar e = true) (hn : n < 100000 ∧ -100000 < n) (ha : GivB G true X e σ F H (.int n)) :
    GivI G br X tg (.Call (.Name x p) [e] [] pos) σ F H ((List.range n.toNat).map fun (i : Nat) => D.int (i : Int)) := fun R q => by
  subst hx
  refine WI.of (pi_range1 (glB_ok c hg) (by rw [c.em]; exact hm) (pa_cons WE.pe pa_nil (star_cons hs)) (by rw [star_cons hs]; rfl)) (ha _ fun v F1 H1 n1 r1 => ?_)
  rw [r1.int]
  refine ⟨n, rfl, by omega, by omega, q _ F1 H1 n1 ?_⟩
  have w := walks_rng (G := G) (lo := 0) (n := n.toNat) (ok := fun F2 H2 => Le F1 F2 ∧ (br = true → Le H1 H2))
  simpa using w
theorem gi_rng2 {tg f : Expr} {m n : Int} {x : Str} {p : Pos} (c : Cok G k N sc X) (hx : x = "range") (hg : glB sc x = true) (hm : G.mg "range" = none) (hs : noStar e = true) (hs2 : noStar f = true) (hn : -100000 < m ∧ n < 100000 ∧ m < 100000 ∧ -100000 < n)
    (ha : GivB G true X e σ F H (.int m)) (hb : ∀ F1 H1, New F H F1 H1 → GivB G true X f σ F1 H1 (.int n)) :
    GivI G br X tg (.Call (.Name x p) [e, f] [] pos) σ F H ((List.range (n - m).toNat).map fun (i : Nat) => D.int (m + (i : Int))) := fun R q => by
  subst hx
  refine WI.of (pi_range2 (glB_ok c hg) (by rw [c.em]; exact hm) (pa_cons WE.pe (pa_cons WE.pe pa_nil (star_cons hs2)) (star_cons hs)) (by rw [star_cons hs, star_cons hs2]; rfl) (by rw [star_cons hs2]; rfl)) (ha _ fun v F1 H1 n1 r1 => hb F1 H1 n1 _ fun u F2 H2 n2 r2 => ?_)
  rw [r1.int, r2.int]
  exact ⟨m, n, rfl, ⟨by omega, by omega, by omega, by omega⟩, q _ F2 H2 (n1.trans n2) walks_rng⟩
end
end EL

set_option Elab.async false
set_option linter.all false
set_option maxRecDepth 100000
/-! the list comprehension -/
namespace EL
open PySem L2
theorem New.upd {F H F' H' : Hp} {p : Addr} (o : HO) (n : New F H F' H') (h1 : F' p = none) (h2 : H p = none) : New F H F' (upd H' p o) := by
  refine ⟨n.ff, fun a u e => ?_, fun a u e => ?_, n.fr⟩
  · rw [upd_ne (ne_of_none e h2)]; exact n.hh _ _ e
  · rw [upd_ne (ne_of_none e h1)]; exact n.fh _ _ e
theorem New.freeze {F H F' H' : Hp} {p : Addr} {o : HO} (n : New F H F' H') (h1 : F' p = none) (h2 : H p = none) (h3 : H' p = some o) : New F H (L2.upd F' p o) H' := by
  refine ⟨fun a u e => ?_, n.hh, fun a u e => ?_, fun a h e => ?_⟩
  · rw [upd_ne (ne_of_none (n.ff _ _ e) h1)]; exact n.ff _ _ e
  · by_cases q : a = p
    · subst q; rw [upd_same] at e; cases e; exact h3
    · rw [upd_ne q] at e; exact n.fh _ _ e
  · by_cases q : a = p
    · subst q; exact h2
    · rw [upd_ne q] at h; exact n.fr a h e
theorem New.keepNone {F H F' H' : Hp} {p : Addr} {o : HO} (n : New F H F' H') (h1 : F p = none) (h2 : H p = some o) : F' p = none := by
  cases q : F' p with
  | none => rfl
  | some u =>
    have z := n.fr p (by rw [q]; exact Option.some_ne_none u) h1
    rw [h2] at z
    cases z
theorem le_upd {F : Hp} {p : Addr} {o : HO} (h : F p = Option.none) : Le F (L2.upd F p o) := fun a u e => by
  rw [upd_ne (ne_of_none e h)]; exact e

theorem compL_snoc (f : D → Option (Option D)) (d : D) : ∀ xs : List D, compL f (xs ++ [d]) = (compL f xs).bind fun r => (f d).map fun o => r ++ o.toList
  | [] => by
    show compL f [d] = (some []).bind _
    simp only [compL]
    cases f d with
    | none => rfl
    | some o => cases o <;> rfl
  | x :: xs => by
    show compL f (x :: (xs ++ [d])) = _
    simp only [compL]
    rw [compL_snoc f d xs]
    cases f x with
    | none => rfl
    | some o =>
      cases compL f xs with
      | none => rfl
      | some r =>
        cases f d with
        | none => cases o <;> rfl
        | some p => cases o <;> rfl
theorem compL_len (f : D → Option (Option D)) : ∀ {xs r : List D}, compL f xs = some r → r.length ≤ xs.length
  | [], r, h => by simp only [compL, Option.some.injEq] at h; subst h; exact Nat.le_refl _
  | x :: xs, r, h => by
    simp only [compL, Option.bind_eq_some_iff, Option.map_eq_some_iff] at h
    obtain ⟨o, _, r', h2, rfl⟩ := h
    have ih := compL_len f h2
    cases o
    · show r'.length ≤ xs.length + 1
      omega
    · show r'.length + 1 ≤ xs.length + 1
      omega
section
variable {m : Addr} {G : Gl0} {k : Nat} {N : List Str} {sc : Scope} {X : Cx} {σ : L2.St} {F H : Hp} {br : Bool} {a b e : Expr} {pos : Pos}
theorem blk_ok {s : Shared} {H0 : Hp} {scope : Scope} {cl : List (Str × Addr)} {C : Addr} {fp : List Addr} (c : Cok G k N sc X) : Cok G k N (relS scope sc) (X.blk s H0 scope (compEnvC scope cl C X.env) fp) :=
  ⟨c.nd, c.eP, c.ew, c.eK, c.em, c.eb, c.eN, by show relS scope X.env.scope = _; rw [c.eS], c.calm, c.room⟩
def WTs (X : Cx) (ifs : List Expr) : TT := fun σ H Q => ∀ (pins : List (Addr × Obj)) (s : Shared), Inv X pins σ H s →
  wpAny (model X.prog X.w) X.A (forIn ifs true fun c r => if r = true then do let ok ← isTrue c X.env (eval c X.env); pure (ForInStep.yield ok) else pure (ForInStep.yield r)) (TP X pins σ Q) X.xe s
theorem WTs.of {ifs : List Expr} {t : TT} (h : PTs X ifs t) {Q : Bool → Hp → Prop} (q : t σ H Q) : WTs X ifs σ H Q := fun pins s I => h.run pins s σ H Q I q
def GivTs (X : Cx) (ifs : List Expr) (σ : L2.St) (F H : Hp) (b : Bool) : Prop := ∀ Q : Bool → Hp → Prop, (∀ F' H', New F H F' H' → Q b H') → WTs X ifs σ H Q
theorem gts_nil (l : Le F H) : GivTs X [] σ F H true := fun Q q => WTs.of pts_nil (q F H (New.refl l))
theorem gts_one {b : Bool} (h : GivesT X e σ F H b) : GivTs X [e] σ F H b := fun Q q => WTs.of (pts_one WT.pt) (h Q q)

/-- what one turn gives -/
structure TurnD (G : Gl0) (m : Addr) (k : Nat) (N : List Str) (sc' : Scope) (t : IT) (env0 : List SV) (ifs : List Expr) (elt : Expr) (f : D → Option (Option D)) (d : D) : Prop where
  ex : ∃ env1, bindT t d env0 = some env1 ∧ ∃ ok : Bool, (∀ Y : Cx, Cok G k N sc' Y → ∀ σ1 F1 H1, EnvR G m F1 H1 σ1 env1 → Le F1 H1 → GivTs Y ifs σ1 F1 H1 ok) ∧
    (ok = true → ∃ y, f d = some (some y) ∧ ∀ Y : Cx, Cok G k N sc' Y → ∀ σ1 F1 H1, EnvR G m F1 H1 σ1 env1 → Le F1 H1 → GivB G false Y elt σ1 F1 H1 y) ∧ (ok = false → f d = some none)

/-- the expression gives a new object that stands for d, not frozen -/
def GivO (G : Gl0) (X : Cx) (e : Expr) (σ : L2.St) (F H : Hp) (d : D) : Prop := ∀ Q : VK, (∀ a o F' H', New F H F' H' → H a = none → F' a = none → H' a = some o → Cell G F' o d → Q (.ref a) H') → WE X e σ H Q
theorem GivO.giv {d : D} (h : GivO G X e σ F H d) : GivB G br X e σ F H d := fun Q q => h Q fun a o F' H' n h1 h2 h3 h4 =>
  q (.ref a) (L2.upd F' a o) H' (n.freeze h2 h1 h3) (.inl ((h4.mono (le_upd h2)).rep upd_same))
theorem lc_read {elt tg iter : Expr} {ifs : List Expr} {scope : Scope} {own : List (Str × Nat)} {t : IT} {ds out : List D} {env : List SV} {f : D → Option (Option D)}
    (c : Cok G k N sc X) (ok : BlkOk X.N X.env.scope scope own) (ht : chkT N (locB (relS scope sc)) t tg = true) (hin : inOwn (own.map (·.2)) t = true) (hs : ∀ x, foldedSetIterable iter X.env x = pure x)
    (hI : GivI G true X tg iter σ F H ds) (R : EnvR G m F H σ env) (hlen : ds.length ≤ 100000) (turn : ∀ d ∈ ds, TurnD G m k N (relS scope sc) t (wipeE env (own.map (·.2))) ifs elt f d) (ho : compL f ds = some out) (Q : VK) (q : ∀ a o F' H', New F H F' H' → H a = none → F' a = none → H' a = some o → Cell G F' o (.lst out) → Q (.ref a) H') :
    tLc (WI X tg iter) (gT X.K t) (fun σ H Q => ∀ (s : Shared) (H0 : Hp) (C : Addr) (cl : List (Str × Addr)) (fp : List Addr), WTs (X.blk s H0 scope (compEnvC scope cl C X.env) fp) ifs σ H Q)
      (fun σ H Q => ∀ (s : Shared) (H0 : Hp) (C : Addr) (cl : List (Str × Addr)) (fp : List Addr), WE (X.blk s H0 scope (compEnvC scope cl C X.env) fp) elt σ H Q) (own.map (·.2)) σ H Q := by
  refine hI _ fun J F1 H1 n1 wk Dl hD => ?_
  have hDF : F1 Dl = none := n1.fh.none hD
  refine ⟨fun i mm H' => mm = ds.length - i ∧ i ≤ ds.length ∧ ∃ F' acc outs, New F1 H1 F' H' ∧ F' Dl = none ∧ H' Dl = some (.lst acc) ∧ RepL G F' acc outs ∧ compL f (ds.take i) = some outs,
    ⟨ds.length, by simp, Nat.zero_le _, F1, [], [], New.allocH _ n1.fh hD, hDF, upd_same, .nil, by simp [compL]⟩, ?_⟩
  rintro i mm H' ⟨rfl, hi, F', acc, outs, n2, f2, h2, r2, c2⟩
  obtain ⟨wgo, wstop, wyld⟩ := wk F' H' n2.fh ⟨n2.ff, fun _ => n2.hh⟩
  by_cases hlt : i < ds.length
  · refine .inr ⟨wgo i hlt, fun H3 => i + 1 ≤ ds.length ∧ ∃ F' acc outs, New F1 H1 F' H3 ∧ F' Dl = none ∧ H3 Dl = some (.lst acc) ∧ RepL G F' acc outs ∧ compL f (ds.take (i + 1)) = some outs, fun H3 p => ⟨ds.length - (i + 1), by omega, rfl, p.1, p.2⟩, fun x H3 y => ?_⟩
    have hd : ds[i]? = some ds[i] := List.getElem?_eq_getElem hlt
    obtain ⟨F3, n3, r3⟩ := wyld i x H3 ds[i] hd y
    obtain ⟨env1, hb, okb, tts, tt1, tt0⟩ := (turn ds[i] (List.getElem_mem hlt)).ex
    have R3 : EnvR G m F3 H3 (wipe σ (own.map (·.2))) (wipeE env (own.map (·.2))) := ((R.new n1).new (n2.trans n3)).wipe _
    have et : ds.take (i + 1) = ds.take i ++ [ds[i]] := by rw [List.take_add_one, hd]; rfl
    have f3 : F3 Dl = none := n3.keepNone f2 h2
    have h3 : H3 Dl = some (.lst acc) := n3.hh _ _ h2
    rw [show gT X.K t = gT G.K t by rw [c.eK]]
    refine bind_ok n3.fh hb r3 R3 fun σ4 R4 l4 k4 => ⟨?_, fun s H0 C cl fp => ?_⟩
    · refine wipe_eq (l4.trans (wipe_length _ _)) fun j hj => ?_
      rw [k4 j fun z => hj (own_sl hin j z), wipe_get, if_neg hj]
    · refine tts _ (blk_ok c) σ4 F3 H3 R4 n3.fh _ fun F4 H4 n4 => ?_
      have f4 : F4 Dl = none := n4.keepNone f3 h3
      have h4 : H4 Dl = some (.lst acc) := n4.hh _ _ h3
      cases okb with
      | false =>
        show _ ∧ _
        refine ⟨hlt, F4, acc, outs, (n2.trans n3).trans n4, f4, h4, r2.mono ((n3.trans n4).ff), ?_⟩
        rw [et, compL_snoc, c2, tt0 rfl]
        simp
      | true =>
        obtain ⟨y, hf, hy⟩ := tt1 rfl
        show ∀ _ _ _ _ _, _
        intro s H0 C cl fp
        refine hy _ (blk_ok c) σ4 F4 H4 (R4.new n4) n4.fh _ fun v F5 H5 n5 r5 => ?_
        have f5 : F5 Dl = none := n5.keepNone f4 h4
        have h5 : H5 Dl = some (.lst acc) := n5.hh _ _ h4
        have hal : acc.length ≤ i := by
          rw [r2.length]
          refine Nat.le_trans (compL_len f c2) ?_
          rw [List.length_take]
          exact Nat.min_le_left _ _
        refine ⟨acc, h5, by rw [sizeLine_eq]; omega, hlt, F5, acc ++ [v], outs ++ [y], (((n2.trans n3).trans n4).trans n5).upd _ f5 hD, f5, upd_same, ((r2.mono ((n3.trans n4).trans n5).ff)).append (.cons r5.rep .nil), ?_⟩
        rw [et, compL_snoc, c2, hf]
        rfl
  · have e : i = ds.length := by omega
    subst e
    refine .inl ⟨wstop, ?_⟩
    rw [List.take_length, ho] at c2
    cases c2
    have hH : H Dl = none := n1.hh.none hD
    exact q Dl (.lst acc) F' H' (n1.trans n2) hH f2 h2 r2
theorem g_lcO {elt tg iter : Expr} {ifs : List Expr} {scope : Scope} {own : List (Str × Nat)} {t : IT} {ds out : List D} {env : List SV} {f : D → Option (Option D)}
    (c : Cok G k N sc X) (ok : BlkOk X.N X.env.scope scope own) (ht : chkT N (locB (relS scope sc)) t tg = true) (hin : inOwn (own.map (·.2)) t = true) (hs : ∀ x, foldedSetIterable iter X.env x = pure x)
    (hI : GivI G true X tg iter σ F H ds) (R : EnvR G m F H σ env) (hlen : ds.length ≤ 100000) (turn : ∀ d ∈ ds, TurnD G m k N (relS scope sc) t (wipeE env (own.map (·.2))) ifs elt f d) (ho : compL f ds = some out) :
    GivO G X (.ListComp elt [⟨tg, iter, ifs, 0⟩] scope pos) σ F H (.lst out) := fun Q q =>
  WE.of (pe_lc (g := gT X.K t)
    (tt := fun σ H Q => ∀ (s : Shared) (H0 : Hp) (C : Addr) (cl : List (Str × Addr)) (fp : List Addr), WTs (X.blk s H0 scope (compEnvC scope cl C X.env) fp) ifs σ H Q)
    (te := fun σ H Q => ∀ (s : Shared) (H0 : Hp) (C : Addr) (cl : List (Str × Addr)) (fp : List Addr), WE (X.blk s H0 scope (compEnvC scope cl C X.env) fp) elt σ H Q)
    c.calm (by rw [c.eN]; exact c.nd) WI.pi ok (fun s H0 C cl fp => pgT (blk_ok c) (fun _ => loc_pr) ht) (fun s H0 C cl fp => ⟨fun pins s1 σ1 H1 Q1 I h => h s H0 C cl fp pins s1 I⟩) (fun s H0 C cl fp => ⟨fun pins s1 σ1 H1 Q1 I h => h s H0 C cl fp pins s1 I⟩) hs)
    (lc_read c ok ht hin hs hI R hlen turn ho Q q)
theorem g_lc {elt tg iter : Expr} {ifs : List Expr} {scope : Scope} {own : List (Str × Nat)} {t : IT} {ds out : List D} {env : List SV} {f : D → Option (Option D)}
    (c : Cok G k N sc X) (ok : BlkOk X.N X.env.scope scope own) (ht : chkT N (locB (relS scope sc)) t tg = true) (hin : inOwn (own.map (·.2)) t = true) (hs : ∀ x, foldedSetIterable iter X.env x = pure x)
    (hI : GivI G true X tg iter σ F H ds) (R : EnvR G m F H σ env) (hlen : ds.length ≤ 100000) (turn : ∀ d ∈ ds, TurnD G m k N (relS scope sc) t (wipeE env (own.map (·.2))) ifs elt f d) (ho : compL f ds = some out) :
    GivB G br X (.ListComp elt [⟨tg, iter, ifs, 0⟩] scope pos) σ F H (.lst out) := (g_lcO c ok ht hin hs hI R hlen turn ho).giv
/-- y = [..], y a local: the new list is not frozen -/
theorem s_lc {i : Nat} {y : Str} {py spos : Pos} {Dd : Ends} {elt tg iter : Expr} {ifs : List Expr} {scope : Scope} {own : List (Str × Nat)} {t : IT} {ds out : List D} {env : List SV} {f : D → Option (Option D)}
    (c : Cok G k N sc X) (ok : BlkOk X.N X.env.scope scope own) (ht : chkT N (locB (relS scope sc)) t tg = true) (hin : inOwn (own.map (·.2)) t = true) (hs : ∀ x, foldedSetIterable iter X.env x = pure x)
    (hI : GivI G true X tg iter σ F H ds) (R : EnvR G m F H σ env) (hlen : ds.length ≤ 100000) (turn : ∀ d ∈ ds, TurnD G m k N (relS scope sc) t (wipeE env (own.map (·.2))) ifs elt f d) (ho : compL f ds = some out) (hy : N[i]? = some y) (hyl : locB sc y = true) (hsw : swapsWith (.ListComp elt [⟨tg, iter, ifs, 0⟩] scope pos) (some (.Name y py)) spos.line X.env = pure true)
    (q : ∀ a o F' H', New F H F' H' → H a = none → F' a = none → H' a = some o → Cell G F' o (.lst out) → Dd.nx (σ.set i (some (.ref a))) H') : WS X (.Assign [.Name y py] (.ListComp elt [⟨tg, iter, ifs, 0⟩] scope pos) spos) Dd σ H :=
  WS.of (ps_setLc (g := gT X.K t)
    (tt := fun σ H Q => ∀ (s : Shared) (H0 : Hp) (C : Addr) (cl : List (Str × Addr)) (fp : List Addr), WTs (X.blk s H0 scope (compEnvC scope cl C X.env) fp) ifs σ H Q)
    (te := fun σ H Q => ∀ (s : Shared) (H0 : Hp) (C : Addr) (cl : List (Str × Addr)) (fp : List Addr), WE (X.blk s H0 scope (compEnvC scope cl C X.env) fp) elt σ H Q)
    c.calm (by rw [c.eN]; exact c.nd) (by rw [c.eN]; exact hy) (by rw [c.eS]; exact locB_ok hyl) hsw WI.pi ok (fun s H0 C cl fp => pgT (blk_ok c) (fun _ => loc_pr) ht) (fun s H0 C cl fp => ⟨fun pins s1 σ1 H1 Q1 I h => h s H0 C cl fp pins s1 I⟩) (fun s H0 C cl fp => ⟨fun pins s1 σ1 H1 Q1 I h => h s H0 C cl fp pins s1 I⟩) hs)
    (lc_read c ok ht hin hs hI R hlen turn ho (fun x H1 => gName i x σ H1 Dd.nx) q)
end
end EL

set_option Elab.async false
set_option linter.all false
set_option maxRecDepth 100000
set_option maxHeartbeats 4000000
/-! a set comprehension whose members are of a kind that the layer can add -/
namespace EL
open PySem L2 PySem.Spec PyProof.Rows
/-- kinds of sets: what stands in the heap for what they hold, what may be added, what comes of it -/
structure SetK (P : Program) (w : World) (K : PySem.W.Frag) (α : Type) where
  ob : Addr → α → HO
  nil : α
  step : V → Hp → α → (α → Prop) → Prop
  fresh : ∀ (h : Heap) (H : Hp), ObjOk P w H (h.push { cls := .type "set", dict := none, data := .set #[] 0 (.fresh 0 0 (!w.params.followText "set-order")) }) h.objs.size (ob h.objs.size nil)
  add : ∀ {Y : Cx} {pins : List (Addr × Obj)} {σ : L2.St} {H : Hp} {s : Shared} {a : Addr} {c : α} {r : α → Prop} {x : V} {u : Value} {Q : Value → Shared → Prop} {E : Value → Shared → Prop}, Y.prog = P → Y.w = w → Y.K = K → Y.A.units + 64 < cLine → Inv Y pins σ H s → H a = some (ob a c) → step x H c r → RelV x u →
    (∀ c' s', r c' → Inv Y pins σ (upd H a (ob a c')) s' → Q .none s') → wpAny (model Y.prog Y.w) Y.A (call (.builtin "set.add") [.ref a, u]) Q E s
section
variable {X : Cx} {α : Type}
def tSetc (S : SetK X.prog X.w X.K α) (wi : TI) (g : TG) (tt : TT) (te : TE) (vs : List Nat) : TE := fun σ H Q => wi σ H fun J H1 => ∀ b, H1 b = none → ∃ W : Nat → Nat → Hp → Prop, (∃ m, W 0 m (upd H1 b (S.ob b S.nil))) ∧ ∀ i m H, W i m H →
  (J.stop i H ∧ Q (.ref b) H) ∨ (J.go i H ∧ ∃ Nx : Hp → Prop, (∀ H', Nx H' → ∃ m', m' < m ∧ W (i + 1) m' H') ∧ ∀ x H', J.yld i H x H' → g x (wipe σ vs) H' fun σ2 H2 => wipe σ2 vs = wipe σ vs ∧ tt σ2 H2 fun k H3 =>
    if k = true then te σ2 H3 fun y H4 => ∃ c, H4 b = some (S.ob b c) ∧ S.step y H4 c fun c' => Nx (upd H4 b (S.ob b c')) else Nx H3)
theorem thnX {β : Type} {Y : Cx} {t : Sem β} {Q Q' : β → Shared → Prop} {M : Model} {A : Around} {E : Value → Shared → Prop} {s : Shared} (hx : Y.xe = fun _ _ => False) (h : wpAny M A t Q Y.xe s) (hQ : ∀ a s, Q a s → Q' a s) : wpAny M A t Q' E s := by
  rw [hx] at h
  exact thnF h hQ
/-- the loop, in the block's own context Y -/
theorem setc_loop {Y : Cx} {S : SetK Y.prog Y.w Y.K α} {elt tg iter : Expr} {ifs : List Expr} {scope : Scope} {pos : Pos} {it b : Addr} {fp : List Addr} {tn : Nat → Heap → Prop} {J : It} {g : TG} {tt : TT} {te : TE} {vs : List Nat} {σ : L2.St} {Q : VK} {R : Result → Shared → Prop} {W : Nat → Nat → Hp → Prop}
    (hc : Y.calm = true) (hx : Y.xe = fun _ _ => False) (hu : Y.A.units + 64 < cLine) (T : Turn Y.prog Y.w Y.K tg J fp it tn) (hfp : ∀ (H : Hp), (∀ a ∈ fp, H a = none) → ∀ a ∈ fp, FpOk Y [] H a) (pg : PG Y tg g) (pt : PTs Y ifs tt) (pe : PE Y elt te)
    (turn : ∀ i m H, W i m H → (J.stop i H ∧ Q (.ref b) H) ∨ (J.go i H ∧ ∃ Nx : Hp → Prop, (∀ H', Nx H' → ∃ m', m' < m ∧ W (i + 1) m' H') ∧ ∀ x H', J.yld i H x H' → g x (wipe σ vs) H' fun σ2 H2 => wipe σ2 vs = wipe σ vs ∧ tt σ2 H2 fun k H3 =>
      if k = true then te σ2 H3 fun y H4 => ∃ c, H4 b = some (S.ob b c) ∧ S.step y H4 c fun c' => Nx (upd H4 b (S.ob b c')) else Nx H3))
    (fin : ∀ H' s', Inv Y [] (wipe σ vs) H' s' → Q (.ref b) H' → R (.ok .next) s') {n0 : Nat} {H0 : Hp} {s : Shared} (I0 : Inv Y [] (wipe σ vs) H0 s) (t0 : tn 0 s.heap) (f0 : ∀ a ∈ fp, H0 a = none) (w0 : W 0 n0 H0) :
    codeAny (model Y.prog Y.w) Y.A (.compLoop (.SetComp elt [⟨tg, iter, ifs, 0⟩] scope pos) 0 (.ref it) (.ref b) Y.env) R s := by
  refine PpSet.compLoopS_any (fun left z => ∃ j K, W j left K ∧ Inv Y [] (wipe σ vs) K z ∧ tn j z.heap ∧ ∀ a ∈ fp, K a = none) (fun left z hz => ?_) n0 ⟨0, H0, w0, I0, t0, f0⟩
  obtain ⟨j, K, wj, J1, tj, fj⟩ := hz
  rcases turn j left K wj with ⟨hs, hq⟩ | ⟨hg, Nx, later, each⟩
  · exact thnF (T.done Y rfl rfl rfl hc j [] z _ K (fun _ _ => False) J1 (hfp K fj) tj hs) fun r z1 hr => by
      obtain ⟨e, J2⟩ := hr
      subst e
      exact fin K z1 J2 hq
  · refine thnF (T.item Y rfl rfl rfl hc j [] z _ K (fun _ _ => False) J1 (hfp K fj) tj hg) fun r z1 hr => ?_
    obtain ⟨u, e, hr⟩ := hr
    subst e
    refine thnF hr fun _ z2 h2 => ?_
    obtain ⟨x, K2, J2, rx, hy, t2, f2⟩ := h2
    have J2p := J2.pinned (hfp K2 f2) (T.obj _ _ t2)
    -- what every end of this turn has to show
    have close : ∀ (σ' : L2.St) (K' : Hp) (z' : Shared), wipe σ' vs = wipe σ vs → Inv Y ([] ++ pinsAt fp z2.heap) σ' K' z' → Nx K' → ∃ l, l < left ∧ ∃ j K, W j l K ∧ Inv Y [] (wipe σ vs) K z' ∧ tn j z'.heap ∧ ∀ a ∈ fp, K a = none := fun σ' K' z' hw J' hn => by
      obtain ⟨l, lt, wl⟩ := later K' hn
      have stay : ∀ a ∈ fp, ∀ o, z2.heap.get? a = some o → z'.heap.get? a = some o ∧ K' a = none := fun a ha o eo => by
        have q := J'.pin (a, o) (List.mem_append_right _ (List.mem_append_right _ (mem_pinsAt ha eo)))
        exact ⟨q.1, q.2.1⟩
      refine ⟨l, lt, j + 1, K', wl, ?_, T.keep _ _ _ t2 fun a ha o eo => (stay a ha o eo).1, fun a ha => ?_⟩
      · rw [← hw]
        exact (Inv.unpinned (pins := []) J').weak (wipe_length _ _) fun q v eq => (wipe_some eq).1
      · obtain ⟨o, eo, _⟩ := T.obj _ _ t2 a ha
        exact (stay a ha o eo).2
    refine thnX hx (pg.run _ z2 _ K2 x u _ J2p rx (each x K2 hy)) fun _ z3 h3 => ?_
    obtain ⟨σ3, K3, J3, hw3, h3⟩ := h3
    refine thnX hx (pt.run _ z3 σ3 K3 _ J3 h3) fun k z4 h4 => ?_
    obtain ⟨K4, J4, h4⟩ := h4
    cases k with
    | false =>
      simp only [Bool.false_eq_true, if_false] at h4 ⊢
      exact close σ3 K4 z4 hw3 J4 h4
    | true =>
      simp only [if_true] at h4 ⊢
      refine thnX hx (pe.run _ z4 σ3 K4 _ J4 h4) fun v z5 h5 => ?_
      obtain ⟨y, K5, J5, ry, c, hb, hst⟩ := h5
      exact S.add rfl rfl rfl hu J5 hb hst ry fun c' z6 hp J6 => close σ3 _ z6 hw3 J6 hp
/-- the comprehension as a value -/
theorem pe_setc (S : SetK X.prog X.w X.K α) {elt tg iter : Expr} {ifs : List Expr} {scope : Scope} {own : List (Str × Nat)} {pos : Pos} {wi : TI} {g : TG} {tt : TT} {te : TE} (hc : X.calm = true) (hu : X.A.units + 64 < cLine) (hN : X.N.Nodup) (hi : PI X tg iter wi) (ok : BlkOk X.N X.env.scope scope own)
    (hg : ∀ (z : Shared) (K : Hp) (b : Addr) (cl : List (Str × Addr)) (fp : List Addr), PG (X.blk z K scope (compEnvC scope cl b X.env) fp) tg g) (ht : ∀ (z : Shared) (K : Hp) (b : Addr) (cl : List (Str × Addr)) (fp : List Addr), PTs (X.blk z K scope (compEnvC scope cl b X.env) fp) ifs tt)
    (he : ∀ (z : Shared) (K : Hp) (b : Addr) (cl : List (Str × Addr)) (fp : List Addr), PE (X.blk z K scope (compEnvC scope cl b X.env) fp) elt te) (hs : ∀ x, foldedSetIterable iter X.env x = pure x) :
    PE X (.SetComp elt [⟨tg, iter, ifs, 0⟩] scope pos) (tSetc S wi g tt te (own.map (·.2))) := by
  refine ⟨fun pins s σ H Q I h => ?_⟩
  rw [PpSet.eval_SetComp]
  have seen : ∀ y ∈ scope.names, y.2 = .free → ∃ c, X.env.cells.lookup y.1 = some c := fun y hy e => (ok.free y hy e).elim (fun q => I.ok.has _ (.inl q)) fun q => I.ok.has _ (.inr q)
  refine wpAny_comprehension_free (use := none) rfl hs (closure_ok seen) ok.kind (fun y hy e => (ok.uniq y hy).trans (congrArg some e)) (thn (hi.run pins s σ H _ I h) fun xv z1 h1 => thn h1 fun itv z2 h2 => ?_)
  obtain ⟨it, fp, tn, J, K2, e, I2, T, t2, f2, red⟩ := h2
  subst e
  refine PpSet.newSet_ok (newEnv_comp ?_)
  obtain ⟨W, ⟨m0, w0⟩, turn⟩ := red z2.heap.objs.size (I2.hok.fresh (Nat.le_refl _))
  have old : ∀ a o, z2.heap.get? a = some o → (z2.heap.push { cls := .type "set", dict := none, data := .set #[] 0 (.fresh 0 0 (!X.w.params.followText "set-order")) }).get? a = some o := fun a o eo => Heap.get?_push_of_some _ eo
  have I3 := I2.laid (t' := z2.toks) old (Nat.le_refl _) (S.fresh z2.heap (upd K2 z2.heap.objs.size (S.ob z2.heap.objs.size S.nil)))
  have big : z2.heap.objs.size < (z2.heap.push { cls := .type "set", dict := none, data := .set #[] 0 (.fresh 0 0 (!X.w.params.followText "set-order")) }).objs.size := by
    rw [Heap.size_push]
    exact Nat.lt_succ_self _
  have low : ∀ a ∈ fp, a < z2.heap.objs.size := fun a ha => by
    obtain ⟨o, eo, _⟩ := T.obj _ _ t2 a ha
    exact Heap.lt_size eo
  have t3 := T.keep _ _ _ t2 fun a _ o eo => old a o eo
  have none3 : ∀ a ∈ fp, upd K2 z2.heap.objs.size (S.ob z2.heap.objs.size S.nil) a = none := fun a ha => by
    rw [upd_ne (Nat.ne_of_lt (low a ha))]
    exact (f2 a ha).1
  have f3 : ∀ a ∈ fp, FpOk X pins (upd K2 z2.heap.objs.size (S.ob z2.heap.objs.size S.nil)) a ∧ a < (z2.heap.push { cls := .type "set", dict := none, data := .set #[] 0 (.fresh 0 0 (!X.w.params.followText "set-order")) }).objs.size :=
    fun a ha => ⟨⟨none3 a ha, (f2 a ha).2⟩, Nat.lt_trans (low a ha) big⟩
  obtain ⟨b, eb⟩ : ∃ b, b = z2.heap.objs.size := ⟨_, rfl⟩
  obtain ⟨K3, eK⟩ : ∃ K3, K3 = upd K2 z2.heap.objs.size (S.ob z2.heap.objs.size S.nil) := ⟨_, rfl⟩
  obtain ⟨z3, ez⟩ : ∃ z3 : Shared, z3 = { z2 with heap := z2.heap.push { cls := .type "set", dict := none, data := .set #[] 0 (.fresh 0 0 (!X.w.params.followText "set-order")) } } := ⟨_, rfl⟩
  have e3 : z3.heap = z2.heap.push { cls := .type "set", dict := none, data := .set #[] 0 (.fresh 0 0 (!X.w.params.followText "set-order")) } := by rw [ez]
  rw [← eK] at w0 I3 none3 f3
  rw [← e3] at t3 f3
  have I3 : L2.Inv X pins σ K3 z3 := by
    rw [ez]
    exact I3
  have I4 := block_start I3 ok hN f3
  obtain ⟨ce, ec⟩ : ∃ ce, ce = compEnvC scope (cellsFrom (z3.heap.objs.size + 1) scope.names (cloFrom X.env.cells scope.names [])) z3.heap.objs.size X.env := ⟨_, rfl⟩
  obtain ⟨z4, e4⟩ : ∃ z4 : Shared, z4 = { z3 with heap := pushCells (z3.heap.push { cls := .type "dict", data := .dict #[] }) scope.names } := ⟨_, rfl⟩
  rw [← ec, ← e4] at I4
  have goal : codeAny (model X.prog X.w) X.A (.compStart (.SetComp elt [⟨tg, iter, ifs, 0⟩] scope pos) 0 (.ref it) (.ref z2.heap.objs.size) ce) (compPost (model X.prog X.w) X.A X.xe none (fun v s' => ∃ y H', L2.Inv X pins σ H' s' ∧ RelV y v ∧ Q y H') (.ref z2.heap.objs.size) z3.heap.objs.size) z4 := by
    have t4 : tn 0 z4.heap := T.keep _ _ _ t3 fun a _ o eo => by
      rw [e4]
      exact pushCells_keeps _ _ _ _ (Heap.get?_push_of_some _ eo)
    have pg := hg z3 K3 z3.heap.objs.size (cellsFrom (z3.heap.objs.size + 1) scope.names (cloFrom X.env.cells scope.names [])) fp
    have pt := ht z3 K3 z3.heap.objs.size (cellsFrom (z3.heap.objs.size + 1) scope.names (cloFrom X.env.cells scope.names [])) fp
    have pe := he z3 K3 z3.heap.objs.size (cellsFrom (z3.heap.objs.size + 1) scope.names (cloFrom X.env.cells scope.names [])) fp
    rw [← ec] at pg pt pe
    have hl : ce.locals = z3.heap.objs.size := by rw [ec]; rfl
    have foot : ∀ (H : Hp), (∀ a ∈ fp, H a = none) → ∀ a ∈ fp, FpOk (X.blk z3 K3 scope ce fp) [] H a := fun H hn a ha =>
      ⟨hn a ha, (I4.ok.exf a ha).1, I4.ok.exfs a ha, .inl ha, fun x c e => (I4.ok.exf a ha).2 x c e, fun p hp => by
        have hp : p ∈ ([] : List (Addr × Obj)) ++ [] := hp
        simp at hp⟩
    have fin : ∀ H' s', L2.Inv (X.blk z3 K3 scope ce fp) [] (wipe σ (own.map (·.2))) H' s' → Q (.ref z2.heap.objs.size) H' → compPost (model X.prog X.w) X.A X.xe none (fun v s' => ∃ y H', L2.Inv X pins σ H' s' ∧ RelV y v ∧ Q y H') (.ref z2.heap.objs.size) z3.heap.objs.size (.ok .next) s' := fun H' s' J' q => by
      have back : L2.Inv X pins σ H' s' := I3.call' (ch := fp) J'.os J'.base J'.hok J'.bare fun a ha => ⟨(f3 a ha).1.2.2.2.1, (f3 a ha).1.2.1, (f3 a ha).1.2.2.2.2.1, (f3 a ha).1.2.2.2.2.2⟩
      have fr : H' ce.locals = none := J'.free
      obtain ⟨m, hn, _⟩ := J'.loc
      have hn : s'.heap.Ns ce.locals m := hn
      rw [hl] at fr hn
      obtain ⟨g0, g1, g2, g3, g4, g5⟩ := I3.fpOk (Nat.le_refl _) fr
      exact ⟨m, hn, fun h'' sb => ⟨.ref z2.heap.objs.size, H', back.turned (t' := s'.toks) (fun a o ha eo => (sb.2 a ha).trans eo) g0 g1 g3 g4 g5, rfl, q⟩⟩
    have loop := setc_loop (Y := X.blk z3 K3 scope ce fp) (S := S) (scope := scope) (iter := iter) (pos := pos) hc rfl hu T foot pg pt pe turn fin I4 t4 none3 w0
    exact PpSet.codeAny_compStart_set loop (T.self X.A 0 _ _ _ t4 loop)
  rw [e4, ec, ez] at goal
  exact goal
end
/-- sets of tuples of ints (fewer than 64) -/
def tupK (P : Program) (w : World) (K : PySem.W.Frag) : SetK P w K (List (Addr × List Int)) where
  ob := fun a L => SetTO P w a L
  nil := []
  step := fun x H L r => ∃ b k, x = .ref b ∧ SqT K H b (k.map V.int) ∧ (∀ p ∈ L, SqT K H p.1 (p.2.map V.int)) ∧ L.length + 1 < 64 ∧ ∀ L', (k ∈ L.map (·.2) → L' = L) → (k ∉ L.map (·.2) → L'.Perm ((b, k) :: L)) → r L'
  fresh := fun h H => setTO_new (setTR_fresh (Heap.get?_push_size _ rfl)).t0
  add := fun {Y pins σ H s a c r x u Q E} eP ew eK hu I hH hst hr hQ => by
    subst eP ew eK
    obtain ⟨b, k, rfl, hb, hL, few, hR⟩ := hst
    cases hr
    have R0 : SetT0 Y.prog Y.w s.heap a c := (I.hok a _ hH).1
    obtain ⟨es, ep, t, R⟩ := R0.full fun p hp => I.isT (hL p hp)
    have hx := I.isT hb
    obtain ⟨o, ho, ex, _⟩ := R.ob
    refine wpAny_call_entry F.slot_set_add ⟨o, ho, ex.1⟩ F.entry_set_add ?_ (F.args_set_add_2 _ _)
    unfold Builtin.«set.add» Builtin.Frozenset.oneOther Builtin.Frozenset.addrOf setAdd
    simp only [List.isEmpty_nil, bind_assoc]
    refine wpAny_bind (wpAny_pure ?_)
    try dsimp only
    refine wpAny_bind (wpAny_pure ?_)
    try dsimp only
    refine wpAny_bind (wpAny_holding ?_)
    have hu1 : (Y.A.under (.builtin "set.add" ⟨[.ref a, .ref b], []⟩)).units < cLine := by
      rw [Around.under_plainId (by decide +kernel)]
      show Y.A.units + 1 < cLine
      omega
    refine wpAny_bind (wpAny_pyHash_tuple hu1 hx ?_)
    refine add_at (s := { s with toks := s.toks + (k.length + 1) }) R hx hu1 few fun q h' L' es' ep' t' sb R' same more => ?_
    show wpAny _ _ (ret Value.none) _ _ _
    refine wpAny_pure ⟨_, rfl, hQ L' _ (hR L' same more) ?_⟩
    have he : ∃ u, h'.get? a = some u := by
      obtain ⟨o', ho', _⟩ := R'.ob
      exact ⟨o', ho'⟩
    exact I.write (e := a) (t' := s.toks + (k.length + 1)) (by rw [hH]; trivial) (.inl rfl) (fun b u hb hu => (sb.2 b hb).trans hu) he (setTO_new R'.t0)
end EL

set_option Elab.async false
set_option linter.all false
set_option maxRecDepth 100000
set_option maxHeartbeats 4000000
/-! len({rows for ..}) -/
namespace EL
open PySem L2
section
variable {X : Cx}
theorem call_lenT : CallR X (.builtin "len") (fun xs H Q => ∃ a L, xs = [.ref a] ∧ H a = some (SetTO X.prog X.w a L) ∧ (∀ p ∈ L, SqT X.K H p.1 (p.2.map V.int)) ∧ Q (.int (L.length : Nat)) H) := by
  intro pins s σ H xs us Q I r h
  obtain ⟨a, L, rfl, ha, hL, q⟩ := h
  rw [Vals.ref1 r]
  have R0 : SetT0 X.prog X.w s.heap a L := (I.hok a _ ha).1
  obtain ⟨es, ep, t, R⟩ := R0.full fun p hp => I.isT (hL p hp)
  obtain ⟨o, ho, ex, ed⟩ := R.ob
  have sz := R.size
  have few := R.few
  refine call_len_set ho ex ed R.fits (by omega) ⟨.int (L.length : Nat), H, I.tok _, ⟨_, by rw [sz]⟩, q⟩
end
theorem addU_in {acc : List (List Int)} {k : List Int} (h : k ∈ acc) : addU acc k = acc := if_pos h
theorem addU_out {acc : List (List Int)} {k : List Int} (h : k ∉ acc) : addU acc k = k :: acc := if_neg h
theorem addU_len : ∀ (l acc : List (List Int)), (l.foldl addU acc).length ≤ acc.length + l.length
  | [], acc => Nat.le_refl _
  | x :: l, acc => by
    have h := addU_len l (addU acc x)
    have h2 : (addU acc x).length ≤ acc.length + 1 := by
      unfold addU
      split
      · exact Nat.le_succ _
      · exact Nat.le_refl _
    rw [List.foldl_cons, List.length_cons]
    omega
theorem toInts_map : ∀ n : List Int, toInts (n.map .int) = some n
  | [] => rfl
  | a :: r => by
    rw [List.map_cons]
    simp only [toInts, toInts_map r, Option.map_some]
theorem toTups_map : ∀ ns : List (List Int), toTups (ns.map ofTup) = some ns
  | [] => rfl
  | n :: ns => by
    rw [List.map_cons]
    unfold ofTup
    simp only [toTups, toInts_map n, Option.bind_some]
    have e := toTups_map ns
    unfold ofTup at e
    rw [e]
    rfl
theorem compL_has (f : D → Option (Option D)) {d y : D} : ∀ {xs r : List D}, compL f xs = some r → d ∈ xs → f d = some (some y) → y ∈ r
  | [], r, h, hd, _ => by cases hd
  | x :: xs, r, h, hd, hy => by
    simp only [compL, Option.bind_eq_some_iff, Option.map_eq_some_iff] at h
    obtain ⟨o, h1, r', h2, rfl⟩ := h
    rcases List.mem_cons.mp hd with e | hd
    · subst e
      rw [hy] at h1
      cases h1
      exact List.mem_cons_self
    · have ih := compL_has f h2 hd hy
      cases o
      · exact ih
      · exact List.mem_cons_of_mem _ ih
theorem rep_tupI {G : Gl0} {F : Hp} {v : V} {n : List Int} (h : Rep G F v (ofTup n)) : ∃ b, v = .ref b ∧ SqT G.K F b (n.map V.int) := by
  obtain ⟨b, e, h⟩ := tupI_of (Le.refl F) h
  exact ⟨b, e, h⟩
section
variable {m : Addr} {G : Gl0} {k : Nat} {N : List Str} {sc : Scope} {X : Cx} {σ : L2.St} {F H : Hp} {br : Bool} {a b e : Expr} {pos : Pos}
theorem sc_read {elt tg iter : Expr} {ifs : List Expr} {scope : Scope} {own : List (Str × Nat)} {t : IT} {ds : List D} {ns : List (List Int)} {env : List SV} {f : D → Option (Option D)}
    (c : Cok G k N sc X) (ht : chkT N (locB (relS scope sc)) t tg = true) (hin : inOwn (own.map (·.2)) t = true)
    (hI : GivI G true X tg iter σ F H ds) (R : EnvR G m F H σ env) (hlen : ds.length < 63) (turn : ∀ d ∈ ds, TurnD G m k N (relS scope sc) t (wipeE env (own.map (·.2))) ifs elt f d) (ho : compL f ds = some (ns.map ofTup)) (Q : VK)
    (q : ∀ a L F' H', New F H F' H' → H' a = some (SetTO X.prog X.w a L) → (∀ p ∈ L, SqT G.K H' p.1 (p.2.map V.int)) → L.length = (ns.foldl addU []).length → Q (.ref a) H') :
    tSetc (tupK X.prog X.w X.K) (WI X tg iter) (gT X.K t) (fun σ H Q => ∀ (s : Shared) (H0 : Hp) (C : Addr) (cl : List (Str × Addr)) (fp : List Addr), WTs (X.blk s H0 scope (compEnvC scope cl C X.env) fp) ifs σ H Q)
      (fun σ H Q => ∀ (s : Shared) (H0 : Hp) (C : Addr) (cl : List (Str × Addr)) (fp : List Addr), WE (X.blk s H0 scope (compEnvC scope cl C X.env) fp) elt σ H Q) (own.map (·.2)) σ H Q := by
  refine hI _ fun J F1 H1 n1 wk Dl hD => ?_
  have hDF : F1 Dl = none := n1.fh.none hD
  have fol : ∀ {i : Nat} {d y : D}, ds[i]? = some d → f d = some (some y) → ∃ n, y = ofTup n := fun hd hy => by
    have z := compL_has f ho (List.mem_of_getElem? hd) hy
    obtain ⟨n, _, rfl⟩ := List.mem_map.mp z
    exact ⟨n, rfl⟩
  refine ⟨fun i mm H' => mm = ds.length - i ∧ i ≤ ds.length ∧ ∃ (F' : Hp) (L : List (Addr × List Int)) (ks : List (List Int)), New F1 H1 F' H' ∧ F' Dl = none ∧ H' Dl = some (SetTO X.prog X.w Dl L) ∧ (∀ p ∈ L, SqT G.K F' p.1 (p.2.map V.int)) ∧ (L.map (·.2)).Perm (ks.foldl addU []) ∧ compL f (ds.take i) = some (ks.map ofTup),
    ⟨ds.length, by simp, Nat.zero_le _, F1, [], [], New.allocH _ n1.fh hD, hDF, upd_same, (fun p h => by cases h), .refl _, by simp [compL]⟩, ?_⟩
  rintro i mm H' ⟨rfl, hi, F', L, ks, n2, f2, h2, r2, pm, c2⟩
  obtain ⟨wgo, wstop, wyld⟩ := wk F' H' n2.fh ⟨n2.ff, fun _ => n2.hh⟩
  by_cases hlt : i < ds.length
  · refine .inr ⟨wgo i hlt, fun H3 => i + 1 ≤ ds.length ∧ ∃ (F' : Hp) (L : List (Addr × List Int)) (ks : List (List Int)), New F1 H1 F' H3 ∧ F' Dl = none ∧ H3 Dl = some (SetTO X.prog X.w Dl L) ∧ (∀ p ∈ L, SqT G.K F' p.1 (p.2.map V.int)) ∧ (L.map (·.2)).Perm (ks.foldl addU []) ∧ compL f (ds.take (i + 1)) = some (ks.map ofTup), fun H3 p => ⟨ds.length - (i + 1), by omega, rfl, p.1, p.2⟩, fun x H3 y => ?_⟩
    have hd : ds[i]? = some ds[i] := List.getElem?_eq_getElem hlt
    obtain ⟨F3, n3, r3⟩ := wyld i x H3 ds[i] hd y
    obtain ⟨env1, hb, okb, tts, tt1, tt0⟩ := (turn ds[i] (List.getElem_mem hlt)).ex
    have R3 : EnvR G m F3 H3 (wipe σ (own.map (·.2))) (wipeE env (own.map (·.2))) := ((R.new n1).new (n2.trans n3)).wipe _
    have et : ds.take (i + 1) = ds.take i ++ [ds[i]] := by rw [List.take_add_one, hd]; rfl
    have f3 : F3 Dl = none := n3.keepNone f2 h2
    have h3 : H3 Dl = some (SetTO X.prog X.w Dl L) := n3.hh _ _ h2
    rw [show gT X.K t = gT G.K t by rw [c.eK]]
    refine bind_ok n3.fh hb r3 R3 fun σ4 R4 l4 k4 => ⟨?_, fun s H0 C cl fp => ?_⟩
    · refine wipe_eq (l4.trans (wipe_length _ _)) fun j hj => ?_
      rw [k4 j fun z => hj (own_sl hin j z), wipe_get, if_neg hj]
    · refine tts _ (blk_ok c) σ4 F3 H3 R4 n3.fh _ fun F4 H4 n4 => ?_
      have f4 : F4 Dl = none := n4.keepNone f3 h3
      have h4 : H4 Dl = some (SetTO X.prog X.w Dl L) := n4.hh _ _ h3
      cases okb with
      | false =>
        show _ ∧ _
        refine ⟨hlt, F4, L, ks, (n2.trans n3).trans n4, f4, h4, fun p hp => ((n3.trans n4).ff).sqT (r2 p hp), pm, ?_⟩
        rw [et, compL_snoc, c2, tt0 rfl]
        simp
      | true =>
        obtain ⟨y, hf, hy⟩ := tt1 rfl
        obtain ⟨n, rfl⟩ := fol hd hf
        show ∀ _ _ _ _ _, _
        intro s H0 C cl fp
        refine hy _ (blk_ok c) σ4 F4 H4 (R4.new n4) n4.fh _ fun v F5 H5 n5 r5 => ?_
        have f5 : F5 Dl = none := n5.keepNone f4 h4
        have h5 : H5 Dl = some (SetTO X.prog X.w Dl L) := n5.hh _ _ h4
        have old : ∀ p ∈ L, SqT G.K F5 p.1 (p.2.map V.int) := fun p hp => (((n3.trans n4).trans n5).ff).sqT (r2 p hp)
        obtain ⟨b, rfl, hbT⟩ := rep_tupI r5.rep
        have few : L.length + 1 < 64 := by
          have e1 := compL_len f c2
          rw [List.length_map, List.length_take] at e1
          have e2 := addU_len ks []
          have e3 := pm.length_eq
          rw [List.length_map] at e3
          simp only [List.length_nil, Nat.zero_add] at e2
          omega
        refine ⟨L, h5, b, n, rfl, by rw [c.eK]; exact n5.fh.sqT hbT, fun p hp => by rw [c.eK]; exact n5.fh.sqT (old p hp), few, fun L' same more => ?_⟩
        have mem : n ∈ L.map (·.2) ↔ n ∈ ks.foldl addU [] := pm.mem_iff
        refine ⟨hlt, F5, L', ks ++ [n], (((n2.trans n3).trans n4).trans n5).upd _ f5 hD, f5, upd_same, fun p hp => ?_, ?_, ?_⟩
        · by_cases hn : n ∈ L.map (·.2)
          · rw [same hn] at hp
            exact old p hp
          · rcases List.mem_cons.mp ((more hn).mem_iff.mp hp) with e | hp
            · subst e
              exact hbT
            · exact old p hp
        · rw [List.foldl_append]
          show (L'.map (·.2)).Perm (addU (ks.foldl addU []) n)
          by_cases hn : n ∈ L.map (·.2)
          · rw [addU_in (mem.mp hn), same hn]
            exact pm
          · rw [addU_out fun z => hn (mem.mpr z)]
            have z : (L'.map (·.2)).Perm (n :: L.map (·.2)) := (more hn).map _
            exact z.trans (pm.cons n)
        · rw [et, compL_snoc, c2, hf]
          simp
  · have e : i = ds.length := by omega
    subst e
    refine .inl ⟨wstop, ?_⟩
    rw [List.take_length, ho] at c2
    have en : ks = ns := by
      have z := toTups_map ks
      rw [← Option.some.inj c2, toTups_map ns] at z
      exact (Option.some.inj z).symm
    subst en
    refine q Dl L F' H' (n1.trans n2) h2 (fun p hp => n2.fh.sqT (r2 p hp)) ?_
    rw [← pm.length_eq, List.length_map]
theorem g_lsc {elt tg iter : Expr} {ifs : List Expr} {scope : Scope} {own : List (Str × Nat)} {t : IT} {ds : List D} {ns : List (List Int)} {env : List SV} {f : D → Option (Option D)} {x : Str} {p pos2 : Pos}
    (c : Cok G k N sc X) (hx : x = "len") (hg : glB sc x = true) (hm : G.mg "len" = none) (ok : BlkOk X.N X.env.scope scope own) (ht : chkT N (locB (relS scope sc)) t tg = true) (hin : inOwn (own.map (·.2)) t = true) (hs : ∀ x, foldedSetIterable iter X.env x = pure x)
    (hI : GivI G true X tg iter σ F H ds) (R : EnvR G m F H σ env) (hlen : ds.length < 63) (turn : ∀ d ∈ ds, TurnD G m k N (relS scope sc) t (wipeE env (own.map (·.2))) ifs elt f d) (ho : compL f ds = some (ns.map ofTup)) :
    GivB G br X (.Call (.Name x p) [.SetComp elt [⟨tg, iter, ifs, 0⟩] scope pos2] [] pos) σ F H (.int (ns.foldl addU []).length) := fun Q q => by
  subst hx
  have hu : X.A.units + 64 < cLine := by
    have := c.room.un
    omega
  refine WE.of (pe_callB call_lenT (glB_ok c hg) (by rw [c.em]; exact hm) PySem.boot_len (pa_cons (pe_setc (tupK X.prog X.w X.K) (g := gT X.K t)
    (tt := fun σ H Q => ∀ (s : Shared) (H0 : Hp) (C : Addr) (cl : List (Str × Addr)) (fp : List Addr), WTs (X.blk s H0 scope (compEnvC scope cl C X.env) fp) ifs σ H Q)
    (te := fun σ H Q => ∀ (s : Shared) (H0 : Hp) (C : Addr) (cl : List (Str × Addr)) (fp : List Addr), WE (X.blk s H0 scope (compEnvC scope cl C X.env) fp) elt σ H Q)
    c.calm hu (by rw [c.eN]; exact c.nd) WI.pi ok (fun s H0 C cl fp => pgT (blk_ok c) (fun _ => loc_pr) ht) (fun s H0 C cl fp => ⟨fun pins s1 σ1 H1 Q1 I h => h s H0 C cl fp pins s1 I⟩) (fun s H0 C cl fp => ⟨fun pins s1 σ1 H1 Q1 I h => h s H0 C cl fp pins s1 I⟩) hs) pa_nil)) ?_
  unfold tCB tCons tNil
  refine sc_read c ht hin hI R hlen turn ho _ fun a L F1 H1 n1 h1 h2 h3 => ?_
  refine ⟨a, L, rfl, h1, fun p hp => by rw [c.eK]; exact h2 p hp, ?_⟩
  rw [h3]
  exact q _ F1 H1 n1 (.inl (.int _))
end
end EL

set_option Elab.async false
set_option linter.all false
set_option maxRecDepth 100000
set_option maxHeartbeats 4000000
/-! the shape gives what the code gives: expressions -/
namespace EL
open PySem L2
section
variable {m : Addr} {G : Gl0} {k : Nat} {N : List Str} {sc : Scope} {X : Cx} {σ : L2.St} {F H : Hp} {br : Bool} {a b e : Expr} {pos : Pos} {S : Sig}

theorem chk_star {i : IE} (h : chk S N sc i e = true) : noStar e = true := by
  cases e <;> first
    | rfl
    | (cases i <;> simp [chk] at h)
theorem chk_slice {i : IE} (h : chk S N sc i e = true) : isSlice e = false := by
  cases e <;> first
    | rfl
    | (cases i <;> simp [chk] at h)
theorem chk_set {i : IE} (h : chk S N sc i e = true) {env : Env} : ∀ x, foldedSetIterable e env x = pure x := by
  cases e <;> first
    | (intro x; rfl)
    | (cases i <;> simp [chk] at h)
theorem chkI_set {i : II} (h : chkI S N sc i e = true) {env : Env} : ∀ x, foldedSetIterable e env x = pure x := by
  cases i with
  | ex a => exact chk_set (by simpa [chkI] using h)
  | _ => cases e <;> first
    | (intro x; rfl)
    | (simp [chkI] at h)
theorem chks_star : ∀ {is : List IE} {es : List Expr}, chks S N sc is es = true → ∀ y ∈ es, noStar y = true
  | [], [], _, y, hy => by cases hy
  | [], _ :: _, h, _, _ => by simp [chks] at h
  | _ :: _, [], h, _, _ => by simp [chks] at h
  | i :: is, e :: es, h, y, hy => by
    simp only [chks, Bool.and_eq_true] at h
    rcases List.mem_cons.mp hy with rfl | hy
    · exact chk_star h.1
    · exact chks_star h.2 y hy
theorem isG_ok {x y : Str} (h : isG sc x y = true) : x = y ∧ glB sc x = true ∧ okN x = true := by
  unfold isG at h
  simp only [Bool.and_eq_true, decide_eq_true_eq] at h
  exact ⟨h.1.1, h.1.2, h.2⟩

theorem g_bi {bb : Bi} {es : List Expr} {ds : List D} {d : D} {x : Str} {p : Pos} (c : Cok G k N sc X) (hb : bb.ty = none) (hx : isG sc x bb.nm = true) (hm : G.mg bb.nm = none) (hs : ∀ y ∈ e :: es, noStar y = true) (h : bsem bb ds = some d)
    (ha : GivA G true X (e :: es) σ F H ds) : GivB G br X (.Call (.Name x p) (e :: es) [] pos) σ F H d := fun Q q => by
  obtain ⟨ex, hg, ho⟩ := isG_ok hx
  obtain ⟨o1, _, o3⟩ := okN_ok ho
  obtain ⟨r, h1, h2⟩ := bi_ok c hb h
  have hv := boot_bi bb
  rw [← ex] at hv hm
  have red : tCB r (WA X (e :: es)) σ H Q := ha _ fun vs F1 H1 n1 r1 => h2 F1 H1 vs n1.fh r1 Q fun v F2 H2 n2 r2 => q v F2 H2 (n1.trans n2) (.inl r2)
  have st := star_cons (es := es) (env := X.env) (hs _ List.mem_cons_self)
  have sa := starsAll (env := X.env) (pos := pos) fun y hy => hs y (List.mem_cons_of_mem e hy)
  rw [← c.em] at hm
  cases bb <;> first
    | exact absurd hb (by decide)
    | exact WE.of (pe_callB h1 (glB_ok c hg) hm hv WA.pa o3 o1 st sa) red
    | exact WE.of (pe_callTy h1 (glB_ok c hg) hm hv WA.pa o3 o1 st sa) red
/-- list(range(n)) -/
theorem rg_rep (n : Int) : RepL G F (rgV 0 n) ((List.range n.toNat).map fun (i : Nat) => D.int (i : Int)) := by
  unfold rgV
  rw [Int.sub_zero]
  generalize List.range n.toNat = l
  induction l with
  | nil => exact .nil
  | cons a r ih =>
    refine .cons ?_ ih
    show Rep G F (V.int (0 + (a : Int))) (D.int (a : Int))
    rw [Int.zero_add]
    exact .int _
theorem g_lrg {n : Int} {x y : Str} {p p2 pos2 : Pos} (c : Cok G k N sc X) (hx : isG sc x "list" = true) (hm : G.mg "list" = none) (hy : isG sc y "range" = true) (hm2 : G.mg "range" = none) (hs : noStar e = true) (hn : n < 100000 ∧ -100000 < n) (ha : GivB G true X e σ F H (.int n)) :
    GivB G br X (.Call (.Name x p) [.Call (.Name y p2) [e] [] pos2] [] pos) σ F H (.lst ((List.range n.toNat).map fun (i : Nat) => D.int (i : Int))) := fun Q q => by
  obtain ⟨ex, hg, _⟩ := isG_ok hx
  obtain ⟨ey, hg2, _⟩ := isG_ok hy
  subst ex ey
  refine WE.of (pe_listRg c.calm (glB_ok c hg) (by rw [c.em]; exact hm) (prg_1 (glB_ok c hg2) (by rw [c.em]; exact hm2) WE.pe (star_cons hs)) rfl) (ha _ fun v F1 H1 n1 r1 => ?_)
  refine ⟨n, r1.int, ⟨by omega, by omega, by omega, by omega, by omega⟩, fun a fa => ?_⟩
  exact q (.ref a) (upd F1 a (.lst (rgV 0 n))) _ (n1.trans (New.alloc _ n1.fh fa)) (.inl (.lst (.inl (.inl upd_same)) (rg_rep n)))
theorem chk_lsc {t : IT} {it : II} {ifs : List IB} {i : IE} {own : List (Str × Nat)} {e : Expr} (h : chk S N sc (.lsc t it ifs i own) e = true) : ∃ (x : Str) (p pos pos2 : Pos) (elt tg iter : Expr) (fs : List Expr) (scope : Scope), e = .Call (.Name x p) [.SetComp elt [⟨tg, iter, fs, 0⟩] scope pos2] [] pos ∧
    (isG sc x "len" && S.blt.contains "len" && blkC N sc scope own && inOwn (own.map (·.2)) t && chkI S N sc it iter && chkT N (locB (relS scope sc)) t tg && chkBs S N (relS scope sc) ifs fs && chk S N (relS scope sc) i elt) = true := by
  cases e <;> (first | exact absurd h Bool.false_ne_true | skip)
  rename_i f es ks pos
  cases f <;> rcases es with _ | ⟨y, _ | ⟨_, _⟩⟩ <;> rcases ks with _ | ⟨_, _⟩ <;> (first | exact absurd h Bool.false_ne_true | skip)
  all_goals (cases y <;> (first | exact absurd h Bool.false_ne_true | (simp [chk] at h; done) | skip))
  rename_i x p elt gens scope pos2
  rcases gens with _ | ⟨⟨tg, iter, fs, ia⟩, _ | ⟨_, _⟩⟩ <;> (first | exact absurd h Bool.false_ne_true | (simp [chk] at h; done) | skip)
  by_cases hz : ia = 0
  · subst hz
    exact ⟨_, _, _, _, _, _, _, _, _, rfl, h⟩
  · exfalso
    revert h
    cases ia <;> simp_all [chk]
theorem chk_lrg {a : IE} {e : Expr} (h : chk S N sc (.lrg a) e = true) : ∃ (x y : Str) (p p2 pos pos2 : Pos) (u : Expr), e = .Call (.Name x p) [.Call (.Name y p2) [u] [] pos2] [] pos ∧ (isG sc x "list" && S.blt.contains "list" && isG sc y "range" && S.blt.contains "range" && chk S N sc a u) = true := by
  cases e <;> (first | exact absurd h Bool.false_ne_true | skip)
  rename_i f es ks pos
  cases f <;> rcases es with _ | ⟨y, _ | ⟨_, _⟩⟩ <;> rcases ks with _ | ⟨_, _⟩ <;> (first | exact absurd h Bool.false_ne_true | skip)
  all_goals (cases y <;> (first | exact absurd h Bool.false_ne_true | (simp [chk] at h; done) | skip))
  rename_i x p f es ks pos2
  cases f <;> rcases es with _ | ⟨u, _ | ⟨_, _⟩⟩ <;> rcases ks with _ | ⟨_, _⟩ <;> (first | exact absurd h Bool.false_ne_true | skip)
  exact ⟨_, _, _, _, _, _, u, rfl, h⟩
theorem boot_ty {bb : Bi} {t : Str} (h : bb.ty = some t) : bb.nm = "isinstance" ∧ ∃ T : String, bootBuiltins t = some (.type T) ∧ (bb = .isBool → T = "bool") ∧ (bb = .isInt → T = "int") := by
  cases bb <;> simp only [Bi.ty, Option.some.injEq, reduceCtorEq] at h <;> subst h
  · exact ⟨rfl, "bool", by decide +kernel, (fun _ => rfl), (fun z => by cases z)⟩
  · exact ⟨rfl, "int", by decide +kernel, (fun z => by cases z), (fun _ => rfl)⟩
  · exact ⟨rfl, "tuple", by decide +kernel, (fun z => by cases z), (fun z => by cases z)⟩
  · exact ⟨rfl, "list", by decide +kernel, (fun z => by cases z), (fun z => by cases z)⟩
  · exact ⟨rfl, "str", by decide +kernel, (fun z => by cases z), (fun z => by cases z)⟩
theorem g_isi {bb : Bi} {d0 d : D} {x z t : Str} {p p2 : Pos} (c : Cok G k N sc X) (hb : bb.ty = some t) (hx : isG sc x bb.nm = true) (hm : G.mg bb.nm = none) (hz : isG sc z t = true) (hmt : G.mg t = none) (hs : noStar e = true) (h : bsem bb [d0] = some d)
    (ha : GivB G true X e σ F H d0) : GivB G br X (.Call (.Name x p) [e, .Name z p2] [] pos) σ F H d := fun Q q => by
  obtain ⟨ex, hg, ho⟩ := isG_ok hx
  obtain ⟨o1, _, o3⟩ := okN_ok ho
  obtain ⟨ez, hg2, ho2⟩ := isG_ok hz
  obtain ⟨q1, _, q3⟩ := okN_ok ho2
  obtain ⟨en, T, hT, hT1, hT2⟩ := boot_ty hb
  have hv : bootBuiltins x = some (.builtin "isinstance") := by rw [ex, en]; decide +kernel
  rw [← ex, ← c.em] at hm
  rw [← ez] at hT
  rw [← ez, ← c.em] at hmt
  refine WE.of (pe_callB call_isi (glB_ok c hg) hm hv (pa_cons WE.pe (pa_cons (pe_bltn (v := .ty T) (glB_ok c hg2) hmt hT rfl q3 q1) pa_nil) (star_cons hs)) o3 o1 (star_cons hs) rfl) ?_
  refine ha _ fun v F1 H1 n1 r1 => ?_
  have fin : ∀ (ty : Value) (bo : Bool), TyX X.K H1 v ty → PySem.W.kitOne X.K ty (.type T) = some bo → d = .bl bo → rIsi X.K [v, .ty T] H1 Q := fun ty bo h1 h2 h3 => by
    subst h3
    exact ⟨v, .ty T, ty, .type T, bo, rfl, .ty T, h1, h2, q _ F1 H1 n1 (.inl (.bl _))⟩
  cases bb <;> simp only [Bi.ty, Option.some.injEq, reduceCtorEq] at hb <;> cases d0 <;> simp only [bsem, Option.some.injEq, reduceCtorEq] at h
  · rw [r1.bl] at fin ⊢
    rw [hT1 rfl] at fin ⊢
    exact fin _ true (.base (.bl _)) (kit_ty (by decide +kernel)) h.symm
  · rw [r1.int] at fin ⊢
    rw [hT1 rfl] at fin ⊢
    exact fin _ false (.base (.int _)) (kit_ty (by decide +kernel)) h.symm
  · rw [r1.bl] at fin ⊢
    rw [hT2 rfl] at fin ⊢
    exact fin _ true (.base (.bl _)) (kit_ty (by decide +kernel)) h.symm
  · rw [r1.int] at fin ⊢
    rw [hT2 rfl] at fin ⊢
    exact fin _ true (.base (.int _)) (kit_ty (by decide +kernel)) h.symm
end
end EL

set_option Elab.async false
set_option linter.all false
set_option maxRecDepth 100000
set_option maxHeartbeats 8000000
/-! the shape gives what the code gives: all expressions -/
namespace EL
open PySem L2
section
variable {m : Addr} {G : Gl0} {k : Nat} {N : List Str} {S : Sig}
theorem evs_len : ∀ {is : List IE} {br : Bool} {env : List SV} {ds : List D}, evs S br is env = some ds → ds.length = is.length
  | [], _, _, _, h => by simp only [evs, Option.some.injEq] at h; subst h; rfl
  | i :: is, _, _, _, h => by
    simp only [evs, Option.bind_eq_some_iff, Option.map_eq_some_iff] at h
    obtain ⟨d, _, r, h2, rfl⟩ := h
    rw [List.length_cons, List.length_cons, evs_len h2]
theorem chks_len {sc : Scope} : ∀ {is : List IE} {es : List Expr}, chks S N sc is es = true → es.length = is.length
  | [], [], _ => rfl
  | [], _ :: _, h => by simp [chks] at h
  | _ :: _, [], h => by simp [chks] at h
  | i :: is, e :: es, h => by
    simp only [chks, Bool.and_eq_true] at h
    rw [List.length_cons, List.length_cons, chks_len h.2]
theorem g_join {X : Cx} {σ : L2.St} {F H : Hp} {br : Bool} {sc : Scope} {o e : Expr} {ap cp : Pos} {x : D} {ds : List D} {y d : D} (c : Cok G k N sc X) (hb : baseB o = true) (hl : (ap.endLine == cp.line) = true) (hs : noStar e = true) (h : bmsem .join x [y] = some d)
    (ho : GivB G true X o σ F H x) (he : ∀ F1 H1, New F H F1 H1 → GivB G true X e σ F1 H1 y) : GivB G br X (.Call (.Attribute o "join" ap) [e] [] cp) σ F H d := fun Q q => by
  unfold bmsem at h
  split at h
  · rename_i a xs _ heq
    cases heq
    rw [Option.bind_eq_some_iff] at h
    obtain ⟨ys, h1, h2⟩ := h
    split at h2
    · rename_i hz
      cases h2
      refine WE.of (pe_join WE.pe WE.pe (by rw [star_cons hs]; rfl) (base_ok hb) hl) (ho _ fun v F1 H1 n1 r1 => ⟨⟨a, r1.str⟩, he F1 H1 n1 _ fun u F2 H2 n2 r2 => ?_⟩)
      obtain ⟨p, us, rfl, e, rs⟩ := r2.lst n2.fh
      have eu := strs_rep h1 rs
      subst eu
      exact ⟨a, p, ys, r1.str, rfl, .inl (by rw [c.eK]; exact e), hz, q _ F2 H2 (n1.trans n2) (.inl (.str _))⟩
    · cases h2
  · cases h
theorem compL_mem {f : D → Option (Option D)} {d : D} : ∀ {xs out : List D}, compL f xs = some out → d ∈ xs → ∃ o, f d = some o
  | [], _, _, h => by cases h
  | x :: xs, out, h, hd => by
    simp only [compL, Option.bind_eq_some_iff, Option.map_eq_some_iff] at h
    obtain ⟨o, h1, r, h2, _⟩ := h
    rcases List.mem_cons.mp hd with rfl | hd
    · exact ⟨o, h1⟩
    · exact compL_mem h2 hd
theorem chk_mkk {sc : Scope} {j : Nat} {es : List IE} {z : IE} {e : Expr} (hc : chk S N sc (.mkk j es z) e = true) : ∃ (x : Str) (p : Pos) (y : Expr) (ys : List Expr) (kn : Str) (kv : Expr) (kp pos : Pos) (f : MkE), e = .Call (.Name x p) (y :: ys) [⟨some kn, kv, kp⟩] pos ∧
    S.mks[j]? = some f ∧ f.kw = [kn] ∧ isG sc x f.name = true ∧ chks S N sc es (y :: ys) = true ∧ chk S N sc z kv = true := by
  cases e <;> (first | exact absurd hc Bool.false_ne_true | skip)
  rename_i fe ys kws pos
  cases fe <;> (first | exact absurd hc Bool.false_ne_true | skip)
  rename_i x p
  rcases ys with _ | ⟨y, ys⟩ <;> (first | exact absurd hc Bool.false_ne_true | skip)
  rcases kws with _ | ⟨⟨kn, kv, kp⟩, _ | ⟨_, _⟩⟩ <;> (first | exact absurd hc Bool.false_ne_true | (cases kn <;> exact absurd hc Bool.false_ne_true) | skip)
  cases kn with
  | none => exact absurd hc Bool.false_ne_true
  | some kn =>
    have hc : (decide (ys.length < 25) && (match S.mks[j]? with | some f => decide (f.kw = [kn]) && isG sc x f.name | none => false) && chks S N sc es (y :: ys) && chk S N sc z kv) = true := hc
    rw [Bool.and_eq_true, Bool.and_eq_true, Bool.and_eq_true] at hc
    obtain ⟨⟨⟨_, h1⟩, h2⟩, h3⟩ := hc
    split at h1
    · rename_i f hf
      simp only [Bool.and_eq_true, decide_eq_true_eq] at h1
      exact ⟨x, p, y, ys, kn, kv, kp, pos, f, rfl, hf, h1.1, h1.2, h2, h3⟩
    · cases h1
variable (hF : Facts G k S)
include hF
mutual
theorem ev_ok : (i : IE) → ∀ {br : Bool} {X : Cx} {sc : Scope} {e : Expr} {env : List SV} {d : D} {σ : L2.St} {F H : Hp}, Cok G k N sc X → chk S N sc i e = true → ev S br i env = some d → EnvR G m F H σ env → Le F H → GivB G br X e σ F H d
  | .var j, br, X, sc, e, env, d, σ, F, H, c, hc, he, R, l => by
    cases e <;> (try simp [chk] at hc)
    simp only [ev] at he
    exact g_var c hc.1.1 hc.1.2 hc.2 R l he
  | .int j, br, X, sc, e, env, d, σ, F, H, c, hc, he, R, l => by
    cases e <;> (try simp [chk] at hc)
    rename_i v kk pos
    cases v <;> simp [chk, intB] at hc
    subst hc
    simp only [ev, Option.some.injEq] at he
    subst he
    exact g_const pe_int (.int _) l
  | .bl j, br, X, sc, e, env, d, σ, F, H, c, hc, he, R, l => by
    cases e <;> (try simp [chk] at hc)
    rename_i v kk pos
    cases v <;> simp [chk] at hc
    subst hc
    simp only [ev, Option.some.injEq] at he
    subst he
    exact g_const pe_bl (.bl _) l
  | .non, br, X, sc, e, env, d, σ, F, H, c, hc, he, R, l => by
    cases e <;> (try simp [chk] at hc)
    rename_i v kk pos
    cases v <;> simp [chk] at hc
    simp only [ev, Option.some.injEq] at he
    subst he
    exact g_const pe_non .non l
  | .str j, br, X, sc, e, env, d, σ, F, H, c, hc, he, R, l => by
    cases e <;> (try simp [chk] at hc)
    rename_i v kk pos
    cases v <;> simp [chk, strB] at hc
    subst hc
    simp only [ev, Option.some.injEq] at he
    subst he
    exact g_const pe_str (.str _) l
  | .con j, br, X, sc, e, env, d, σ, F, H, c, hc, he, R, l => by
    cases e <;> (try simp [chk] at hc)
    simp only [ev, Option.map_eq_some_iff] at he
    obtain ⟨⟨y, d'⟩, h1, rfl⟩ := he
    rw [h1] at hc
    obtain ⟨ex, hg, ho⟩ := isG_ok hc
    obtain ⟨o1, _, _⟩ := okN_ok ho
    obtain ⟨u, v, e1, e2, e3⟩ := hF.con j y d' h1
    exact g_const (pe_glob (glB_ok c hg) (by rw [c.em, ex]; exact e1) e2 o1) (e3 F) l
  | .bin o a b, br, X, sc, e, env, d, σ, F, H, c, hc, he, R, l => by
    cases e <;> (try simp [chk] at hc)
    obtain ⟨⟨ho, ha⟩, hb⟩ := hc
    have eo := opB_ok ho
    subst eo
    simp only [ev, Option.bind_eq_some_iff] at he
    obtain ⟨x, h1, y, h2, h3⟩ := he
    obtain ⟨r, r1, r2⟩ := bin_ok (G := G) h3
    exact g_op (pe_op (r1 X c.eK) WE.pe WE.pe) (ev_ok a c ha h1 R l) (fun F1 H1 n => ev_ok b c hb h2 (R.new n) n.fh) r2
  | .neg a, br, X, sc, e, env, d, σ, F, H, c, hc, he, R, l => by
    cases e <;> (try simp [chk] at hc)
    rename_i op x pos
    cases op <;> simp [chk] at hc
    simp only [ev] at he
    split at he
    · rename_i i h1
      cases he
      exact g_neg (ev_ok a c hc h1 R l)
    · cases he
  | .cmp o a b, br, X, sc, e, env, d, σ, F, H, c, hc, he, R, l => by
    cases e <;> (try simp [chk] at hc)
    rename_i x ops cs pos
    rcases ops with _ | ⟨oe, _ | ⟨_, _⟩⟩ <;> rcases cs with _ | ⟨y, _ | ⟨_, _⟩⟩ <;> simp [chk] at hc
    obtain ⟨⟨⟨ho, hm⟩, ha⟩, hb⟩ := hc
    simp only [ev, Option.bind_eq_some_iff, Option.map_eq_some_iff] at he
    obtain ⟨u, h1, v, h2, t, h3, rfl⟩ := he
    exact g_cmp c (cmB_ok ho) hm h3 (ev_ok a c ha h1 R l) (fun F1 H1 n => ev_ok b c hb h2 (R.new n) n.fh)
  | .chn p q a b c', br, X, sc, e, env, d, σ, F, H, c, hc, he, R, l => by
    cases e <;> (try simp [chk] at hc)
    rename_i x ops cs pos
    rcases ops with _ | ⟨pe, _ | ⟨qe, _ | ⟨_, _⟩⟩⟩ <;> rcases cs with _ | ⟨y, _ | ⟨z, _ | ⟨_, _⟩⟩⟩ <;> simp [chk] at hc
    obtain ⟨⟨⟨⟨⟨hp, hq⟩, hm⟩, ha⟩, hb⟩, hcc⟩ := hc
    have ep := cmB_ok hp
    have eq := cmB_ok hq
    subst ep
    subst eq
    simp only [ev, Option.bind_eq_some_iff] at he
    obtain ⟨u, h1, v, h2, k1, h3, h4⟩ := he
    have h5 : ∃ dd, d = .bl dd ∧ (if k1 = true then (ev S true c' env).bind fun z => cmpD q v z else some false) = some dd := by
      cases k1 with
      | true =>
        simp only [if_true, Option.bind_eq_some_iff, Option.map_eq_some_iff] at h4
        obtain ⟨w, e1, t, e2, rfl⟩ := h4
        exact ⟨t, rfl, by simp only [if_true, Option.bind_eq_some_iff]; exact ⟨w, e1, e2⟩⟩
      | false =>
        cases h4
        exact ⟨false, rfl, rfl⟩
    obtain ⟨dd, rfl, h5⟩ := h5
    obtain ⟨r, r', o1, o2, o3, w, k2, o4, o5⟩ := chn_pair (S2 := none) c h3 h5
    refine fun Q qq => WE.of (pe_chain o1 o3 WE.pe WE.pe WE.pe hm) (chain_ok (G := G) (p := p) (q := q) (z := w) (k2 := k2) o2 (ev_ok a c ha h1 R l) (fun F1 H1 n => ev_ok b c hb h2 (R.new n) n.fh)
      (fun z => ⟨(o4 z).2, fun F1 H1 n => ev_ok c' c hcc (o4 z).1 (R.new n) n.fh⟩) Q fun F' H' n => ?_)
    rw [o5]
    exact qq _ F' H' n (.inl (.bl _))
  | .and a b, br, X, sc, e, env, d, σ, F, H, c, hc, he, R, l => by
    cases e <;> (try simp [chk] at hc)
    rename_i op vs pos
    cases op <;> rcases vs with _ | ⟨x, _ | ⟨y, r⟩⟩ <;> simp [chk] at hc
    simp only [ev] at he
    split at he
    · rename_i h1
      exact g_and (ev_ok a c hc.1 h1 R l) (fun _ F1 H1 n => ev_ok b c hc.2 he (R.new n) n.fh) (fun z => by cases z) l
    · rename_i h1
      cases he
      exact g_and (ev_ok a c hc.1 h1 R l) (fun z => by cases z) (fun _ => rfl) l
    · cases he
  | .or a b, br, X, sc, e, env, d, σ, F, H, c, hc, he, R, l => by
    cases e <;> (try simp [chk] at hc)
    rename_i op vs pos
    cases op <;> rcases vs with _ | ⟨x, _ | ⟨y, r⟩⟩ <;> simp [chk] at hc
    simp only [ev] at he
    split at he
    · rename_i h1
      cases he
      exact g_or (ev_ok a c hc.1 h1 R l) (fun z => by cases z) (fun _ => rfl) l
    · rename_i h1
      exact g_or (ev_ok a c hc.1 h1 R l) (fun _ F1 H1 n => ev_ok b c hc.2 he (R.new n) n.fh) (fun z => by cases z) l
    · cases he
  | .one a, br, X, sc, e, env, d, σ, F, H, c, hc, he, R, l => by
    cases e <;> (try simp [chk] at hc)
    rename_i op vs pos
    rcases vs with _ | ⟨x, _ | ⟨y, r⟩⟩ <;> simp [chk] at hc
    exact g_one (ev_ok a c hc (by simpa [ev] using he) R l)
  | .not a, br, X, sc, e, env, d, σ, F, H, c, hc, he, R, l => by
    cases e <;> (try simp [chk] at hc)
    rename_i op x pos
    cases op <;> simp [chk] at hc
    simp only [ev] at he
    split at he
    · rename_i i h1
      cases he
      exact g_not (ev_ok a c hc h1 R l)
    · cases he
  | .ite t a b, br, X, sc, e, env, d, σ, F, H, c, hc, he, R, l => by
    cases e <;> (try simp [chk] at hc)
    simp only [ev] at he
    split at he
    · rename_i h1
      exact g_ite (evT_ok t c hc.1.1 h1 R l) (fun _ F1 H1 n => ev_ok a c hc.1.2 he (R.new n) n.fh) (fun z => by cases z)
    · rename_i h1
      exact g_ite (evT_ok t c hc.1.1 h1 R l) (fun z => by cases z) (fun _ F1 H1 n => ev_ok b c hc.2 he (R.new n) n.fh)
    · cases he
  | .tup es, br, X, sc, e, env, d, σ, F, H, c, hc, he, R, l => by
    cases e <;> (try simp [chk] at hc)
    simp only [ev] at he
    split at he
    · rename_i hl
      rw [Option.map_eq_some_iff] at he
      obtain ⟨ds, h1, rfl⟩ := he
      exact g_tup (evs_ok es c hc h1 R l) (by rw [evs_len h1]; omega)
    · cases he
  | .lst es, br, X, sc, e, env, d, σ, F, H, c, hc, he, R, l => by
    cases e <;> (try simp [chk] at hc)
    simp only [ev] at he
    split at he
    · rename_i hl
      rw [Option.map_eq_some_iff] at he
      obtain ⟨ds, h1, rfl⟩ := he
      exact g_lst (evs_ok es c hc h1 R l) (by rw [evs_len h1]; omega)
    · cases he
  | .idx a b, br, X, sc, e, env, d, σ, F, H, c, hc, he, R, l => by
    cases e <;> (try simp [chk] at hc)
    simp only [ev, Option.bind_eq_some_iff] at he
    obtain ⟨x, h1, y, h2, h3⟩ := he
    exact g_idx c (chk_slice hc.2) h3 (ev_ok a c hc.1 h1 R l) (fun F1 H1 n => ev_ok b c hc.2 h2 (R.new n) n.fh)
  | .fld a j, br, X, sc, e, env, d, σ, F, H, c, hc, he, R, l => by
    cases e <;> (try simp [chk] at hc)
    obtain ⟨⟨hb, hf⟩, ha⟩ := hc
    simp only [ev] at he
    split at he
    · rename_i cl fs c' f h1 h2
      rw [h2] at hf
      split at he
      · rename_i ec
        subst ec
        have ef := of_decide_eq_true hf
        subst ef
        exact g_fld c (hF.fl j _ _ h2) hb he (ev_ok a c ha h1 R l)
      · cases he
    · cases he
  | .prp a j, br, X, sc, e, env, d, σ, F, H, c, hc, he, R, l => by
    cases e <;> (try simp [chk] at hc)
    obtain ⟨⟨hb, hf⟩, ha⟩ := hc
    simp only [ev] at he
    split at he
    · rename_i cl fs m h1 h2
      rw [h2] at hf
      split at he
      · rename_i ec
        obtain ⟨e1, e2, e3⟩ := ec
        subst e1
        have ef := of_decide_eq_true hf
        subst ef
        exact g_prp c (hF.pr j m h2).1 (hF.pr j m h2).2 hb e3 he (ev_ok a c ha h1 R l)
      · cases he
    · cases he
  | .call j es, br, X, sc, e, env, d, σ, F, H, c, hc, he, R, l => by
    cases e <;> (try simp [chk] at hc)
    rename_i fe ys kws pos
    cases fe <;> rcases ys with _ | ⟨y, ys⟩ <;> rcases kws with _ | ⟨_, _⟩ <;> simp [chk] at hc
    obtain ⟨⟨_, hf⟩, ha⟩ := hc
    simp only [ev] at he
    split at he
    · rename_i f h2
      rw [h2] at hf
      rw [Option.bind_eq_some_iff] at he
      obtain ⟨ds, h3, h4⟩ := he
      split at h4
      · rename_i har
        obtain ⟨ex, hg, ho⟩ := isG_ok hf
        exact g_call c (hF.fn j f h2) ex hg ho (chks_star ha) har h4 (evs_ok es c ha h3 R l)
      · cases h4
    · cases he
  | .meth j o es, br, X, sc, e, env, d, σ, F, H, c, hc, he, R, l => by
    cases e <;> (try simp [chk] at hc)
    rename_i fe ys kws pos
    cases fe <;> rcases ys with _ | ⟨y, ys⟩ <;> rcases kws with _ | ⟨_, _⟩ <;> simp [chk] at hc
    obtain ⟨⟨⟨⟨⟨hn, hb⟩, hln⟩, hf⟩, ho⟩, ha⟩ := hc
    simp only [ev] at he
    split at he
    · rename_i cl fs m h1 h2
      rw [h2] at hf
      split at he
      · rename_i ec
        obtain ⟨e1, e2⟩ := ec
        subst e1
        rw [Option.bind_eq_some_iff] at he
        obtain ⟨ds, h3, h4⟩ := he
        split at h4
        · rename_i har
          exact g_meth c (hF.me j m h2) (of_decide_eq_true hf) hb (by simpa using hln) (chks_star ha) hn e2 har h4 (ev_ok o c ho h1 R l) (fun F1 H1 n => evs_ok es c ha h3 (R.new n) n.fh)
        · cases h4
      · cases he
    · cases he
  | .bi bb es, br, X, sc, e, env, d, σ, F, H, c, hc, he, R, l => by
    cases e <;> (try simp [chk] at hc)
    rename_i fe ys kws pos
    cases fe <;> rcases ys with _ | ⟨y, ys⟩ <;> rcases kws with _ | ⟨_, _⟩ <;> (try simp [chk] at hc)
    obtain ⟨⟨⟨hty, hx⟩, hm⟩, hr⟩ := hc
    simp only [ev, Option.bind_eq_some_iff] at he
    obtain ⟨ds, h1, h2⟩ := he
    exact g_bi c (by simpa using hty) hx (hF.blt _ (by simpa using hm)) (chks_star hr) h2 (evs_ok es c hr h1 R l)
  | .mk j es, br, X, sc, e, env, d, σ, F, H, c, hc, he, R, l => by
    cases e <;> (try simp [chk] at hc)
    rename_i fe ys kws pos
    cases fe <;> rcases ys with _ | ⟨y, ys⟩ <;> rcases kws with _ | ⟨_, _⟩ <;> (try simp [chk] at hc)
    obtain ⟨⟨_, hf⟩, ha⟩ := hc
    simp only [ev] at he
    split at he
    · rename_i f h2
      rw [h2] at hf
      rw [Option.bind_eq_some_iff] at he
      obtain ⟨ds, h3, h4⟩ := he
      split at h4
      · rename_i har
        simp only [Bool.and_eq_true] at hf
        obtain ⟨ex, hg, ho⟩ := isG_ok hf.2
        exact g_mk c (hF.mks j f h2).1 (hF.mks j f h2).2 (by simpa using hf.1) ex hg ho (chks_star ha) har h4 (evs_ok es c ha h3 R l)
      · cases h4
    · cases he
  | .mkk j es z, br, X, sc, e, env, d, σ, F, H, c, hc, he, R, l => by
    obtain ⟨x, p, y, ys, kn, kv, kp, pos, f, rfl, h2, hkw, hx, ha, hz⟩ := chk_mkk hc
    simp only [ev] at he
    rw [h2] at he
    simp only [Option.bind_eq_some_iff] at he
    obtain ⟨ds, h3, dz, h5, h4⟩ := he
    split at h4
    · rename_i har
      obtain ⟨ex, hg, ho⟩ := isG_ok hx
      exact g_mkk c (hF.mks j f h2).1 (hF.mks j f h2).2 hkw ex hg ho (chks_star ha) har h4 (evs_ok es c ha h3 R l) (fun F1 H1 n => ev_ok z c hz h5 (R.new n) n.fh)
    · cases h4
  | .isi bb a, br, X, sc, e, env, d, σ, F, H, c, hc, he, R, l => by
    cases e <;> (try simp [chk] at hc)
    rename_i fe ys kws pos
    cases fe <;> rcases ys with _ | ⟨y, _ | ⟨z, _ | ⟨_, _⟩⟩⟩ <;> rcases kws with _ | ⟨_, _⟩ <;> (try simp [chk] at hc)
    cases z <;> (try simp [chk] at hc)
    obtain ⟨⟨⟨hx, hm⟩, hr⟩, ha⟩ := hc
    simp only [ev, Option.bind_eq_some_iff] at he
    obtain ⟨d0, h1, h2⟩ := he
    split at hr
    · cases hr
    · rename_i t hty
      simp only [Bool.and_eq_true] at hr
      exact g_isi c hty hx (hF.blt _ (by simpa using hm)) hr.1 (hF.blt _ (by simpa using hr.2)) (chk_star ha) h2 (ev_ok a c ha h1 R l)
  | .lsc t it ifs i own, br, X, sc, e, env, d, σ, F, H, c, hc, he, R, l => by
    have hinv := chk_lsc hc
    clear hc
    obtain ⟨x, p, pos, pos2, elt, tg, iter, fs, scope, rfl, hc⟩ := hinv
    simp only [Bool.and_eq_true] at hc
    obtain ⟨⟨⟨⟨⟨⟨⟨hx, hm⟩, hbk⟩, hin⟩, hit⟩, ht⟩, hifs⟩, helt⟩ := hc
    obtain ⟨ex, hg, _⟩ := isG_ok hx
    simp only [ev, Option.bind_eq_some_iff] at he
    obtain ⟨ds, h1, h2⟩ := he
    split at h2
    · rename_i hl
      rw [Option.bind_eq_some_iff] at h2
      obtain ⟨out, h3, h4⟩ := h2
      rw [Option.map_eq_some_iff] at h4
      obtain ⟨ns, h5, rfl⟩ := h4
      have eo := tups_back h5
      subst eo
      refine g_lsc c ex hg (hF.blt _ (by simpa using hm)) (by rw [c.eN, c.eS]; exact blkOk_by hbk) ht hin (chkI_set hit) (evI_ok it c hit h1 R l) R hl (fun d0 hd0 => ?_) h3
      obtain ⟨o, ho⟩ := compL_mem h3 hd0
      have ho' := ho
      simp only [Option.bind_eq_some_iff] at ho'
      obtain ⟨env1, hb1, okb, hok, hel⟩ := ho'
      refine ⟨env1, hb1, okb, fun Y cY σ1 F1 H1 R1 l1 => evTs_ok ifs cY hifs hok R1 l1, fun z => ?_, fun z => ?_⟩
      · subst z
        simp only [if_true, Option.map_eq_some_iff] at hel
        obtain ⟨y, hy, rfl⟩ := hel
        exact ⟨y, ho, fun Y cY σ1 F1 H1 R1 l1 => ev_ok i cY helt hy R1 l1⟩
      · subst z
        simp only [Bool.false_eq_true, if_false, Option.some.injEq] at hel
        subst hel
        exact ho
    · cases h2
  | .lrg a, br, X, sc, e, env, d, σ, F, H, c, hc, he, R, l => by
    have hinv := chk_lrg hc
    clear hc
    obtain ⟨x, y, p, p2, pos, pos2, u, rfl, hc⟩ := hinv
    simp only [Bool.and_eq_true] at hc
    obtain ⟨⟨⟨⟨hx, hm⟩, hy⟩, hm2⟩, ha⟩ := hc
    simp only [ev] at he
    split at he
    · rename_i n h1
      split at he
      · rename_i hn
        cases he
        exact g_lrg c hx (hF.blt _ (by simpa using hm)) hy (hF.blt _ (by simpa using hm2)) (chk_star ha) hn (ev_ok a c ha h1 R l)
      · cases he
    · cases he
  | .jn o a, br, X, sc, e, env, d, σ, F, H, c, hc, he, R, l => by
    cases e <;> (try simp [chk] at hc)
    rename_i fe ys kws pos
    cases fe <;> rcases ys with _ | ⟨y, _ | ⟨_, _⟩⟩ <;> rcases kws with _ | ⟨_, _⟩ <;> (try simp [chk, strB] at hc)
    obtain ⟨⟨⟨⟨hx, hb⟩, hln⟩, ho⟩, ha⟩ := hc
    simp only [ev, Option.bind_eq_some_iff] at he
    obtain ⟨x, h1, y, h2, h3⟩ := he
    subst hx
    exact g_join (ds := []) c hb (by simpa using hln) (chk_star ha) h3 (ev_ok o c ho h1 R l) (fun F1 H1 n => ev_ok a c ha h2 (R.new n) n.fh)
  | .lc t it ifs i own, br, X, sc, e, env, d, σ, F, H, c, hc, he, R, l => by
    cases e <;> (try simp [chk] at hc)
    rename_i elt gens scope pos
    rcases gens with _ | ⟨⟨tg, iter, fs, ia⟩, _ | ⟨_, _⟩⟩
    · simp [chk] at hc
    · by_cases hz : ia = 0
      · subst hz
        simp [chk] at hc
        obtain ⟨⟨⟨⟨⟨hbk, hin⟩, hit⟩, ht⟩, hifs⟩, helt⟩ := hc
        simp only [ev, Option.bind_eq_some_iff] at he
        obtain ⟨ds, h1, h2⟩ := he
        split at h2
        · rename_i hl
          rw [Option.map_eq_some_iff] at h2
          obtain ⟨out, h3, rfl⟩ := h2
          refine g_lc c (by rw [c.eN, c.eS]; exact blkOk_by hbk) ht hin (chkI_set hit) (evI_ok it c hit h1 R l) R hl (fun d0 hd0 => ?_) h3
          obtain ⟨o, ho⟩ := compL_mem h3 hd0
          have ho' := ho
          simp only [Option.bind_eq_some_iff] at ho'
          obtain ⟨env1, hb1, okb, hok, hel⟩ := ho'
          refine ⟨env1, hb1, okb, fun Y cY σ1 F1 H1 R1 l1 => evTs_ok ifs cY hifs hok R1 l1, fun z => ?_, fun z => ?_⟩
          · subst z
            simp only [if_true, Option.map_eq_some_iff] at hel
            obtain ⟨y, hy, rfl⟩ := hel
            exact ⟨y, ho, fun Y cY σ1 F1 H1 R1 l1 => ev_ok i cY helt hy R1 l1⟩
          · subst z
            simp only [Bool.false_eq_true, if_false, Option.some.injEq] at hel
            subst hel
            exact ho
        · cases h2
      · exfalso
        revert hc
        cases ia <;> simp_all [chk]
    · simp [chk] at hc
theorem evT_ok : (i : IB) → ∀ {X : Cx} {sc : Scope} {e : Expr} {env : List SV} {d : Bool} {σ : L2.St} {F H : Hp}, Cok G k N sc X → chkB S N sc i e = true → evT S i env = some d → EnvR G m F H σ env → Le F H → GivesT X e σ F H d
  | .and a b, X, sc, e, env, d, σ, F, H, c, hc, he, R, l => by
    cases e <;> (try simp [chkB] at hc)
    rename_i op vs pos
    cases op <;> rcases vs with _ | ⟨x, _ | ⟨y, r⟩⟩ <;> (try simp [chkB] at hc)
    simp only [evT] at he
    split at he
    · rename_i h1
      exact gt_and (evT_ok a c hc.1 h1 R l) (fun _ F1 H1 n => evT_ok b c hc.2 he (R.new n) n.fh) (fun z => by cases z)
    · rename_i h1
      cases he
      exact gt_and (evT_ok a c hc.1 h1 R l) (fun z => by cases z) (fun _ => rfl)
    · cases he
  | .or a b, X, sc, e, env, d, σ, F, H, c, hc, he, R, l => by
    cases e <;> (try simp [chkB] at hc)
    rename_i op vs pos
    cases op <;> rcases vs with _ | ⟨x, _ | ⟨y, r⟩⟩ <;> (try simp [chkB] at hc)
    simp only [evT] at he
    split at he
    · rename_i h1
      cases he
      exact gt_or (evT_ok a c hc.1 h1 R l) (fun z => by cases z) (fun _ => rfl)
    · rename_i h1
      exact gt_or (evT_ok a c hc.1 h1 R l) (fun _ F1 H1 n => evT_ok b c hc.2 he (R.new n) n.fh) (fun z => by cases z)
    · cases he
  | .one a, X, sc, e, env, d, σ, F, H, c, hc, he, R, l => by
    cases e <;> (try simp [chkB] at hc)
    rename_i op vs pos
    rcases vs with _ | ⟨x, _ | ⟨y, r⟩⟩ <;> (try simp [chkB] at hc)
    exact gt_one (evT_ok a c hc (by simpa [evT] using he) R l)
  | .not a, X, sc, e, env, d, σ, F, H, c, hc, he, R, l => by
    cases e <;> (try simp [chkB] at hc)
    rename_i op x pos
    cases op <;> (try simp [chkB] at hc)
    simp only [evT, Option.map_eq_some_iff] at he
    obtain ⟨b, h1, rfl⟩ := he
    exact gt_not (evT_ok a c hc h1 R l)
  | .ite t a b, X, sc, e, env, d, σ, F, H, c, hc, he, R, l => by
    cases e <;> (try simp [chkB] at hc)
  | .cmp o a b, X, sc, e, env, d, σ, F, H, c, hc, he, R, l => by
    cases e <;> (try simp [chkB] at hc)
    rename_i x ops cs pos
    rcases ops with _ | ⟨oe, _ | ⟨_, _⟩⟩ <;> rcases cs with _ | ⟨y, _ | ⟨_, _⟩⟩ <;> (try simp [chkB] at hc)
    obtain ⟨⟨⟨ho, hm⟩, ha⟩, hb⟩ := hc
    simp only [evT, Option.bind_eq_some_iff] at he
    obtain ⟨u, h1, v, h2, h3⟩ := he
    exact g_cmpT c (cmB_ok ho) hm h3 (ev_ok a c ha h1 R l) (fun F1 H1 n => ev_ok b c hb h2 (R.new n) n.fh)
  | .chn p q a b c', X, sc, e, env, d, σ, F, H, c, hc, he, R, l => by
    cases e <;> (try simp [chkB] at hc)
    rename_i x ops cs pos
    rcases ops with _ | ⟨pe, _ | ⟨qe, _ | ⟨_, _⟩⟩⟩ <;> rcases cs with _ | ⟨y, _ | ⟨z, _ | ⟨_, _⟩⟩⟩ <;> (try simp [chkB] at hc)
    obtain ⟨⟨⟨⟨⟨hp, hq⟩, hm⟩, ha⟩, hb⟩, hcc⟩ := hc
    have ep := cmB_ok hp
    have eq := cmB_ok hq
    subst ep
    subst eq
    simp only [evT, Option.bind_eq_some_iff] at he
    obtain ⟨u, h1, v, h2, k1, h3, h4⟩ := he
    obtain ⟨r, r', o1, o2, o3, w, k2, o4, o5⟩ := chn_pair (S2 := none) c h3 h4
    refine fun Q qq => WT.of (pt_chain o1 o3 WE.pe WE.pe WE.pe hm) (chain_ok (G := G) (p := p) (q := q) (z := w) (k2 := k2) o2 (ev_ok a c ha h1 R l) (fun F1 H1 n => ev_ok b c hb h2 (R.new n) n.fh)
      (fun z => ⟨(o4 z).2, fun F1 H1 n => ev_ok c' c hcc (o4 z).1 (R.new n) n.fh⟩) _ fun F' H' n => ?_)
    rw [o5]
    exact ⟨d, rfl, qq F' H' n⟩
  | .tru a, X, sc, e, env, d, σ, F, H, c, hc, he, R, l => by
    simp only [chkB, Bool.and_eq_true] at hc
    simp only [evT, Option.bind_eq_some_iff] at he
    obtain ⟨u, h1, h2⟩ := he
    exact gt_tru c hc.1 h2 (ev_ok a c hc.2 h1 R l)
theorem evI_ok : (i : II) → ∀ {br : Bool} {X : Cx} {sc : Scope} {tg e : Expr} {env : List SV} {ds : List D} {σ : L2.St} {F H : Hp}, Cok G k N sc X → chkI S N sc i e = true → evI S br i env = some ds → EnvR G m F H σ env → Le F H → GivI G br X tg e σ F H ds
  | .rng1 a, br, X, sc, tg, e, env, ds, σ, F, H, c, hc, he, R, l => by
    cases e <;> (try exact absurd hc Bool.false_ne_true)
    rename_i fe ys kws pos
    cases fe <;> rcases ys with _ | ⟨y, _ | ⟨_, _⟩⟩ <;> rcases kws with _ | ⟨_, _⟩ <;> (try exact absurd hc Bool.false_ne_true)
    rename_i x p0
    have hc : (isG sc x "range" && S.blt.contains "range" && chk S N sc a y) = true := hc
    rw [Bool.and_eq_true, Bool.and_eq_true] at hc
    obtain ⟨⟨hx, hm⟩, ha⟩ := hc
    obtain ⟨ex, hg, _⟩ := isG_ok hx
    simp only [evI] at he
    split at he
    · rename_i n h1
      split at he
      · rename_i hn
        cases he
        exact gi_rng1 c ex hg (hF.blt _ (by simpa using hm)) (chk_star ha) hn (ev_ok a c ha h1 R l)
      · cases he
    · cases he
  | .rng2 a b, br, X, sc, tg, e, env, ds, σ, F, H, c, hc, he, R, l => by
    cases e <;> (try exact absurd hc Bool.false_ne_true)
    rename_i fe ys kws pos
    cases fe <;> rcases ys with _ | ⟨y, _ | ⟨z, _ | ⟨_, _⟩⟩⟩ <;> rcases kws with _ | ⟨_, _⟩ <;> (try exact absurd hc Bool.false_ne_true)
    rename_i x p0
    have hc : (isG sc x "range" && S.blt.contains "range" && chk S N sc a y && chk S N sc b z) = true := hc
    rw [Bool.and_eq_true, Bool.and_eq_true, Bool.and_eq_true] at hc
    obtain ⟨⟨⟨hx, hm⟩, ha⟩, hb⟩ := hc
    obtain ⟨ex, hg, _⟩ := isG_ok hx
    simp only [evI] at he
    split at he
    · rename_i m n h1 h2
      split at he
      · rename_i hn
        cases he
        exact gi_rng2 c ex hg (hF.blt _ (by simpa using hm)) (chk_star ha) (chk_star hb) hn (ev_ok a c ha h1 R l) (fun F1 H1 nn => ev_ok b c hb h2 (R.new nn) nn.fh)
      · cases he
    · cases he
  | .zip a b, br, X, sc, tg, e, env, ds, σ, F, H, c, hc, he, R, l => by simp [evI] at he
  | .enm a, br, X, sc, tg, e, env, ds, σ, F, H, c, hc, he, R, l => by simp [evI] at he
  | .ex a, br, X, sc, tg, e, env, ds, σ, F, H, c, hc, he, R, l => by
    simp only [chkI] at hc
    simp only [evI] at he
    split at he
    · rename_i xs h1
      cases he
      exact gi_lst c (ev_ok a c hc h1 R l)
    · rename_i xs h1
      cases he
      exact gi_tup c (ev_ok a c hc h1 R l)
    · rename_i z h1
      cases he
      exact gi_str c (ev_ok a c hc h1 R l)
    · cases he
theorem evs_ok : (is : List IE) → ∀ {br : Bool} {X : Cx} {sc : Scope} {es : List Expr} {env : List SV} {ds : List D} {σ : L2.St} {F H : Hp}, Cok G k N sc X → chks S N sc is es = true → evs S br is env = some ds → EnvR G m F H σ env → Le F H → GivA G br X es σ F H ds
  | [], br, X, sc, es, env, ds, σ, F, H, c, hc, he, R, l => by
    cases es with
    | nil =>
      simp only [evs, Option.some.injEq] at he
      subst he
      exact ga_nil l
    | cons _ _ => simp [chks] at hc
  | i :: is, br, X, sc, es, env, ds, σ, F, H, c, hc, he, R, l => by
    cases es with
    | nil => simp [chks] at hc
    | cons e es =>
      simp only [chks, Bool.and_eq_true] at hc
      simp only [evs, Option.bind_eq_some_iff, Option.map_eq_some_iff] at he
      obtain ⟨d, h1, r, h2, rfl⟩ := he
      exact ga_cons (chk_star hc.1) (ev_ok i c hc.1 h1 R l) (fun F1 H1 n => evs_ok is c hc.2 h2 (R.new n) n.fh)
theorem evTs_ok : (is : List IB) → ∀ {X : Cx} {sc : Scope} {es : List Expr} {env : List SV} {d : Bool} {σ : L2.St} {F H : Hp}, Cok G k N sc X → chkBs S N sc is es = true → evTs S is env = some d → EnvR G m F H σ env → Le F H → GivTs X es σ F H d
  | [], X, sc, es, env, d, σ, F, H, c, hc, he, R, l => by
    cases es with
    | nil =>
      simp only [evTs, Option.some.injEq] at he
      subst he
      exact gts_nil l
    | cons _ _ => simp [chkBs] at hc
  | [i], X, sc, es, env, d, σ, F, H, c, hc, he, R, l => by
    rcases es with _ | ⟨e, _ | ⟨_, _⟩⟩
    · simp [chkBs] at hc
    · simp only [chkBs, Bool.and_true] at hc
      simp only [evTs] at he
      exact gts_one (evT_ok i c hc he R l)
    · simp [chkBs] at hc
  | _ :: _ :: _, X, sc, es, env, d, σ, F, H, c, hc, he, R, l => by simp [evTs] at he
end
end
end EL

set_option Elab.async false
set_option linter.all false
set_option maxRecDepth 100000
set_option maxHeartbeats 4000000
/-! statements -/
namespace EL
open PySem L2

inductive IS where
  | asg (i : Nat) (e : IE)
  | asO (i : Nat) (e : IE)
  | unp (t : IT) (e : IE)
  | aug (i : Nat) (e : IE)
  | app (i : Nat) (e : IE)
  | ext (i : Nat) (e : IE)
  | sfd (i : Nat) (k : Nat) (e : IE)
  | ret (e : IE) | retN
  | iff (c : IB) (a b : List IS)
  | fr (t : IT) (it : II) (b : List IS)
  | whl (c : IB) (b : List IS)
  | pas | brk | cnt
  | nev
/-- statements with what is frozen ahead of them -/
inductive Out where
  | nx (env : List SV) | rt (d : D) | bk (env : List SV) | ct (env : List SV)

def cmpE : Expr → Bool
  | .ListComp _ _ _ _ => true
  | .SetComp _ _ _ _ => true
  | .DictComp _ _ _ _ _ => true
  | _ => false
def isTupE : Expr → Bool
  | .Tuple _ _ _ => true
  | .List _ _ => true
  | _ => false
def tupE : Expr → Bool
  | .Tuple _ _ _ => true
  | _ => false
/-- a list display, a list comprehension, list(..): a new list -/
def newE : IE → Bool
  | .lst _ => true
  | .lc _ _ _ _ _ => true
  | _ => false
def kindF (sc : Scope) : Bool := match sc.kind with | .function => true | _ => false
mutual
def chkS (S : Sig) (N : List Str) (sc : Scope) : IS → Stmt → Bool
  | .asg i e, .Assign [.Name x _] v _ => decide (N[i]? = some x) && stoB sc x && !(cmpE v) && chk S N sc e v
  | .asO i e, .Assign [.Name x p] v _ => decide (N[i]? = some x) && stoB sc x && newE e && chk S N sc e v &&
      (match v with
      | .ListComp _ _ s q => celB sc x || locB sc x && kindF sc && (p.line == q.line) && !(s.names.any fun (n, k) => n == x && (k == .local || k == .cell))
      | _ => !(cmpE v))
  | .unp t e, .Assign [tg] v _ => tupE tg && chkT N (stoB sc) t tg && !(cmpE v) && !(isTupE v) && chk S N sc e v
  | .aug i e, .AugAssign (.Name x _) .Add v _ => decide (N[i]? = some x) && stoB sc x && chk S N sc e v
  | .app i e, .Expr (.Call (.Attribute (.Name x _) m ap) [v] [] cp) _ => decide (N[i]? = some x) && visB sc x && okN x && strB m "append" && (ap.endLine == cp.line) && chk S N sc e v
  | .ext i e, .Expr (.Call (.Attribute (.Name x _) m ap) [v] [] cp) _ => decide (N[i]? = some x) && visB sc x && okN x && strB m "extend" && (ap.endLine == cp.line) && newE e && chk S N sc e v
  | .sfd i k e, .Assign [.Attribute (.Name x _) f _] v _ => decide (N[i]? = some x) && visB sc x && okN x && (match S.fls[k]? with | some (_, g) => strB f g | none => false) && !(cmpE v) && chk S N sc e v
  | .ret e, .Return (some v) _ => chk S N sc e v
  | .retN, .Return none _ => true
  | .iff c a b, .If t x y _ => chkB S N sc c t && chkSs S N sc a x && chkSs S N sc b y
  | .fr t it b, .For tg iter body [] _ => chkT N (stoB sc) t tg && chkI S N sc it iter && chkSs S N sc b body
  | .whl c b, .While t body [] _ => chkB S N sc c t && chkSs S N sc b body
  | .pas, .Pass _ => true
  | .brk, .Break _ => true
  | .cnt, .Continue _ => true
  | .nev, _ => true
  | _, _ => false
def chkSs (S : Sig) (N : List Str) (sc : Scope) : List IS → List Stmt → Bool
  | [], [] => true
  | i :: is, s :: ss => chkS S N sc i s && chkSs S N sc is ss
  | _, _ => false
end
def frzV : SV → SV
  | .ow d => .sh d
  | v => v
def putD (f : Str) (v : D) : List (Str × D) → List (Str × D)
  | [] => [(f, v)]
  | (g, x) :: r => if g = f then (g, v) :: r else (g, x) :: putD f v r
def exFor (body : List SV → Option Out) (t : IT) : List D → List SV → Option Out
  | [], env => some (.nx env)
  | d :: ds, env => (bindT t d env).bind fun env1 => (body env1).bind fun o =>
      match o with
      | .nx e => exFor body t ds e
      | .ct e => exFor body t ds e
      | .bk e => some (.nx e)
      | .rt d => some (.rt d)
def exWh (c : List SV → Option Bool) (body : List SV → Option Out) : Nat → List SV → Option Out
  | 0, _ => none
  | n + 1, env => (c env).bind fun k => if k then (body env).bind fun o =>
      match o with
      | .nx e => exWh c body n e
      | .ct e => exWh c body n e
      | .bk e => some (.nx e)
      | .rt d => some (.rt d)
      else some (.nx env)
mutual
def ex (S : Sig) (n : Nat) : IS → List SV → Option Out
  | .asg i e, env => if i < env.length then (ev S false e env).map fun d => .nx (env.set i (.sh d)) else none
  | .asO i e, env => if i < env.length then (ev S false e env).map fun d => .nx (env.set i (.ow d)) else none
  | .unp t e, env => (ev S false e env).bind fun d => (bindT t d env).map .nx
  | .aug i e, env => (match env[i]?, ev S false e env with | some (.sh (.int a)), some (.int b) => some (.nx (env.set i (.sh (.int (a + b))))) | _, _ => none)
  | .app i e, env => (match env[i]?, ev S false e env with | some (.ow (.lst ds)), some d => if ds.length < 100000 then some (.nx (env.set i (.ow (.lst (ds ++ [d]))))) else none | _, _ => none)
  | .ext i e, env => (match env[i]?, ev S false e env with | some (.ow (.lst ds)), some (.lst es) => if ds.length + es.length < 100000 then some (.nx (env.set i (.ow (.lst (ds ++ es))))) else none | _, _ => none)
  | .sfd i k e, env => (match env[i]?, S.fls[k]?, ev S false e env with | some (.me (.obj c fs)), some (c', f), some d => if c = c' ∧ fs.length < 1000 then some (.nx (env.set i (.me (.obj c (putD f d fs))))) else none | _, _, _ => none)
  | .ret e, env => (ev S false e (env.map frzV)).map .rt
  | .retN, _ => some (.rt .non)
  | .iff c a b, env => (evT S c env).bind fun k => if k then exs S n a env else exs S n b env
  | .fr t it b, env => (evI S false it env).bind fun ds => if ds.length ≤ 100000 then exFor (exs S n b) t ds env else none
  | .whl c b, env => exWh (evT S c) (exs S n b) n env
  | .pas, env => some (.nx env)
  | .brk, env => some (.bk env)
  | .cnt, env => some (.ct env)
  | .nev, _ => none
def exs (S : Sig) (n : Nat) : List IS → List SV → Option Out
  | [], env => some (.nx env)
  | i :: is, env => (ex S n i env).bind fun o => match o with | .nx e => exs S n is e | o => some o
end

/-- the state between statements: base F0, H0 -/
structure Sta (G : Gl0) (m : Addr) (F0 H0 F H : Hp) (σ : L2.St) (env : List SV) : Prop where
  n : New F0 H0 F H
  r : EnvR G m F H σ env
  o : ∀ (i : Nat) (d : D) (a : Addr), env[i]? = some (.ow d) → σ[i]? = some (some (.ref a)) → H0 a = none
  m : ∀ (i : Nat) (d : D), env[i]? = some (.me d) → H0 m = none
def EndsOk (G : Gl0) (m : Addr) (F0 H0 F : Hp) (D : Ends) : Out → Prop
  | .nx env => ∀ σ F' H', Sta G m F0 H0 F' H' σ env → Le F F' → D.nx σ H'
  | .rt d => ∀ v F' H', New F0 H0 F' H' → Rep G F' v d → D.rt v H'
  | .bk env => ∀ σ F' H', Sta G m F0 H0 F' H' σ env → Le F F' → D.bk σ H'
  | .ct env => ∀ σ F' H', Sta G m F0 H0 F' H' σ env → Le F F' → D.ct σ H'
theorem EndsOk.mono {G : Gl0} {m : Addr} {F0 H0 F F1 : Hp} {D : Ends} {o : Out} (h : EndsOk G m F0 H0 F D o) (l : Le F F1) : EndsOk G m F0 H0 F1 D o := by
  cases o <;> first
    | exact fun σ F' H' s l' => h σ F' H' s (l.trans l')
    | exact h
section
variable {m : Addr} {G : Gl0} {k : Nat} {N : List Str} {sc : Scope} {X : Cx} {σ : L2.St} {F0 H0 F H : Hp} {env : List SV} {S : Sig}
theorem Sta.new {F' H' : Hp} (s : Sta G m F0 H0 F H σ env) (n : New F H F' H') : Sta G m F0 H0 F' H' σ env := ⟨s.n.trans n, s.r.new n, s.o, s.m⟩
theorem Sta.put {x : V} {d : D} {i : Nat} (s : Sta G m F0 H0 F H σ env) (r : Rep G F x d) : Sta G m F0 H0 F H (σ.set i (some x)) (env.set i (.sh d)) := by
  refine ⟨s.n, s.r.put r, fun j e a h1 h2 => ?_, fun j e h1 => ?_⟩
  · rcases set_at h1 with ⟨_, q⟩ | ⟨ne, q⟩
    · cases q
    · rw [List.getElem?_set_ne ne] at h2
      exact s.o j e a q h2
  · rcases set_at h1 with ⟨_, q⟩ | ⟨ne, q⟩
    · cases q
    · exact s.m j e q
/-- a new object that is not frozen comes to a slot -/
theorem Sta.putO {a : Addr} {o : HO} {d : D} {i : Nat} {F' H' : Hp} (s : Sta G m F0 H0 F H σ env) (n : New F H F' H') (h1 : H a = none) (h2 : F' a = none) (h3 : H' a = some o) (h4 : Cell G F' o d) (hi : i < env.length) :
    Sta G m F0 H0 F' H' (σ.set i (some (.ref a))) (env.set i (.ow d)) := by
  have r' := s.r.new n
  have hi' : i < σ.length := by rw [← s.r.len]; exact hi
  have old : ∀ (j : Nat) (e : D) (b : Addr), env[j]? = some (.ow e) → σ[j]? = some (some (.ref b)) → b ≠ a := fun j e b e1 e2 q => by
    subst q
    obtain ⟨b', o', p1, _, p3, _⟩ := s.r.ow j e e1
    rw [p1] at e2
    have e3 : b' = b := V.ref.inj (Option.some.inj (Option.some.inj e2))
    subst e3
    rw [h1] at p3
    cases p3
  have oldm : ∀ (j : Nat) (e : D), env[j]? = some (.me e) → m ≠ a := fun j e e1 q => by
    obtain ⟨_, _, o', p3, _⟩ := s.r.me j e e1
    rw [q, h1] at p3
    cases p3
  refine ⟨s.n.trans n, ⟨by rw [List.length_set, List.length_set]; exact r'.len, fun j e he => ?_, fun j e he => ?_, fun j1 j2 b d1 d2 e1 e2 s1 s2 => ?_, fun j e he => ?_, fun j1 j2 d1 d2 e1 e2 => ?_, fun j1 j2 d1 d2 e1 e2 => ?_⟩, fun j e b he hs => ?_, fun j e he => ?_⟩
  · rcases set_at he with ⟨rfl, q⟩ | ⟨ne, q⟩
    · cases q
    · rw [List.getElem?_set_ne ne]
      exact r'.sh j e q
  · rcases set_at he with ⟨rfl, q⟩ | ⟨ne, q⟩
    · cases q
      exact ⟨a, o, List.getElem?_set_self hi', h2, h3, h4⟩
    · rw [List.getElem?_set_ne ne]
      exact r'.ow j e q
  · rcases set_at e1 with ⟨q1, _⟩ | ⟨ne1, q1⟩ <;> rcases set_at e2 with ⟨q2, _⟩ | ⟨ne2, q2⟩
    · exact q1.symm.trans q2
    · subst q1
      rw [List.getElem?_set_self hi'] at s1
      rw [List.getElem?_set_ne ne2] at s2
      cases s1
      exact absurd rfl (old j2 d2 _ q2 s2)
    · subst q2
      rw [List.getElem?_set_self hi'] at s2
      rw [List.getElem?_set_ne ne1] at s1
      cases s2
      exact absurd rfl (old j1 d1 _ q1 s1)
    · rw [List.getElem?_set_ne ne1] at s1
      rw [List.getElem?_set_ne ne2] at s2
      exact r'.ne j1 j2 b d1 d2 q1 q2 s1 s2
  · rcases set_at he with ⟨_, q⟩ | ⟨ne, q⟩
    · cases q
    · rw [List.getElem?_set_ne ne]
      exact r'.me j e q
  · rcases set_at e1 with ⟨_, q⟩ | ⟨ne1, q1⟩
    · cases q
    · rcases set_at e2 with ⟨q2, _⟩ | ⟨ne2, q2⟩
      · subst q2
        rw [List.getElem?_set_self hi']
        intro z
        exact oldm j1 d1 q1 (V.ref.inj (Option.some.inj (Option.some.inj z))).symm
      · rw [List.getElem?_set_ne ne2]
        exact r'.mo j1 j2 d1 d2 q1 q2
  · rcases set_at e1 with ⟨_, q⟩ | ⟨_, q1⟩
    · cases q
    · rcases set_at e2 with ⟨_, q⟩ | ⟨_, q2⟩
      · cases q
      · exact r'.mi j1 j2 d1 d2 q1 q2
  · rcases set_at he with ⟨q1, _⟩ | ⟨ne1, q1⟩
    · subst q1
      rw [List.getElem?_set_self hi'] at hs
      cases hs
      exact s.n.hh.none h1
    · rw [List.getElem?_set_ne ne1] at hs
      exact s.o j e b q1 hs
  · rcases set_at he with ⟨_, q⟩ | ⟨_, q⟩
    · cases q
    · exact s.m j e q
/-- an object that is not frozen is changed -/
theorem Sta.mut {a : Addr} {o o' : HO} {d d' : D} {i : Nat} (s : Sta G m F0 H0 F H σ env) (e1 : env[i]? = some (.ow d)) (e2 : σ[i]? = some (some (.ref a))) (h3 : H a = some o) (h4 : Cell G F o' d') :
    Sta G m F0 H0 F (upd H a o') σ (env.set i (.ow d')) := by
  obtain ⟨b, ob, p1, p2, p3, p4⟩ := s.r.ow i d e1
  have eb : b = a := by
    rw [p1] at e2
    exact V.ref.inj (Option.some.inj (Option.some.inj e2))
  subst eb
  have h0 : H0 b = none := s.o i d b e1 p1
  have bk : ∀ {j : Nat} {c : D}, (env.set i (.ow d'))[j]? = some (.ow c) → ∃ c', env[j]? = some (.ow c') := fun {j c} h => by
    rcases set_at h with ⟨rfl, _⟩ | ⟨_, q⟩
    · exact ⟨d, e1⟩
    · exact ⟨c, q⟩
  have bm : ∀ {j : Nat} {c : D}, (env.set i (.ow d'))[j]? = some (.me c) → env[j]? = some (.me c) := fun {j c} h => by
    rcases set_at h with ⟨_, q⟩ | ⟨_, q⟩
    · cases q
    · exact q
  refine ⟨s.n.upd o' p2 h0, ⟨by rw [List.length_set]; exact s.r.len, fun j e he => ?_, fun j e he => ?_, fun j1 j2 c d1 d2 e1' e2' s1 s2 => ?_, fun j e he => ?_, fun j1 j2 d1 d2 e1' e2' => ?_, fun j1 j2 d1 d2 e1' e2' => ?_⟩, fun j e c he hs => ?_, fun j e he => ?_⟩
  · rcases set_at he with ⟨rfl, q⟩ | ⟨ne, q⟩
    · cases q
    · exact s.r.sh j e q
  · rcases set_at he with ⟨rfl, q⟩ | ⟨ne, q⟩
    · cases q
      exact ⟨b, o', p1, p2, upd_same, h4⟩
    · obtain ⟨c, oc, q1, q2, q3, q4⟩ := s.r.ow j e q
      refine ⟨c, oc, q1, q2, ?_, q4⟩
      have nc : c ≠ b := fun z => by
        subst z
        exact ne (s.r.ne i j c d e e1 q p1 q1)
      rw [upd_ne nc]
      exact q3
  · obtain ⟨_, g1⟩ := bk e1'
    obtain ⟨_, g2⟩ := bk e2'
    exact s.r.ne j1 j2 c _ _ g1 g2 s1 s2
  · obtain ⟨q1, q2, oc, q3, q4⟩ := s.r.me j e (bm he)
    refine ⟨q1, q2, oc, ?_, q4⟩
    have nm : m ≠ b := fun z => s.r.mo j i e d (bm he) e1 (by rw [z]; exact p1)
    rw [upd_ne nm]
    exact q3
  · obtain ⟨_, g2⟩ := bk e2'
    exact s.r.mo j1 j2 d1 _ (bm e1') g2
  · exact s.r.mi j1 j2 d1 d2 (bm e1') (bm e2')
  · obtain ⟨_, g⟩ := bk he
    exact s.o j _ c g hs
  · exact s.m j e (bm he)
/-- the object itself is changed -/
theorem Sta.mutM {o' : HO} {d d' : D} {i : Nat} (s : Sta G m F0 H0 F H σ env) (e1 : env[i]? = some (.me d)) (h4 : Cell G F o' d') :
    Sta G m F0 H0 F (upd H m o') σ (env.set i (.me d')) := by
  obtain ⟨p1, p2, ob, p3, p4⟩ := s.r.me i d e1
  have h0 : H0 m = none := s.m i d e1
  have bo : ∀ {j : Nat} {c : D}, (env.set i (.me d'))[j]? = some (.ow c) → env[j]? = some (.ow c) := fun {j c} h => by
    rcases set_at h with ⟨_, q⟩ | ⟨_, q⟩
    · cases q
    · exact q
  have bm : ∀ {j : Nat} {c : D}, (env.set i (.me d'))[j]? = some (.me c) → ∃ c', env[j]? = some (.me c') := fun {j c} h => by
    rcases set_at h with ⟨rfl, _⟩ | ⟨_, q⟩
    · exact ⟨d, e1⟩
    · exact ⟨c, q⟩
  refine ⟨s.n.upd o' p2 h0, ⟨by rw [List.length_set]; exact s.r.len, fun j e he => ?_, fun j e he => ?_, fun j1 j2 c d1 d2 e1' e2' s1 s2 => ?_, fun j e he => ?_, fun j1 j2 d1 d2 e1' e2' => ?_, fun j1 j2 d1 d2 e1' e2' => ?_⟩, fun j e c he hs => ?_, fun j e he => ?_⟩
  · rcases set_at he with ⟨rfl, q⟩ | ⟨ne, q⟩
    · cases q
    · exact s.r.sh j e q
  · obtain ⟨c, oc, q1, q2, q3, q4⟩ := s.r.ow j e (bo he)
    refine ⟨c, oc, q1, q2, ?_, q4⟩
    have nc : c ≠ m := fun z => s.r.mo i j d e e1 (bo he) (by rw [← z]; exact q1)
    rw [upd_ne nc]
    exact q3
  · exact s.r.ne j1 j2 c d1 d2 (bo e1') (bo e2') s1 s2
  · rcases set_at he with ⟨rfl, q⟩ | ⟨ne, q⟩
    · cases q
      exact ⟨p1, p2, o', upd_same, h4⟩
    · exact absurd (s.r.mi i j d e e1 q) ne
  · obtain ⟨_, g⟩ := bm e1'
    exact s.r.mo j1 j2 _ d2 g (bo e2')
  · obtain ⟨_, g1⟩ := bm e1'
    obtain ⟨_, g2⟩ := bm e2'
    exact s.r.mi j1 j2 _ _ g1 g2
  · exact s.o j e c (bo he) hs
  · exact h0
/-- all is frozen -/
theorem Sta.frz : ∀ {env : List SV} (s : Sta G m F0 H0 F H σ env), ∃ F', Sta G m F0 H0 F' H σ (env.map frzV) ∧ Le F F' := by
  intro env s
  -- all that some slot owns
  let P : Addr → Prop := fun a => ∃ (i : Nat) (d : D), env[i]? = some (.ow d) ∧ σ[i]? = some (some (.ref a))
  have : ∀ a, Decidable (P a) := fun a => Classical.propDecidable _
  let F' : Hp := fun a => if P a then H a else F a
  have hF : ∀ a, P a → F a = none ∧ ∃ o, H a = some o := fun a ⟨i, d, e1, e2⟩ => by
    obtain ⟨b, o, p1, p2, p3, _⟩ := s.r.ow i d e1
    rw [p1] at e2
    have eb : b = a := V.ref.inj (Option.some.inj (Option.some.inj e2))
    subst eb
    exact ⟨p2, o, p3⟩
  have l : Le F F' := fun a o e => by
    show (if P a then H a else F a) = some o
    by_cases q : P a
    · rw [(hF a q).1] at e
      cases e
    · rw [if_neg q]
      exact e
  have nmo : ∀ {i : Nat} {d : D}, (env.map frzV)[i]? = some (.ow d) → False := fun {i d} e => by
    rw [List.getElem?_map, Option.map_eq_some_iff] at e
    obtain ⟨v, e1, e2⟩ := e
    cases v <;> cases e2
  have nme : ∀ {i : Nat} {d : D}, (env.map frzV)[i]? = some (.me d) → env[i]? = some (.me d) := fun {i d} e => by
    rw [List.getElem?_map, Option.map_eq_some_iff] at e
    obtain ⟨v, e1, e2⟩ := e
    cases v <;> cases e2
    exact e1
  refine ⟨F', ⟨⟨s.n.ff.trans l, s.n.hh, fun a o e => ?_, fun a h e => ?_⟩, ⟨by rw [List.length_map]; exact s.r.len, fun i d e => ?_, fun i d e => (nmo e).elim, fun i j a d e h1 => (nmo h1).elim, fun i d e => ?_, fun i j d e h1 h2 => (nmo h2).elim, fun i j d e h1 h2 => s.r.mi i j d e (nme h1) (nme h2)⟩, fun i d a e => (nmo e).elim, fun i d e => s.m i d (nme e)⟩, l⟩
  · have e : (if P a then H a else F a) = some o := e
    by_cases q : P a
    · rw [if_pos q] at e
      exact e
    · rw [if_neg q] at e
      exact s.n.fh _ _ e
  · by_cases q : P a
    · obtain ⟨i, d, e1, e2⟩ := q
      exact s.o i d a e1 e2
    · have h : (if P a then H a else F a) ≠ none := h
      rw [if_neg q] at h
      exact s.n.fr a h e
  · rw [List.getElem?_map, Option.map_eq_some_iff] at e
    obtain ⟨v, e1, e2⟩ := e
    cases v with
    | un => cases e2
    | me d' => cases e2
    | sh d' =>
      cases e2
      obtain ⟨x, p1, p2⟩ := s.r.sh i d e1
      exact ⟨x, p1, p2.mono l⟩
    | ow d' =>
      cases e2
      obtain ⟨b, o, p1, p2, p3, p4⟩ := s.r.ow i d e1
      refine ⟨.ref b, p1, (p4.mono l).rep ?_⟩
      show (if P b then H b else F b) = some o
      rw [if_pos ⟨i, d, e1, p1⟩]
      exact p3
  · obtain ⟨p1, p2, o, p3, p4⟩ := s.r.me i d (nme e)
    refine ⟨p1, ?_, o, p3, p4.mono l⟩
    show (if P m then H m else F m) = none
    rw [if_neg fun ⟨j, c, q1, q2⟩ => s.r.mo i j d c (nme e) q1 q2]
    exact p2
mutual
theorem bind_sta : ∀ {t : IT} {d : D} {σ : L2.St} {env env1 : List SV} {x : V} {Q : L2.St → Hp → Prop}, Sta G m F0 H0 F H σ env → bindT t d env = some env1 → Rep G F x d →
    (∀ σ1, Sta G m F0 H0 F H σ1 env1 → Q σ1 H) → gT G.K t x σ H Q
  | .nm i, d, σ, env, env1, x, Q, s, h, r, q => by
    simp only [bindT] at h
    split at h
    · cases h
      exact q _ (s.put r)
    · cases h
  | .us i, d, σ, env, env1, x, Q, s, h, r, q => by
    simp only [bindT] at h
    split at h
    · cases h
      exact q _ (s.put r)
    · cases h
  | .tp ts, d, σ, env, env1, x, Q, s, h, r, q => by
    cases d <;> simp only [bindT, reduceCtorEq] at h
    rename_i ds
    cases r with
    | tup e rs =>
      rename_i p vs
      exact ⟨p, vs, rfl, s.n.fh.sqT e, by rw [rs.length, binds_len (m := m) (G := G) (F := F) (H := H) h], binds_sta s h rs q⟩
theorem binds_sta : ∀ {ts : List IT} {ds : List D} {σ : L2.St} {env env1 : List SV} {xs : List V} {Q : L2.St → Hp → Prop}, Sta G m F0 H0 F H σ env → bindTs ts ds env = some env1 → RepL G F xs ds →
    (∀ σ1, Sta G m F0 H0 F H σ1 env1 → Q σ1 H) → gTs G.K ts xs σ H Q
  | [], ds, σ, env, env1, xs, Q, s, h, r, q => by
    cases ds with
    | nil =>
      simp only [bindTs, Option.some.injEq] at h
      subst h
      cases r
      exact ⟨rfl, q σ s⟩
    | cons _ _ => simp [bindTs] at h
  | t :: ts, ds, σ, env, env1, xs, Q, s, h, r, q => by
    cases ds with
    | nil => simp [bindTs] at h
    | cons d ds =>
      simp only [bindTs, Option.bind_eq_some_iff] at h
      obtain ⟨env2, h1, h2⟩ := h
      cases r with
      | cons r1 r2 => exact ⟨_, _, rfl, bind_sta s h1 r1 fun σ1 s1 => binds_sta s1 h2 r2 q⟩
end
end
end EL

set_option Elab.async false
set_option linter.all false
set_option maxRecDepth 100000
set_option maxHeartbeats 8000000
/-! the shape does what the code does: statements -/
namespace EL
open PySem L2
section
variable {m : Addr} {G : Gl0} {k : Nat} {N : List Str} {sc : Scope} {X : Cx} {σ : L2.St} {F0 H0 F H : Hp} {env : List SV} {S : Sig} {n : Nat}
abbrev HP (X : Cx) : Prop := PassesOwn (model X.prog X.w) X.A X.env X.xe ∧ ∀ x, X.fn x = true
theorem sw_no {e : Expr} {t : Option Expr} {l : Nat} {en : Env} (h : cmpE e = false) : swapsWith e t l en = pure false := by
  cases e <;> first
    | rfl
    | exact absurd h (by intro z; cases z)
theorem sw_cell {elt : Expr} {gs : List Comprehension} {scope : Scope} {pos py : Pos} {y : Str} {l : Nat} {env : Env} (hy : env.scope.names.lookup y = some .cell) : swapsWith (.ListComp elt gs scope pos) (some (.Name y py)) l env = pure false := by
  have ky : env.kindOf y = some .cell := hy
  unfold swapsWith
  simp only [ky]
  by_cases hb : env.blockKind == .function
  · rw [hb]
    rfl
  · rw [Bool.not_eq_true] at hb
    rw [hb]
    rfl
theorem swS_no {e tg : Expr} {l : Nat} {en : Env} (h : cmpE e = false) : swapsWithSole [tg] e l en = pure false := sw_no h
theorem swT_no {e tg : Expr} {en : Env} (h : isTupE e = false) (ht : tupE tg = true) : swappedStores [tg] e en = pure none := by
  cases tg <;> first
    | (cases e <;> first
        | rfl
        | exact absurd h (by intro z; cases z))
    | exact absurd ht (by intro z; cases z)
theorem g_lstO {es : List Expr} {ds : List D} {pos : Pos} (h : GivA G false X es σ F H ds) (hl : ds.length ≤ 100000) : GivO G X (.List es pos) σ F H (.lst ds) := fun Q q =>
  WE.of (pe_lst WA.pa) (h _ fun vs F1 H1 n1 r1 => ⟨small_line (by rw [(repBs_rep r1).length]; exact hl), fun p hp => by
    have nF := n1.fh.none hp
    exact q p (.lst vs) F1 _ (n1.trans (New.allocH _ n1.fh hp)) (n1.hh.none hp) nF upd_same (repBs_rep r1)⟩)
variable (hF : Facts G k S)
include hF
/-- what a comprehension's shape tells -/
theorem lc_hyps {t : IT} {it : II} {ifs : List IB} {i : IE} {own : List (Str × Nat)} {br : Bool} {e : Expr} {d : D} (c : Cok G k N sc X) (hc : chk S N sc (.lc t it ifs i own) e = true) (he : ev S br (.lc t it ifs i own) env = some d) (R : EnvR G m F H σ env) (l : Le F H) :
    ∃ (elt tg iter : Expr) (fs : List Expr) (scope : Scope) (pos : Pos) (ds out : List D) (f : D → Option (Option D)), e = .ListComp elt [⟨tg, iter, fs, 0⟩] scope pos ∧ d = .lst out ∧ BlkOk X.N X.env.scope scope own ∧ chkT N (locB (relS scope sc)) t tg = true ∧ inOwn (own.map (·.2)) t = true ∧
      (∀ x, foldedSetIterable iter X.env x = pure x) ∧ GivI G true X tg iter σ F H ds ∧ ds.length ≤ 100000 ∧ (∀ d ∈ ds, TurnD G m k N (relS scope sc) t (wipeE env (own.map (·.2))) fs elt f d) ∧ compL f ds = some out := by
  cases e <;> (try simp [chk] at hc)
  rename_i elt gens scope pos
  rcases gens with _ | ⟨⟨tg, iter, fs, ia⟩, _ | ⟨_, _⟩⟩
  · simp [chk] at hc
  · by_cases hz : ia = 0
    · subst hz
      simp [chk] at hc
      obtain ⟨⟨⟨⟨⟨hbk, hin⟩, hit⟩, ht⟩, hifs⟩, helt⟩ := hc
      simp only [ev, Option.bind_eq_some_iff] at he
      obtain ⟨ds, h1, h2⟩ := he
      split at h2
      · rename_i hl
        rw [Option.map_eq_some_iff] at h2
        obtain ⟨out, h3, rfl⟩ := h2
        refine ⟨elt, tg, iter, fs, scope, pos, ds, out, _, rfl, rfl, by rw [c.eN, c.eS]; exact blkOk_by hbk, ht, hin, chkI_set hit, evI_ok hF it c hit h1 R l, hl, fun d0 hd0 => ?_, h3⟩
        obtain ⟨o, ho⟩ := compL_mem h3 hd0
        have ho' := ho
        simp only [Option.bind_eq_some_iff] at ho'
        obtain ⟨env1, hb1, okb, hok, hel⟩ := ho'
        refine ⟨env1, hb1, okb, fun Y cY σ1 F1 H1 R1 l1 => evTs_ok hF ifs cY hifs hok R1 l1, fun z => ?_, fun z => ?_⟩
        · subst z
          simp only [if_true, Option.map_eq_some_iff] at hel
          obtain ⟨y, hy, rfl⟩ := hel
          exact ⟨y, ho, fun Y cY σ1 F1 H1 R1 l1 => ev_ok hF i cY helt hy R1 l1⟩
        · subst z
          simp only [Bool.false_eq_true, if_false, Option.some.injEq] at hel
          subst hel
          exact ho
      · cases h2
    · exfalso
      revert hc
      cases ia <;> simp_all [chk]
  · simp [chk] at hc
theorem evO_ok {i : IE} {br : Bool} {e : Expr} {d : D} (c : Cok G k N sc X) (hn : newE i = true) (hc : chk S N sc i e = true) (he : ev S br i env = some d) (R : EnvR G m F H σ env) (l : Le F H) : GivO G X e σ F H d := by
  cases i <;> first
    | exact absurd hn Bool.false_ne_true
    | skip
  · rename_i es
    cases e <;> (try simp [chk] at hc)
    simp only [ev] at he
    split at he
    · rename_i hl
      rw [Option.map_eq_some_iff] at he
      obtain ⟨ds, h1, rfl⟩ := he
      exact g_lstO (evs_ok hF es c hc h1 R l) (by rw [evs_len h1]; omega)
    · cases he
  · obtain ⟨elt, tg, iter, fs, scope, pos, ds, out, f, rfl, rfl, h1, h2, h3, h4, h5, h6, h7, h8⟩ := lc_hyps hF c hc he R l
    exact g_lcO c h1 h2 h3 h4 h5 R h6 h7 h8
omit hF in
theorem putD_ok {vs : List (Str × V)} {ds : List (Str × D)} {f : Str} {v : V} {d : D} (r : Rep G F v d) : vs.map (·.1) = ds.map (·.1) → RepL G F (vs.map (·.2)) (ds.map (·.2)) →
    (putF f v vs).map (·.1) = (putD f d ds).map (·.1) ∧ RepL G F ((putF f v vs).map (·.2)) ((putD f d ds).map (·.2)) := by
  induction vs generalizing ds with
  | nil =>
    intro e rs
    cases ds with
    | nil => exact ⟨rfl, .cons r .nil⟩
    | cons _ _ => simp at e
  | cons p vs ih =>
    intro e rs
    cases ds with
    | nil => simp at e
    | cons q ds =>
      obtain ⟨g, x⟩ := p
      obtain ⟨g', y⟩ := q
      simp only [List.map_cons, List.cons.injEq] at e
      obtain ⟨e1, e2⟩ := e
      have e1 : g = g' := e1
      subst e1
      cases rs with
      | cons r1 r2 =>
        unfold putF putD
        by_cases q : g = f
        · rw [if_pos q, if_pos q]
          exact ⟨by simp [e2], .cons r r2⟩
        · rw [if_neg q, if_neg q]
          obtain ⟨h1, h2⟩ := ih e2 r2
          exact ⟨by rw [List.map_cons, List.map_cons, h1], .cons r1 h2⟩
omit hF in
theorem chk_new_star {v : Expr} {e : IE} (h : chk S N sc e v = true) : starEach [v] X.env = [(false, eval v X.env)] := by
  rw [star_cons (chk_star h)]
  rfl
omit hF in
theorem inv_asg (j : Nat) (e : IE) {st : Stmt} (hc : chkS S N sc (.asg j e) st = true) : ∃ (x : Str) (py : Pos) (v : Expr) (pos : Pos), st = .Assign [.Name x py] v pos ∧ (decide (N[j]? = some x) && stoB sc x && !(cmpE v) && chk S N sc e v) = true := by
  cases st <;> (first | exact absurd hc Bool.false_ne_true | skip)
  rename_i tgs v pos
  rcases tgs with _ | ⟨tg, _ | ⟨_, _⟩⟩ <;> (first | exact absurd hc Bool.false_ne_true | (cases tg <;> exact absurd hc Bool.false_ne_true) | skip)
  cases tg <;> (first | exact absurd hc Bool.false_ne_true | skip)
  rename_i x py
  exact ⟨x, py, v, pos, rfl, hc⟩
omit hF in
theorem inv_asO (j : Nat) (e : IE) {st : Stmt} (hc : chkS S N sc (.asO j e) st = true) : ∃ (x : Str) (py : Pos) (v : Expr) (pos : Pos), st = .Assign [.Name x py] v pos ∧ (decide (N[j]? = some x) && stoB sc x && newE e && chk S N sc e v &&
      (match v with
      | .ListComp _ _ s q => celB sc x || locB sc x && kindF sc && (py.line == q.line) && !(s.names.any fun (n, k) => n == x && (k == .local || k == .cell))
      | _ => !(cmpE v))) = true := by
  cases st <;> (first | exact absurd hc Bool.false_ne_true | skip)
  rename_i tgs v pos
  rcases tgs with _ | ⟨tg, _ | ⟨_, _⟩⟩ <;> (first | exact absurd hc Bool.false_ne_true | (cases tg <;> exact absurd hc Bool.false_ne_true) | skip)
  cases tg <;> (first | exact absurd hc Bool.false_ne_true | skip)
  rename_i x py
  exact ⟨x, py, v, pos, rfl, hc⟩
omit hF in
theorem inv_unp (t : IT) (e : IE) {st : Stmt} (hc : chkS S N sc (.unp t e) st = true) : ∃ (tg v : Expr) (pos : Pos), st = .Assign [tg] v pos ∧ (tupE tg && chkT N (stoB sc) t tg && !(cmpE v) && !(isTupE v) && chk S N sc e v) = true := by
  cases st <;> (first | exact absurd hc Bool.false_ne_true | skip)
  rename_i tgs v pos
  rcases tgs with _ | ⟨tg, _ | ⟨_, _⟩⟩ <;> (first | exact absurd hc Bool.false_ne_true | (cases tg <;> exact absurd hc Bool.false_ne_true) | skip)
  exact ⟨tg, v, pos, rfl, hc⟩
omit hF in
theorem inv_aug (j : Nat) (e : IE) {st : Stmt} (hc : chkS S N sc (.aug j e) st = true) : ∃ (x : Str) (py : Pos) (v : Expr) (pos : Pos), st = .AugAssign (.Name x py) .Add v pos ∧ (decide (N[j]? = some x) && stoB sc x && chk S N sc e v) = true := by
  cases st <;> (first | exact absurd hc Bool.false_ne_true | skip)
  rename_i tg op v pos
  cases tg <;> cases op <;> (first | exact absurd hc Bool.false_ne_true | skip)
  rename_i x py
  exact ⟨x, py, v, pos, rfl, hc⟩
omit hF in
theorem inv_app (j : Nat) (e : IE) {st : Stmt} (hc : chkS S N sc (.app j e) st = true) : ∃ (x m : Str) (py ap cp pos : Pos) (v : Expr), st = .Expr (.Call (.Attribute (.Name x py) m ap) [v] [] cp) pos ∧ (decide (N[j]? = some x) && visB sc x && okN x && strB m "append" && (ap.endLine == cp.line) && chk S N sc e v) = true := by
  cases st <;> (first | exact absurd hc Bool.false_ne_true | skip)
  rename_i v pos
  cases v <;> (first | exact absurd hc Bool.false_ne_true | skip)
  rename_i fe args kws cp
  cases fe <;> (first | exact absurd hc Bool.false_ne_true | skip)
  rename_i r m ap
  cases r <;> (first | exact absurd hc Bool.false_ne_true | skip)
  rename_i x py
  rcases args with _ | ⟨v, _ | ⟨_, _⟩⟩ <;> (first | exact absurd hc Bool.false_ne_true | skip)
  rcases kws with _ | ⟨_, _⟩ <;> (first | exact absurd hc Bool.false_ne_true | skip)
  exact ⟨x, m, py, ap, cp, pos, v, rfl, hc⟩
omit hF in
theorem inv_ext (j : Nat) (e : IE) {st : Stmt} (hc : chkS S N sc (.ext j e) st = true) : ∃ (x m : Str) (py ap cp pos : Pos) (v : Expr), st = .Expr (.Call (.Attribute (.Name x py) m ap) [v] [] cp) pos ∧ (decide (N[j]? = some x) && visB sc x && okN x && strB m "extend" && (ap.endLine == cp.line) && newE e && chk S N sc e v) = true := by
  cases st <;> (first | exact absurd hc Bool.false_ne_true | skip)
  rename_i v pos
  cases v <;> (first | exact absurd hc Bool.false_ne_true | skip)
  rename_i fe args kws cp
  cases fe <;> (first | exact absurd hc Bool.false_ne_true | skip)
  rename_i r m ap
  cases r <;> (first | exact absurd hc Bool.false_ne_true | skip)
  rename_i x py
  rcases args with _ | ⟨v, _ | ⟨_, _⟩⟩ <;> (first | exact absurd hc Bool.false_ne_true | skip)
  rcases kws with _ | ⟨_, _⟩ <;> (first | exact absurd hc Bool.false_ne_true | skip)
  exact ⟨x, m, py, ap, cp, pos, v, rfl, hc⟩
omit hF in
theorem inv_sfd (j kf : Nat) (e : IE) {st : Stmt} (hc : chkS S N sc (.sfd j kf e) st = true) : ∃ (x f : Str) (py ap pos : Pos) (v : Expr), st = .Assign [.Attribute (.Name x py) f ap] v pos ∧ (decide (N[j]? = some x) && visB sc x && okN x && (match S.fls[kf]? with | some (_, g) => strB f g | none => false) && !(cmpE v) && chk S N sc e v) = true := by
  cases st <;> (first | exact absurd hc Bool.false_ne_true | skip)
  rename_i tgs v pos
  rcases tgs with _ | ⟨tg, _ | ⟨_, _⟩⟩ <;> (first | exact absurd hc Bool.false_ne_true | (cases tg <;> first | exact absurd hc Bool.false_ne_true | (rename_i r _ _; cases r <;> exact absurd hc Bool.false_ne_true)) | skip)
  cases tg <;> (first | exact absurd hc Bool.false_ne_true | skip)
  rename_i r f ap
  cases r <;> (first | exact absurd hc Bool.false_ne_true | skip)
  rename_i x py
  exact ⟨x, f, py, ap, pos, v, rfl, hc⟩
omit hF in
theorem inv_ret (e : IE) {st : Stmt} (hc : chkS S N sc (.ret e) st = true) : ∃ (v : Expr) (pos : Pos), st = .Return (some v) pos ∧ chk S N sc e v = true := by
  cases st <;> (first | exact absurd hc Bool.false_ne_true | skip)
  rename_i v pos
  rcases v with _ | v
  · exact absurd hc Bool.false_ne_true
  exact ⟨v, pos, rfl, hc⟩
omit hF in
theorem inv_retN  {st : Stmt} (hc : chkS S N sc (.retN ) st = true) : ∃ (pos : Pos), st = .Return none pos := by
  cases st <;> (first | exact absurd hc Bool.false_ne_true | skip)
  rename_i v pos
  cases v with
  | some v => exact absurd hc Bool.false_ne_true
  | none => exact ⟨pos, rfl⟩
omit hF in
theorem inv_iff (t : IB) (a b : List IS) {st : Stmt} (hc : chkS S N sc (.iff t a b) st = true) : ∃ (te : Expr) (xa xb : List Stmt) (pos : Pos), st = .If te xa xb pos ∧ (chkB S N sc t te && chkSs S N sc a xa && chkSs S N sc b xb) = true := by
  cases st <;> (first | exact absurd hc Bool.false_ne_true | skip)
  rename_i te xa xb pos
  exact ⟨te, xa, xb, pos, rfl, hc⟩
omit hF in
theorem inv_fr (t : IT) (it : II) (b : List IS) {st : Stmt} (hc : chkS S N sc (.fr t it b) st = true) : ∃ (tg iter : Expr) (body : List Stmt) (pos : Pos), st = .For tg iter body [] pos ∧ (chkT N (stoB sc) t tg && chkI S N sc it iter && chkSs S N sc b body) = true := by
  cases st <;> (first | exact absurd hc Bool.false_ne_true | skip)
  rename_i tg iter body orelse pos
  rcases orelse with _ | ⟨_, _⟩ <;> (first | exact absurd hc Bool.false_ne_true | skip)
  exact ⟨tg, iter, body, pos, rfl, hc⟩
omit hF in
theorem inv_whl (t : IB) (b : List IS) {st : Stmt} (hc : chkS S N sc (.whl t b) st = true) : ∃ (te : Expr) (body : List Stmt) (pos : Pos), st = .While te body [] pos ∧ (chkB S N sc t te && chkSs S N sc b body) = true := by
  cases st <;> (first | exact absurd hc Bool.false_ne_true | skip)
  rename_i te body orelse pos
  rcases orelse with _ | ⟨_, _⟩ <;> (first | exact absurd hc Bool.false_ne_true | skip)
  exact ⟨te, body, pos, rfl, hc⟩
omit hF in
theorem inv_pas  {st : Stmt} (hc : chkS S N sc (.pas ) st = true) : ∃ (pos : Pos), st = .Pass pos := by
  cases st <;> (first | exact absurd hc Bool.false_ne_true | skip)
  rename_i pos
  exact ⟨pos, rfl⟩
omit hF in
theorem inv_brk  {st : Stmt} (hc : chkS S N sc (.brk ) st = true) : ∃ (pos : Pos), st = .Break pos := by
  cases st <;> (first | exact absurd hc Bool.false_ne_true | skip)
  rename_i pos
  exact ⟨pos, rfl⟩
omit hF in
theorem inv_cnt  {st : Stmt} (hc : chkS S N sc (.cnt ) st = true) : ∃ (pos : Pos), st = .Continue pos := by
  cases st <;> (first | exact absurd hc Bool.false_ne_true | skip)
  rename_i pos
  exact ⟨pos, rfl⟩
mutual
theorem ex_ok : (i : IS) → ∀ {X : Cx} {sc : Scope} {st : Stmt} {env : List SV} {o : Out}, Cok G k N sc X → HP X → chkS S N sc i st = true → ex S n i env = some o → ∀ {σ : L2.St} {F H : Hp}, Sta G m F0 H0 F H σ env → ∀ {Dd : Ends}, EndsOk G m F0 H0 F Dd o → WS X st Dd σ H
  | .asg j e, X, sc, st, env, o, c, hp, hc, he, σ, F, H, s, Dd, q => by
    have hinv := inv_asg j e hc
    clear hc
    obtain ⟨x, py, v, pos, rfl, hc⟩ := hinv
    simp only [Bool.and_eq_true, decide_eq_true_eq, Bool.not_eq_true'] at hc
    obtain ⟨⟨⟨hN, hl⟩, hcm⟩, hv⟩ := hc
    simp only [ex] at he
    split at he
    · rename_i hi
      rw [Option.map_eq_some_iff] at he
      obtain ⟨d, h1, rfl⟩ := he
      refine WS.of (ps_set (by rw [c.eN]; exact c.nd) (by rw [c.eN]; exact hN) (by rw [c.eS]; exact (sto_pr hp.2 hl).1) WE.pe (sw_no hcm) (.inl (hp.2 _))) ?_
      refine ev_ok hF e c hv h1 s.r s.n.fh _ fun x F1 H1 n1 r1 => q _ F1 H1 ((s.new n1).put r1.rep) n1.ff
    · cases he
  | .asO j e, X, sc, st, env, o, c, hp, hc, he, σ, F, H, s, Dd, q => by
    have hinv := inv_asO j e hc
    clear hc
    obtain ⟨x, py, v, pos, rfl, hc⟩ := hinv
    rw [Bool.and_eq_true, Bool.and_eq_true, Bool.and_eq_true, Bool.and_eq_true, decide_eq_true_eq] at hc
    obtain ⟨⟨⟨⟨hN, hl⟩, hne⟩, hv⟩, hm⟩ := hc
    simp only [ex] at he
    split at he
    · rename_i hi
      rw [Option.map_eq_some_iff] at he
      obtain ⟨d, h1, rfl⟩ := he
      have fin : ∀ (a : Addr) (ob : HO) (F' H' : Hp), New F H F' H' → H a = none → F' a = none → H' a = some ob → Cell G F' ob d → Dd.nx (σ.set j (some (.ref a))) H' := fun a ob F' H' n1 g1 g2 g3 g4 => q _ F' H' (s.putO n1 g1 g2 g3 g4 hi) n1.ff
      have plain : cmpE v = false → WS X (.Assign [.Name x py] v pos) Dd σ H := fun hcm =>
        WS.of (ps_set (by rw [c.eN]; exact c.nd) (by rw [c.eN]; exact hN) (by rw [c.eS]; exact (sto_pr hp.2 hl).1) WE.pe (sw_no hcm) (.inl (hp.2 _)))
          (evO_ok hF c hne hv h1 s.r s.n.fh _ fin)
      cases e <;> first
        | exact absurd hne Bool.false_ne_true
        | skip
      · cases v <;> (try simp [chk] at hv)
        exact plain rfl
      · obtain ⟨elt, tg, iter, fs, scope, qpos, ds, out, f, rfl, rfl, g1, g2, g3, g4, g5, g6, g7, g8⟩ := lc_hyps hF c hv h1 s.r s.n.fh
        rw [Bool.or_eq_true] at hm
        rcases hm with hm | hm
        · have hsw : swapsWith (.ListComp elt [⟨tg, iter, fs, 0⟩] scope qpos) (some (.Name x py)) pos.line X.env = pure false := sw_cell (by rw [c.eS]; exact celB_ok hm)
          exact WS.of (ps_set (by rw [c.eN]; exact c.nd) (by rw [c.eN]; exact hN) (by rw [c.eS]; exact (sto_pr hp.2 hl).1) WE.pe hsw (.inl (hp.2 _)))
            (evO_ok hF c hne hv h1 s.r s.n.fh _ fin)
        · simp only [Bool.and_eq_true, Bool.not_eq_true'] at hm
          have hlo := hm.1.1.1
          have hk : X.env.scope.kind = .function := by
            rw [c.eS]
            have hm1 := hm.1.1.2
            unfold kindF at hm1
            split at hm1
            · assumption
            · cases hm1
          exact s_lc c g1 g2 g3 g4 g5 s.r g6 g7 g8 hN hlo (sw_true hk (by rw [c.eS]; exact locB_ok hlo) (by simpa using hm.1.2) (by simpa using hm.2)) fin
    · cases he
  | .unp t e, X, sc, st, env, o, c, hp, hc, he, σ, F, H, s, Dd, q => by
    have hinv := inv_unp t e hc
    clear hc
    obtain ⟨tg, v, pos, rfl, hc⟩ := hinv
    simp only [Bool.and_eq_true, decide_eq_true_eq, Bool.not_eq_true'] at hc
    obtain ⟨⟨⟨⟨htp, ht⟩, hcm⟩, hit⟩, hv⟩ := hc
    simp only [ex, Option.bind_eq_some_iff, Option.map_eq_some_iff] at he
    obtain ⟨d, h1, env1, h2, rfl⟩ := he
    refine WS.of (ps_asg WE.pe (pgT c (fun _ => sto_pr hp.2) ht) (swS_no hcm) (swT_no hit htp) (by rw [each_cons (chkT_tg ht)]; rfl)) ?_
    refine ev_ok hF e c hv h1 s.r s.n.fh _ fun x F1 H1 n1 r1 => ?_
    rw [c.eK]
    have s1 := s.new n1
    refine bind_sta s1 h2 r1.rep fun σ1 s2 => q σ1 F1 H1 s2 n1.ff
  | .aug j e, X, sc, st, env, o, c, hp, hc, he, σ, F, H, s, Dd, q => by
    have hinv := inv_aug j e hc
    clear hc
    obtain ⟨x, py, v, pos, rfl, hc⟩ := hinv
    simp only [Bool.and_eq_true, decide_eq_true_eq, Bool.not_eq_true'] at hc
    obtain ⟨⟨hN, hl⟩, hv⟩ := hc
    simp only [ex] at he
    split at he
    · rename_i a b e1 h1
      cases he
      refine WS.of (ps_aug (by rw [c.eN]; exact c.nd) (by rw [c.eN]; exact hN) (by rw [c.eS]; exact (sto_pr hp.2 hl).1) WE.pe ip_add (.inl (hp.2 _))) ?_
      obtain ⟨x, p1, p2⟩ := s.r.sh j _ e1
      cases p2
      refine ⟨_, p1, ev_ok hF e c hv h1 s.r s.n.fh _ fun y F1 H1 n1 r1 => ?_⟩
      have ey := r1.rep
      cases ey
      exact ⟨a, b, rfl, rfl, q _ F1 H1 ((s.new n1).put (.int _)) n1.ff⟩
    · cases he
  | .app j e, X, sc, st, env, o, c, hp, hc, he, σ, F, H, s, Dd, q => by
    have hinv := inv_app j e hc
    clear hc
    obtain ⟨x, m, py, ap, cp, pos, v, rfl, hc⟩ := hinv
    simp only [Bool.and_eq_true, decide_eq_true_eq] at hc
    obtain ⟨⟨⟨⟨⟨hN, hvis⟩, hok⟩, hm⟩, hln⟩, hv⟩ := hc
    have em : m = "append" := of_decide_eq_true hm
    subst em
    obtain ⟨o1, o2, _⟩ := okN_ok hok
    simp only [ex] at he
    split at he
    · rename_i ds d e1 h1
      split at he
      · rename_i hlen
        cases he
        have hs1 := chk_star hv
        refine WS.of (ps_expr (pe_bm PySem.F.plainAttrs_list PySem.F.slot_list_append PySem.F.type_list_append mt_append (pe_var (i := j) (by rw [c.eN]; exact hN) (by rw [c.eS]; exact visB_ok hvis) o1 o2) (pa_cons WE.pe pa_nil (star_cons hs1)) rfl (by rw [star_cons hs1]; rfl) (by simpa using hln) (star_cons hs1) rfl)) ?_
        obtain ⟨a, ob, p1, p2, p3, p4⟩ := s.r.ow j _ e1
        cases ob <;> first
          | exact (show False from p4).elim
          | skip
        rename_i vs
        refine ⟨.ref a, p1, .inl ⟨rfl, vs, .inl (.inl p3)⟩, ev_ok hF e c hv h1 s.r s.n.fh _ fun y F1 H1 n1 r1 => ?_⟩
        have p3' := n1.hh _ _ p3
        have p4' : RepL G F vs ds := p4
        refine ⟨a, vs, y, rfl, rfl, p3', by rw [p4'.length, sizeLine_eq]; omega, ?_⟩
        exact q σ F1 _ ((s.new n1).mut e1 p1 p3' (show RepL G F1 (vs ++ [y]) (ds ++ [d]) from (p4'.mono n1.ff).append (.cons r1.rep .nil))) n1.ff
      · cases he
    · cases he
  | .ext j e, X, sc, st, env, o, c, hp, hc, he, σ, F, H, s, Dd, q => by
    have hinv := inv_ext j e hc
    clear hc
    obtain ⟨x, m, py, ap, cp, pos, v, rfl, hc⟩ := hinv
    simp only [Bool.and_eq_true, decide_eq_true_eq] at hc
    obtain ⟨⟨⟨⟨⟨⟨hN, hvis⟩, hok⟩, hm⟩, hln⟩, hne⟩, hv⟩ := hc
    have em : m = "extend" := of_decide_eq_true hm
    subst em
    obtain ⟨o1, o2, _⟩ := okN_ok hok
    simp only [ex] at he
    split at he
    · rename_i ds es e1 h1
      split at he
      · rename_i hlen
        cases he
        have hs1 := chk_star hv
        refine WS.of (ps_expr (pe_bm PySem.F.plainAttrs_list PySem.F.slot_list_extend PySem.F.type_list_extend mt_extend (pe_var (i := j) (by rw [c.eN]; exact hN) (by rw [c.eS]; exact visB_ok hvis) o1 o2) (pa_cons WE.pe pa_nil (star_cons hs1)) rfl (by rw [star_cons hs1]; rfl) (by simpa using hln) (star_cons hs1) rfl)) ?_
        obtain ⟨a, ob, p1, p2, p3, p4⟩ := s.r.ow j _ e1
        cases ob <;> first
          | exact (show False from p4).elim
          | skip
        rename_i vs
        refine ⟨.ref a, p1, .inl ⟨rfl, vs, .inl (.inl p3)⟩, evO_ok hF c hne hv h1 s.r s.n.fh _ fun b ob F1 H1 n1 g1 g2 g3 g4 => ?_⟩
        cases ob <;> first
          | exact (show False from g4).elim
          | skip
        rename_i ws
        have p3' := n1.hh _ _ p3
        have p4' : RepL G F vs ds := p4
        have g4' : RepL G F1 ws es := g4
        refine ⟨a, b, vs, ws, rfl, rfl, p3', g3, by rw [p4'.length, g4'.length, sizeLine_eq]; omega, ?_⟩
        exact q σ F1 _ ((s.new n1).mut e1 p1 p3' (show RepL G F1 (vs ++ ws) (ds ++ es) from (p4'.mono n1.ff).append g4')) n1.ff
      · cases he
    · cases he
  | .sfd j kf e, X, sc, st, env, o, c, hp, hc, he, σ, F, H, s, Dd, q => by
    have hinv := inv_sfd j kf e hc
    clear hc
    obtain ⟨x, f, py, ap, pos, v, rfl, hc⟩ := hinv
    rw [Bool.and_eq_true, Bool.and_eq_true, Bool.and_eq_true, Bool.and_eq_true, Bool.and_eq_true, decide_eq_true_eq, Bool.not_eq_true'] at hc
    obtain ⟨⟨⟨⟨⟨hN, hvis⟩, hok⟩, hf⟩, hcm⟩, hv⟩ := hc
    obtain ⟨o1, o2, _⟩ := okN_ok hok
    simp only [ex] at he
    split at he
    · rename_i cl fs c' g d e1 h2 h1
      rw [h2] at hf
      have ef : f = g := of_decide_eq_true hf
      subst ef
      split at he
      · rename_i hcond
        obtain ⟨ec, hlen⟩ := hcond
        subst ec
        cases he
        refine WS.of (ps_fld (pe_var (i := j) (by rw [c.eN]; exact hN) (by rw [c.eS]; exact visB_ok hvis) o1 o2) WE.pe (sw_no hcm)) ?_
        obtain ⟨p1, p2, ob, p3, p4⟩ := s.r.me j _ e1
        cases ob <;> first
          | exact (show False from p4).elim
          | skip
        rename_i C dx vs
        obtain ⟨q1, q2, q3⟩ := (show C = G.cls cl ∧ vs.map (·.1) = fs.map (·.1) ∧ RepL G F (vs.map (·.2)) (fs.map (·.2)) from p4)
        subst q1
        refine ev_ok hF e c hv h1 s.r s.n.fh _ fun y F1 H1 n1 r1 => ?_
        have p3' := n1.hh _ _ p3
        have hl : vs.length = fs.length := by
          have := congrArg List.length q2
          rwa [List.length_map, List.length_map] at this
        obtain ⟨w1, w2⟩ := hF.fl kf cl f h2
        refine ⟨.ref m, p1, m, _, dx, vs, rfl, p3', by rw [c.eK]; exact w1, by rw [c.eK]; exact w2, by rw [hl]; exact hlen, ?_⟩
        obtain ⟨z1, z2⟩ := putD_ok (f := f) r1.rep q2 (q3.mono n1.ff)
        exact q σ F1 _ ((s.new n1).mutM e1 (show Cell G F1 (.ins (G.cls cl) dx (putF f y vs)) (.obj cl (putD f d fs)) from ⟨rfl, z1, z2⟩)) n1.ff
      · cases he
    · cases he
  | .ret e, X, sc, st, env, o, c, hp, hc, he, σ, F, H, s, Dd, q => by
    have hinv := inv_ret e hc
    clear hc
    obtain ⟨v, pos, rfl, hc⟩ := hinv
    simp only [ex, Option.map_eq_some_iff] at he
    obtain ⟨d, h1, rfl⟩ := he
    obtain ⟨F', s', l'⟩ := s.frz
    refine WS.of (ps_ret WE.pe) ?_
    exact ev_ok hF e c hc h1 s'.r s'.n.fh _ fun x F1 H1 n1 r1 => q x F1 H1 (s'.n.trans n1) r1.rep
  | .retN, X, sc, st, env, o, c, hp, hc, he, σ, F, H, s, Dd, q => by
    have hinv := inv_retN hc
    clear hc
    obtain ⟨pos, rfl⟩ := hinv
    simp only [ex, Option.some.injEq] at he
    subst he
    exact WS.of ps_retN (q .non F H s.n .non)
  | .iff t a b, X, sc, st, env, o, c, hp, hc, he, σ, F, H, s, Dd, q => by
    have hinv := inv_iff t a b hc
    clear hc
    obtain ⟨te, xa, xb, pos, rfl, hc⟩ := hinv
    rw [Bool.and_eq_true, Bool.and_eq_true] at hc
    obtain ⟨⟨ht, ha⟩, hb⟩ := hc
    simp only [ex, Option.bind_eq_some_iff] at he
    obtain ⟨kk, h1, h2⟩ := he
    refine WS.of (ps_if WT.pt WSs.pss WSs.pss) (evT_ok hF t c ht h1 s.r s.n.fh _ fun F1 H1 n1 => ?_)
    cases kk with
    | true => exact exs_ok a c hp ha h2 (s.new n1) (q.mono n1.ff)
    | false => exact exs_ok b c hp hb h2 (s.new n1) (q.mono n1.ff)
  | .fr t it b, X, sc, st, env, o, c, hp, hc, he, σ, F, H, s, Dd, q => by
    have hinv := inv_fr t it b hc
    clear hc
    obtain ⟨tg, iter, body, pos, rfl, hc⟩ := hinv
    rw [Bool.and_eq_true, Bool.and_eq_true] at hc
    obtain ⟨⟨ht, hit⟩, hb⟩ := hc
    simp only [ex, Option.bind_eq_some_iff] at he
    obtain ⟨ds, h1, h2⟩ := he
    split at h2
    · rename_i hl
      refine WS.of (ps_for hp.1 c.calm WI.pi (pgT c (fun _ => sto_pr hp.2) ht) WSs.pss (chkI_set hit)) (evI_ok hF it c hit h1 s.r s.n.fh _ fun J F1 H1 n1 wk => ?_)
      refine ⟨fun i mm σ' H' => mm = ds.length - i ∧ i ≤ ds.length ∧ ∃ env' F', Sta G m F0 H0 F' H' σ' env' ∧ Le F1 F' ∧ exFor (exs S n b) t (ds.drop i) env' = some o,
        ⟨ds.length, by simp, Nat.zero_le _, env, F1, s.new n1, Le.refl _, by rw [List.drop_zero]; exact h2⟩, ?_⟩
      rintro i mm σ' H' ⟨rfl, hi, env', F', s', l', hx⟩
      obtain ⟨wgo, wstop, wyld⟩ := wk F' H' s'.n.fh ⟨l', fun z => by cases z⟩
      by_cases hlt : i < ds.length
      · have hd : ds[i]? = some ds[i] := List.getElem?_eq_getElem hlt
        have edrop : ds.drop i = ds[i] :: ds.drop (i + 1) := List.drop_eq_getElem_cons hlt
        rw [edrop] at hx
        simp only [exFor, Option.bind_eq_some_iff] at hx
        obtain ⟨env1, hb1, o1, hbody, hrest⟩ := hx
        refine .inr ⟨wgo i hlt, fun σ2 H2 => ∃ env2 F2, Sta G m F0 H0 F2 H2 σ2 env2 ∧ Le F1 F2 ∧ exFor (exs S n b) t (ds.drop (i + 1)) env2 = some o, fun σ2 H2 ⟨env2, F2, z1, z2, z3⟩ => ⟨ds.length - (i + 1), by omega, rfl, hlt, env2, F2, z1, z2, z3⟩, fun x H2 y => ?_⟩
        obtain ⟨F2, n2, r2⟩ := wyld i x H2 ds[i] hd y
        rw [c.eK]
        refine bind_sta (s'.new n2) hb1 r2 fun σ3 s3 => ?_
        refine exs_ok b c hp hb hbody s3 ?_
        cases o1 with
        | nx e2 => exact fun σ4 F4 H4 s4 l4 => ⟨e2, F4, s4, (l'.trans n2.ff).trans l4, hrest⟩
        | ct e2 => exact fun σ4 F4 H4 s4 l4 => ⟨e2, F4, s4, (l'.trans n2.ff).trans l4, hrest⟩
        | bk e2 =>
          cases hrest
          exact fun σ4 F4 H4 s4 l4 => q σ4 F4 H4 s4 (((n1.ff.trans l').trans n2.ff).trans l4)
        | rt d =>
          cases hrest
          exact q
      · have e : i = ds.length := by omega
        subst e
        rw [List.drop_length] at hx
        simp only [exFor, Option.some.injEq] at hx
        subst hx
        exact .inl ⟨wstop, q σ' F' H' s' (n1.ff.trans l')⟩
    · cases h2
  | .whl t b, X, sc, st, env, o, c, hp, hc, he, σ, F, H, s, Dd, q => by
    have hinv := inv_whl t b hc
    clear hc
    obtain ⟨te, body, pos, rfl, hc⟩ := hinv
    rw [Bool.and_eq_true] at hc
    obtain ⟨ht, hb⟩ := hc
    simp only [ex] at he
    refine WS.of (ps_while hp.1 WT.pt WSs.pss) ?_
    refine ⟨fun mm σ' H' => ∃ env' F', Sta G m F0 H0 F' H' σ' env' ∧ Le F F' ∧ exWh (evT S t) (exs S n b) mm env' = some o, ⟨n, env, F, s, Le.refl _, he⟩, ?_⟩
    rintro mm σ' H' ⟨env', F', s', l', hx⟩
    cases mm with
    | zero => simp [exWh] at hx
    | succ mm =>
      simp only [exWh, Option.bind_eq_some_iff] at hx
      obtain ⟨kk, h1, h2⟩ := hx
      refine evT_ok hF t c ht h1 s'.r s'.n.fh _ fun F1 H1 n1 => ?_
      cases kk with
      | false =>
        simp only [Bool.false_eq_true, if_false, Option.some.injEq] at h2
        subst h2
        exact q σ' F1 H1 (s'.new n1) (l'.trans n1.ff)
      | true =>
        simp only [if_true, Option.bind_eq_some_iff] at h2
        obtain ⟨o1, hbody, hrest⟩ := h2
        refine ⟨fun σ2 H2 => ∃ env2 F2, Sta G m F0 H0 F2 H2 σ2 env2 ∧ Le F F2 ∧ exWh (evT S t) (exs S n b) mm env2 = some o, fun σ2 H2 z => ⟨mm, Nat.lt_succ_self mm, z⟩, ?_⟩
        refine exs_ok b c hp hb hbody (s'.new n1) ?_
        cases o1 with
        | nx e2 => exact fun σ4 F4 H4 s4 l4 => ⟨e2, F4, s4, (l'.trans n1.ff).trans l4, hrest⟩
        | ct e2 => exact fun σ4 F4 H4 s4 l4 => ⟨e2, F4, s4, (l'.trans n1.ff).trans l4, hrest⟩
        | bk e2 =>
          cases hrest
          exact fun σ4 F4 H4 s4 l4 => q σ4 F4 H4 s4 ((l'.trans n1.ff).trans l4)
        | rt d =>
          cases hrest
          exact q
  | .pas, X, sc, st, env, o, c, hp, hc, he, σ, F, H, s, Dd, q => by
    have hinv := inv_pas hc
    clear hc
    obtain ⟨pos, rfl⟩ := hinv
    simp only [ex, Option.some.injEq] at he
    subst he
    exact WS.of ps_pass (q σ F H s (Le.refl _))
  | .brk, X, sc, st, env, o, c, hp, hc, he, σ, F, H, s, Dd, q => by
    have hinv := inv_brk hc
    clear hc
    obtain ⟨pos, rfl⟩ := hinv
    simp only [ex, Option.some.injEq] at he
    subst he
    exact WS.of ps_break (q σ F H s (Le.refl _))
  | .cnt, X, sc, st, env, o, c, hp, hc, he, σ, F, H, s, Dd, q => by
    have hinv := inv_cnt hc
    clear hc
    obtain ⟨pos, rfl⟩ := hinv
    simp only [ex, Option.some.injEq] at he
    subst he
    exact WS.of ps_continue (q σ F H s (Le.refl _))
  | .nev, X, sc, st, env, o, c, hp, hc, he, σ, F, H, s, Dd, q => by simp [ex] at he
theorem exs_ok : (is : List IS) → ∀ {X : Cx} {sc : Scope} {sts : List Stmt} {env : List SV} {o : Out}, Cok G k N sc X → HP X → chkSs S N sc is sts = true → exs S n is env = some o → ∀ {σ : L2.St} {F H : Hp}, Sta G m F0 H0 F H σ env → ∀ {Dd : Ends}, EndsOk G m F0 H0 F Dd o → WSs X sts Dd σ H
  | [], X, sc, sts, env, o, c, hp, hc, he, σ, F, H, s, Dd, q => by
    cases sts with
    | nil =>
      simp only [exs, Option.some.injEq] at he
      subst he
      exact WSs.of pss_nil (q σ F H s (Le.refl _))
    | cons _ _ => simp [chkSs] at hc
  | i :: is, X, sc, sts, env, o, c, hp, hc, he, σ, F, H, s, Dd, q => by
    cases sts with
    | nil => simp [chkSs] at hc
    | cons st sts =>
      simp only [chkSs, Bool.and_eq_true] at hc
      simp only [exs, Option.bind_eq_some_iff] at he
      obtain ⟨o1, h1, h2⟩ := he
      refine WSs.of (pss_cons WS.ps WSs.pss) ?_
      refine ex_ok i c hp hc.1 h1 s ?_
      cases o1 with
      | nx e2 => exact fun σ4 F4 H4 s4 l4 => exs_ok is c hp hc.2 h2 s4 (q.mono l4)
      | rt d =>
        cases h2
        exact q
      | bk e2 =>
        cases h2
        exact q
      | ct e2 =>
        cases h2
        exact q
end
end
end EL

set_option Elab.async false
set_option linter.all false
set_option maxRecDepth 100000
set_option maxHeartbeats 4000000
/-! defs: what a def gives by its shape -/
namespace EL
open PySem L2
/-- a def by its shape: np parameters, nN names in all -/
def runF (S : Sig) (n np nN : Nat) (body : List IS) (ds : List D) : Option D :=
  (exs S n body (ds.map .sh ++ List.replicate (nN - np) .un)).bind fun o => match o with | .rt d => some d | .nx _ => some .non | _ => none
/-- an __init__ by its shape: np parameters behind self, nN names in all, the object of the c-th class -/
def runI (S : Sig) (n np nN c : Nat) (body : List IS) (ds : List D) : Option D :=
  (exs S n body (SV.me (.obj c []) :: (ds.map .sh ++ List.replicate (nN - (np + 1)) .un))).bind fun o => match o with | .nx env => (match env[0]? with | some (SV.me d) => some d | _ => none) | _ => none
section
variable {G : Gl0} {k : Nat} {N ps : List Str} {S : Sig} {n : Nat} {body : List IS} {st : Stmt} {x qual : Str} {f : Addr} {fd : FuncData}
theorem env_at {α : Type} (l : List α) (g : α → SV) (j : Nat) : ∀ i, (l.map g ++ List.replicate j .un)[i]? = if i < l.length then (l[i]?).map g else if i < l.length + j then some .un else none := fun i => by
  by_cases h : i < l.length
  · rw [if_pos h, List.getElem?_append_left (by rw [List.length_map]; exact h), List.getElem?_map]
  · rw [if_neg h, List.getElem?_append_right (by rw [List.length_map]; omega), List.length_map]
    by_cases h2 : i < l.length + j
    · rw [if_pos h2, List.getElem?_replicate, if_pos (by omega)]
    · rw [if_neg h2, List.getElem?_replicate, if_neg (by omega)]
theorem start_env {m : Addr} {F H : Hp} {vs : List V} {ds : List D} {j : Nat} (r : RepL G F vs ds) : EnvR G m F H (vs.map some ++ List.replicate j none) (ds.map .sh ++ List.replicate j .un) := by
  have el := r.length
  have noo : ∀ {i : Nat} {d : D}, (ds.map SV.sh ++ List.replicate j .un)[i]? = some (.ow d) → False := fun {i d} h => by
    rw [env_at] at h
    split at h
    · rw [Option.map_eq_some_iff] at h
      obtain ⟨_, _, z⟩ := h
      cases z
    · split at h <;> cases h
  have nom : ∀ {i : Nat} {d : D}, (ds.map SV.sh ++ List.replicate j .un)[i]? = some (.me d) → False := fun {i d} h => by
    rw [env_at] at h
    split at h
    · rw [Option.map_eq_some_iff] at h
      obtain ⟨_, _, z⟩ := h
      cases z
    · split at h <;> cases h
  refine ⟨by simp [el], fun i d h => ?_, fun i d h => (noo h).elim, fun i i' a d e h => (noo h).elim, fun i d h => (nom h).elim, fun i i' d e h => (nom h).elim, fun i i' d e h => (nom h).elim⟩
  rw [env_at] at h
  split at h
  · rename_i hi
    rw [Option.map_eq_some_iff] at h
    obtain ⟨d', h1, h2⟩ := h
    cases h2
    obtain ⟨v, h3, h4⟩ := r.get h1
    refine ⟨v, ?_, h4⟩
    rw [List.getElem?_append_left (by rw [List.length_map, el]; exact hi), List.getElem?_map, h3]
    rfl
  · split at h <;> cases h
theorem fn_ok (Fn : Fun G.K x qual st f fd) (Sc : FnScope N ps (defScope st)) (hF : Facts G k S) (hc : chkSs S N (defScope st) body (defBody st) = true) :
    FnOk G.P G.w G.K G.mg G.base CX0 (k + 1) f fd ps (spOf G ps.length (runF S n ps.length N.length body)) := by
  refine Fn.ok Sc (fun vs H Q E h => ?_) (fun cdv A outer s H vs Q E hr h => ?_)
  · obtain ⟨F, ds, d, _, r, hl, _⟩ := h
    rw [r.length, hl]
  · obtain ⟨F, ds, d, l, r, hl, hs, q⟩ := h
    refine ⟨WSs (cxOf CX0 G.P G.w G.K G.mg G.base N qual (defScope st) f cdv A outer s H E).nox (defBody st), WSs.pss, ?_⟩
    have c : Cok G k N (defScope st) (cxOf CX0 G.P G.w G.K G.mg G.base N qual (defScope st) f cdv A outer s H E).nox := ⟨Sc.nd, rfl, rfl, rfl, rfl, rfl, rfl, rfl, rfl, hr⟩
    unfold runF at hs
    rw [Option.bind_eq_some_iff] at hs
    obtain ⟨o, h1, h2⟩ := hs
    have el : vs.length = ps.length := by rw [r.length, hl]
    have s0 : Sta G 0 F H F H (L2.start N vs) (ds.map .sh ++ List.replicate (N.length - ps.length) .un) := by
      refine ⟨New.refl l, ?_, fun i d a h => ?_, fun i d h => ?_⟩
      · unfold L2.start
        rw [el]
        exact start_env r
      · rw [env_at] at h
        split at h
        · rw [Option.map_eq_some_iff] at h
          obtain ⟨_, _, z⟩ := h
          cases z
        · split at h <;> cases h
      · rw [env_at] at h
        split at h
        · rw [Option.map_eq_some_iff] at h
          obtain ⟨_, _, z⟩ := h
          cases z
        · split at h <;> cases h
    refine exs_ok hF body c ⟨PassesOwn.never, fun _ => rfl⟩ hc h1 s0 ?_
    cases o with
    | rt d' =>
      cases h2
      exact fun v F' H' n' r' => q v F' H' n' r'
    | nx env =>
      cases h2
      exact fun σ F' H' s' _ => q .non F' H' s'.n .non
    | bk env => cases h2
    | ct env => cases h2
theorem init_ok {cl : Nat} {ps' : List Str} (hps : ps = ("self" : Str) :: ps') (Fn : Fun G.K x qual st f fd) (Sc : FnScope N ps (defScope st)) (hF : Facts G k S) (hc : chkSs S N (defScope st) body (defBody st) = true) :
    FnOk G.P G.w G.K G.mg G.base CX0 (k + 1) f fd ps (spIn G cl ps'.length (runI S n ps'.length N.length cl body)) := by
  refine Fn.ok Sc (fun vs H Q E h => ?_) (fun cdv A outer s H vs Q E hr h => ?_)
  · obtain ⟨x, dx, ws, F, ds, fs, rfl, _, _, _, r, hl, _⟩ := h
    rw [hps, List.length_cons, List.length_cons, r.length, hl]
  · obtain ⟨m, dx, ws, F, ds, fs, rfl, hx, fx, l, r, hl, hs, q⟩ := h
    refine ⟨WSs (cxOf CX0 G.P G.w G.K G.mg G.base N qual (defScope st) f cdv A outer s H E).nox (defBody st), WSs.pss, ?_⟩
    have c : Cok G k N (defScope st) (cxOf CX0 G.P G.w G.K G.mg G.base N qual (defScope st) f cdv A outer s H E).nox := ⟨Sc.nd, rfl, rfl, rfl, rfl, rfl, rfl, rfl, rfl, hr⟩
    unfold runI at hs
    rw [Option.bind_eq_some_iff] at hs
    obtain ⟨o, h1, h2⟩ := hs
    have el : (V.ref m :: ws).length = ps'.length + 1 := by rw [List.length_cons, r.length, hl]
    let H0 : Hp := fun a => if a = m then none else H a
    have l0 : Le H0 H := fun a u e => by
      have e : (if a = m then none else H a) = some u := e
      split at e
      · cases e
      · exact e
    have h0m : H0 m = none := if_pos rfl
    have n0 : New F H0 F H := ⟨.refl _, l0, l, fun a h e => absurd e h⟩
    have R := start_env (m := m) (H := H) (j := N.length - (ps'.length + 1)) r
    have s0 : Sta G m F H0 F H (L2.start N (.ref m :: ws)) (SV.me (.obj cl []) :: (ds.map .sh ++ List.replicate (N.length - (ps'.length + 1)) .un)) := by
      have noo : ∀ {i : Nat} {d : D}, (SV.me (.obj cl []) :: (ds.map SV.sh ++ List.replicate (N.length - (ps'.length + 1)) .un))[i]? = some (SV.ow d) → False := fun {i d} h => by
        cases i with
        | zero => cases h
        | succ i =>
          rw [List.getElem?_cons_succ] at h
          obtain ⟨a, ob, _, _, h3, h4⟩ := R.ow i d h
          rw [env_at] at h
          split at h
          · rw [Option.map_eq_some_iff] at h
            obtain ⟨_, _, z⟩ := h
            cases z
          · split at h <;> cases h
      have nom : ∀ {i : Nat} {d : D}, (SV.me (.obj cl []) :: (ds.map SV.sh ++ List.replicate (N.length - (ps'.length + 1)) .un))[i]? = some (SV.me d) → i = 0 := fun {i d} h => by
        cases i with
        | zero => rfl
        | succ i =>
          rw [List.getElem?_cons_succ, env_at] at h
          split at h
          · rw [Option.map_eq_some_iff] at h
            obtain ⟨_, _, z⟩ := h
            cases z
          · split at h <;> cases h
      refine ⟨n0, ⟨?_, fun i d h => ?_, fun i d h => (noo h).elim, fun i i' a d e h => (noo h).elim, fun i d h => ?_, fun i i' d e h1 h2 => (noo h2).elim, fun i i' d e h1 h2 => (nom h1).trans (nom h2).symm⟩, fun i d a h => (noo h).elim, fun i d h => h0m⟩
      · unfold L2.start
        rw [el]
        simp [r.length]
      · cases i with
        | zero => cases h
        | succ i =>
          obtain ⟨v, h1, h2⟩ := R.sh i d h
          refine ⟨v, ?_, h2⟩
          unfold L2.start
          rw [el]
          exact h1
      · have e := nom h
        subst e
        have ed : SV.me (.obj cl []) = .me d := Option.some.inj h
        cases ed
        exact ⟨rfl, fx, _, hx, rfl, rfl, .nil⟩
    refine exs_ok hF body c ⟨PassesOwn.never, fun _ => rfl⟩ hc h1 s0 ?_
    cases o with
    | rt d' => cases h2
    | nx env =>
      simp only at h2
      split at h2
      · rename_i d he
        cases h2
        refine fun σ F' H' s' _ => ?_
        obtain ⟨_, p2, ob, p3, p4⟩ := s'.r.me 0 _ he
        refine q F' H' ob s'.n.ff (fun a u na e => ?_) s'.n.fh (fun a h e na => ?_) p2 p3 p4
        · refine s'.n.hh a u ?_
          show (if a = m then none else H a) = some u
          rw [if_neg na]
          exact e
        · have z := s'.n.fr a h e
          have z : (if a = m then none else H a) = none := z
          rw [if_neg na] at z
          exact z
      · cases h2
    | bk env => cases h2
    | ct env => cases h2
end
end EL

set_option Elab.async false
set_option linter.all false
set_option maxRecDepth 100000
set_option maxHeartbeats 4000000
/-! facts put together -/
namespace EL
open PySem L2
theorem at_nil {α : Type} {P : α → Prop} : ∀ (i : Nat) (f : α), ([] : List α)[i]? = some f → P f := fun i f h => by simp at h
theorem at_cons {α : Type} {P : α → Prop} {x : α} {l : List α} (h : P x) (t : ∀ (i : Nat) (f : α), l[i]? = some f → P f) : ∀ (i : Nat) (f : α), (x :: l)[i]? = some f → P f := fun i f e => by
  cases i with
  | zero =>
    rw [List.getElem?_cons_zero] at e
    cases e
    exact h
  | succ i => exact t i f (by rwa [List.getElem?_cons_succ] at e)
section
variable {G : Gl0} {k : Nat}
theorem vac_fn {f : Addr} {fd : FuncData} {ps : List Str} {n : Nat} : FnOk G.P G.w G.K G.mg G.base CX0 k f fd ps (spOf G n fun _ => none) :=
  ⟨fun vs H Q E h => (by obtain ⟨_, _, _, _, _, _, z, _⟩ := h; cases z), fun A outer s H args us vs Q E hr he hb hv h => (by obtain ⟨_, _, _, _, _, _, z, _⟩ := h; cases z)⟩
theorem vac_in {f : Addr} {fd : FuncData} {ps : List Str} {c n : Nat} : FnOk G.P G.w G.K G.mg G.base CX0 k f fd ps (spIn G c n fun _ => none) :=
  ⟨fun vs H Q E h => (by obtain ⟨_, _, _, _, _, _, _, _, _, _, _, _, z, _⟩ := h; cases z), fun A outer s H args us vs Q E hr he hb hv h => (by obtain ⟨_, _, _, _, _, _, _, _, _, _, _, _, z, _⟩ := h; cases z)⟩
end
example : Room 20 callerA := ⟨rfl, by decide, by decide⟩
end EL

set_option Elab.async false
set_option linter.all false
set_option maxRecDepth 100000
set_option maxHeartbeats 4000000
/-! equations to read meanings by -/
namespace EL
open PySem L2
theorem atI_map {α β : Type} (f : α → β) (l : List α) (i : Int) : atI (l.map f) i = (atI l i).map f := by
  unfold atI
  rw [List.length_map]
  cases ixN l.length i with
  | none => rfl
  | some j =>
    show (l.map f)[j]? = (l[j]?).map f
    rw [List.getElem?_map]
section
variable {α : Type} {a b c d e : α}
theorem at4_0 : atI [a, b, c, d] 0 = some a := rfl
theorem at4_1 : atI [a, b, c, d] 1 = some b := rfl
theorem at4_2 : atI [a, b, c, d] 2 = some c := rfl
theorem at4_3 : atI [a, b, c, d] 3 = some d := rfl
theorem at3_0 : atI [a, b, c] 0 = some a := rfl
theorem at3_1 : atI [a, b, c] 1 = some b := rfl
theorem at3_2 : atI [a, b, c] 2 = some c := rfl
theorem at2_0 : atI [a, b] 0 = some a := rfl
theorem at2_1 : atI [a, b] 1 = some b := rfl
end
section
variable {xs ys : List D} {i j : Int} {s t : Str} {p q : Bool}
theorem ix_t : idxD (.tup xs) (.int i) = atI xs i := rfl
theorem ix_l : idxD (.lst xs) (.int i) = atI xs i := rfl
theorem lt_i : cmpD .Lt (.int i) (.int j) = some (decide (i < j)) := rfl
theorem le_i : cmpD .LtE (.int i) (.int j) = some (decide (i ≤ j)) := rfl
theorem gt_i : cmpD .Gt (.int i) (.int j) = some (decide (j < i)) := rfl
theorem ge_i : cmpD .GtE (.int i) (.int j) = some (decide (j ≤ i)) := rfl
theorem eq_i : cmpD .Eq (.int i) (.int j) = some (decide (i = j)) := by
  show (if SeqAt.shaped (.int i) && SeqAt.shaped (.int j) then some (PyData.eqv (.int i) (.int j)) else none) = _
  rw [if_pos (by rfl)]
  rfl
theorem ne_i : cmpD .NotEq (.int i) (.int j) = some (!decide (i = j)) := by
  show (eqD (.int i) (.int j)).map (!·) = _
  rw [show eqD (.int i) (.int j) = some (decide (i = j)) from eq_i]
  rfl
theorem eq_s (hs : SeqAt.shaped (.str s) = true) (ht : SeqAt.shaped (.str t) = true) : cmpD .Eq (.str s) (.str t) = some (decide (s = t)) := by
  show (if SeqAt.shaped (.str s) && SeqAt.shaped (.str t) then some (PyData.eqv (.str s) (.str t)) else none) = _
  rw [if_pos (by rw [hs, ht]; rfl)]
  show some (s == t) = _
  by_cases h : s = t
  · rw [decide_eq_true h, h]
    simp
  · rw [decide_eq_false h]
    simp [h]
theorem eq_b : cmpD .Eq (.bl p) (.bl q) = some (decide (p = q)) := by
  show (if SeqAt.shaped (.bool p) && SeqAt.shaped (.bool q) then some (PyData.eqv (.bool p) (.bool q)) else none) = _
  rw [if_pos (by rfl)]
  cases p <;> cases q <;> rfl
theorem len_t : bsem .len [.tup xs] = some (.int xs.length) := rfl
theorem len_l : bsem .len [.lst xs] = some (.int xs.length) := rfl
theorem int_i : bsem .int [.int i] = some (.int i) := rfl
theorem abs_i : bsem .abs [.int i] = some (.int (if i < 0 then -i else i)) := rfl
theorem min_i : bsem .min [.int i, .int j] = some (.int (if j < i then j else i)) := rfl
theorem tup_l : bsem .tuple [.lst xs] = some (.tup xs) := rfl
theorem tup_t : bsem .tuple [.tup xs] = some (.tup xs) := rfl
theorem lst_l : bsem .list [.lst xs] = some (.lst xs) := rfl
theorem all_l : bsem .all [.lst xs] = (toBls xs).map fun bs => .bl (bs.all id) := rfl
theorem any_l : bsem .any [.lst xs] = (toBls xs).map fun bs => .bl (bs.any id) := rfl
theorem add_i : binD .Add (.int i) (.int j) = some (.int (i + j)) := rfl
theorem sub_i : binD .Sub (.int i) (.int j) = some (.int (i - j)) := rfl
theorem bls_map {α : Type} (f : α → Bool) (l : List α) : toBls (l.map fun x => .bl (f x)) = some (l.map f) := by
  induction l with
  | nil => rfl
  | cons a r ih => simp [toBls, ih]
theorem ints_map {α : Type} (f : α → Int) (l : List α) : toInts (l.map fun x => .int (f x)) = some (l.map f) := by
  induction l with
  | nil => rfl
  | cons a r ih => simp [toInts, ih]
theorem strs_map {α : Type} (f : α → Str) (l : List α) : toStrs (l.map fun x => .str (f x)) = some (l.map f) := by
  induction l with
  | nil => rfl
  | cons a r ih => simp [toStrs, ih]
end
/-- a comprehension without tests over trees g x gives h x each -/
theorem compL_map {α : Type} {f : D → Option (Option D)} {g h : α → D} : ∀ {l : List α}, (∀ x ∈ l, f (g x) = some (some (h x))) → compL f (l.map g) = some (l.map h)
  | [], _ => rfl
  | x :: l, H => by
    rw [List.map_cons]
    simp only [compL]
    rw [H x List.mem_cons_self, compL_map fun y hy => H y (List.mem_cons_of_mem _ hy)]
    rfl
/-- with a test -/
theorem compL_filter {α : Type} {f : D → Option (Option D)} {g h : α → D} {p : α → Bool} : ∀ {l : List α}, (∀ x ∈ l, f (g x) = some (if p x then some (h x) else none)) → compL f (l.map g) = some ((l.filter p).map h)
  | [], _ => rfl
  | x :: l, H => by
    rw [List.map_cons]
    simp only [compL]
    rw [H x List.mem_cons_self, compL_filter fun y hy => H y (List.mem_cons_of_mem _ hy), List.filter_cons]
    cases p x <;> rfl
section
variable {α : Type} {S : Sig} {br : Bool} {t : IT} {it : II} {ifs : List IB} {e : IE} {own : List (Str × Nat)} {env : List SV} {l : List α} {g h : α → D} {p : α → Bool}
/-- what one turn of a comprehension gives -/
def turnC (S : Sig) (t : IT) (ifs : List IB) (e : IE) (own : List (Str × Nat)) (env : List SV) (d : D) : Option (Option D) :=
  (bindT t d (wipeE env (own.map (·.2)))).bind fun env1 => (evTs S ifs env1).bind fun ok => if ok then (ev S false e env1).map some else some none
theorem lc_filter (hI : evI S true it env = some (l.map g)) (hl : l.length ≤ 100000) (H : ∀ x ∈ l, turnC S t ifs e own env (g x) = some (if p x then some (h x) else none)) : ev S br (.lc t it ifs e own) env = some (.lst ((l.filter p).map h)) := by
  have z := compL_filter (f := turnC S t ifs e own env) H
  unfold ev
  rw [hI]
  show (if (l.map g).length ≤ 100000 then (compL (turnC S t ifs e own env) (l.map g)).map D.lst else none) = _
  rw [if_pos (by rw [List.length_map]; exact hl), z]
  rfl
theorem lc_map (hI : evI S true it env = some (l.map g)) (hl : l.length ≤ 100000) (H : ∀ x ∈ l, turnC S t ifs e own env (g x) = some (some (h x))) : ev S br (.lc t it ifs e own) env = some (.lst (l.map h)) := by
  have z := compL_map (f := turnC S t ifs e own env) H
  unfold ev
  rw [hI]
  show (if (l.map g).length ≤ 100000 then (compL (turnC S t ifs e own env) (l.map g)).map D.lst else none) = _
  rw [if_pos (by rw [List.length_map]; exact hl), z]
  rfl
end
end EL

set_option Elab.async false
set_option linter.all false
set_option maxRecDepth 100000
set_option maxHeartbeats 4000000
/-! meanings put together from the parts' meanings -/
namespace EL
open PySem L2
section
variable {S : Sig} {br : Bool} {env : List SV} {a b c : IE} {es : List IE} {x y z d : D} {ds : List D} {p q : Bool} {i : Nat} {k n : Nat}
theorem r_var (h : env[i]? = some (.sh d)) : ev S br (.var i) env = some d := by unfold ev; rw [h]
theorem r_own (h : env[i]? = some (.ow d)) : ev S true (.var i) env = some d := by unfold ev; rw [h]; rfl
theorem r_me (h : env[i]? = some (.me d)) : ev S true (.var i) env = some d := by unfold ev; rw [h]; rfl
theorem r_int {j : Int} : ev S br (.int j) env = some (.int j) := by unfold ev; rfl
theorem r_str {s : Str} : ev S br (.str s) env = some (.str s) := by unfold ev; rfl
theorem r_bl : ev S br (.bl p) env = some (.bl p) := by unfold ev; rfl
theorem r_con {x : Str} (h : S.con[k]? = some (x, d)) : ev S br (.con k) env = some d := by unfold ev; rw [h]; rfl
theorem r_bin {o : Operator} (h1 : ev S true a env = some x) (h2 : ev S true b env = some y) (h3 : binD o x y = some z) : ev S br (.bin o a b) env = some z := by
  unfold ev
  rw [h1, h2]
  exact h3
theorem r_neg {j : Int} (h1 : ev S true a env = some (.int j)) : ev S br (.neg a) env = some (.int (-j)) := by
  unfold ev
  rw [h1]
theorem r_cmp {o : CmpOp} (h1 : ev S true a env = some x) (h2 : ev S true b env = some y) (h3 : cmpD o x y = some p) : ev S br (.cmp o a b) env = some (.bl p) := by
  unfold ev
  rw [h1, h2]
  show (cmpD o x y).map D.bl = _
  rw [h3]
  rfl
theorem r_chn {o u : CmpOp} (h1 : ev S true a env = some x) (h2 : ev S true b env = some y) (h3 : cmpD o x y = some p) (h4 : p = true → ev S true c env = some z ∧ cmpD u y z = some q) : ev S br (.chn o u a b c) env = some (.bl (p && q)) := by
  unfold ev
  rw [h1, h2]
  show (cmpD o x y).bind _ = _
  rw [h3]
  cases p with
  | false => rfl
  | true =>
    obtain ⟨h5, h6⟩ := h4 rfl
    show (ev S true c env).bind _ = _
    rw [h5]
    show (cmpD u y z).map D.bl = _
    rw [h6]
    rfl
theorem r_and (h1 : ev S true a env = some (.bl p)) (h2 : p = true → ev S br b env = some (.bl q)) : ev S br (.and a b) env = some (.bl (p && q)) := by
  unfold ev
  rw [h1]
  cases p with
  | false => rfl
  | true => exact h2 rfl
theorem r_or (h1 : ev S true a env = some (.bl p)) (h2 : p = false → ev S br b env = some (.bl q)) : ev S br (.or a b) env = some (.bl (p || q)) := by
  unfold ev
  rw [h1]
  cases p with
  | true => rfl
  | false => exact h2 rfl
theorem r_one (h : ev S br a env = some d) : ev S br (.one a) env = some d := by unfold ev; exact h
theorem r_not (h : ev S true a env = some (.bl p)) : ev S br (.not a) env = some (.bl (!p)) := by unfold ev; rw [h]
theorem r_idx (h1 : ev S true a env = some x) (h2 : ev S true b env = some y) (h3 : idxD x y = some z) : ev S br (.idx a b) env = some z := by
  unfold ev
  rw [h1, h2]
  exact h3
theorem r_fld {cl : Nat} {fs : List (Str × D)} {f : Str} (h1 : ev S true a env = some (.obj cl fs)) (h2 : S.fls[k]? = some (cl, f)) (h3 : fs.lookup f = some d) : ev S br (.fld a k) env = some d := by
  unfold ev
  rw [h1, h2]
  show (if cl = cl then fs.lookup f else none) = _
  rw [if_pos rfl, h3]
theorem r_prp {cl : Nat} {fs : List (Str × D)} {m : MeE} (h1 : ev S false a env = some (.obj cl fs)) (h2 : S.prs[k]? = some m) (hc : cl = m.cls) (hn : fs.lookup m.name = none) (har : m.ar = 1) (h3 : m.sem [.obj cl fs] = some d) : ev S br (.prp a k) env = some d := by
  unfold ev
  rw [h1, h2]
  show (if cl = m.cls ∧ fs.lookup m.name = none ∧ m.ar = 1 then m.sem [.obj cl fs] else none) = _
  rw [if_pos ⟨hc, hn, har⟩, h3]
theorem r_nil : evs S br [] env = some [] := by unfold evs; rfl
theorem r_cons {e : IE} (h1 : ev S br e env = some d) (h2 : evs S br es env = some ds) : evs S br (e :: es) env = some (d :: ds) := by
  unfold evs
  rw [h1, h2]
  rfl
theorem r_tup (h : evs S false es env = some ds) (hl : es.length ≤ 1000) : ev S br (.tup es) env = some (.tup ds) := by
  unfold ev
  rw [if_pos hl, h]
  rfl
theorem r_lst (h : evs S false es env = some ds) (hl : es.length ≤ 1000) : ev S br (.lst es) env = some (.lst ds) := by
  unfold ev
  rw [if_pos hl, h]
  rfl
theorem r_bi {o : Bi} (h1 : evs S true es env = some ds) (h2 : bsem o ds = some d) : ev S br (.bi o es) env = some d := by
  unfold ev
  rw [h1]
  exact h2
theorem r_call {f : FnE} (h0 : S.fns[k]? = some f) (h1 : evs S false es env = some ds) (hl : ds.length = f.ar) (h2 : f.sem ds = some d) : ev S br (.call k es) env = some d := by
  unfold ev
  rw [h0]
  show (evs S false es env).bind _ = _
  rw [h1]
  show (if ds.length = f.ar then f.sem ds else none) = _
  rw [if_pos hl, h2]
theorem r_meth {cl : Nat} {fs : List (Str × D)} {m : MeE} (h0 : S.mes[k]? = some m) (h1 : ev S false a env = some (.obj cl fs)) (hc : cl = m.cls) (hn : fs.lookup m.name = none) (h2 : evs S false es env = some ds) (hl : ds.length + 1 = m.ar) (h3 : m.sem (.obj cl fs :: ds) = some d) : ev S br (.meth k a es) env = some d := by
  unfold ev
  rw [h1, h0]
  show (if cl = m.cls ∧ fs.lookup m.name = none then (evs S false es env).bind _ else none) = _
  rw [if_pos ⟨hc, hn⟩, h2]
  show (if ds.length + 1 = m.ar then m.sem (.obj cl fs :: ds) else none) = _
  rw [if_pos hl, h3]
theorem r_lrg {j : Int} (h : ev S true a env = some (.int j)) (hj : j < 100000 ∧ -100000 < j) : ev S br (.lrg a) env = some (.lst ((List.range j.toNat).map fun (i : Nat) => D.int (i : Int))) := by
  unfold ev
  rw [h]
  show (if j < 100000 ∧ -100000 < j then _ else none) = _
  rw [if_pos hj]
theorem r_isi {o : Bi} (h : ev S true a env = some x) (h2 : bsem o [x] = some d) : ev S br (.isi o a) env = some d := by
  unfold ev
  rw [h]
  exact h2
theorem r_jn {t : Str} {xs : List Str} (h1 : ev S true a env = some (.str t)) (h2 : ev S true b env = some (.lst (xs.map .str))) (hl : (xs.map (·.length)).sum + xs.length * t.length ≤ 16777216) : ev S br (.jn a b) env = some (.str (Txt.join t xs)) := by
  unfold ev
  rw [h1, h2]
  have e : toStrs (xs.map D.str) = some xs := by
    have z := strs_map (fun s : Str => s) xs
    simpa using z
  show (toStrs (xs.map D.str)).bind _ = _
  rw [e]
  show (if (xs.map (·.length)).sum + xs.length * t.length ≤ 16777216 then some (D.str (Txt.join t xs)) else none) = _
  rw [if_pos hl]
/-! tests -/
variable {u v : IB}
theorem t_and (h1 : evT S u env = some p) (h2 : p = true → evT S v env = some q) : evT S (.and u v) env = some (p && q) := by
  unfold evT
  rw [h1]
  cases p with
  | false => rfl
  | true => exact h2 rfl
theorem t_or (h1 : evT S u env = some p) (h2 : p = false → evT S v env = some q) : evT S (.or u v) env = some (p || q) := by
  unfold evT
  rw [h1]
  cases p with
  | true => rfl
  | false => exact h2 rfl
theorem t_one (h : evT S u env = some p) : evT S (.one u) env = some p := by unfold evT; exact h
theorem t_not (h : evT S u env = some p) : evT S (.not u) env = some (!p) := by unfold evT; rw [h]; rfl
theorem t_cmp {o : CmpOp} (h1 : ev S true a env = some x) (h2 : ev S true b env = some y) (h3 : cmpD o x y = some p) : evT S (.cmp o a b) env = some p := by
  unfold evT
  rw [h1, h2]
  exact h3
theorem t_tru (h : ev S true a env = some x) (h2 : truD x = some p) : evT S (.tru a) env = some p := by
  unfold evT
  rw [h]
  exact h2
/-! statements -/
theorem x_nil : exs S n [] env = some (.nx env) := by unfold exs; rfl
theorem x_cons {s : IS} {ss : List IS} {env1 : List SV} {o : Out} (h1 : ex S n s env = some (.nx env1)) (h2 : exs S n ss env1 = some o) : exs S n (s :: ss) env = some o := by
  unfold exs
  rw [h1]
  exact h2
theorem x_ret {s : IS} {ss : List IS} (h1 : ex S n s env = some (.rt d)) : exs S n (s :: ss) env = some (.rt d) := by
  unfold exs
  rw [h1]
  rfl
theorem s_asg (h : ev S false a env = some d) (hi : i < env.length) : ex S n (.asg i a) env = some (.nx (env.set i (.sh d))) := by
  unfold ex
  rw [if_pos hi, h]
  rfl
theorem s_ret (h : ev S false a (env.map frzV) = some d) : ex S n (.ret a) env = some (.rt d) := by
  unfold ex
  rw [h]
  rfl
theorem s_if {ss ts : List IS} {o : Out} (h : evT S u env = some p) (h1 : p = true → exs S n ss env = some o) (h2 : p = false → exs S n ts env = some o) : ex S n (.iff u ss ts) env = some o := by
  unfold ex
  rw [h]
  cases p with
  | true => exact h1 rfl
  | false => exact h2 rfl
end
/-- a walk by an invariant: all turns go on -/
theorem for_inv {body : List SV → Option Out} {t : IT} (P : Nat → List SV → Prop) : ∀ {ds : List D} {j : Nat} {env : List SV}, P j env →
    (∀ (i : Nat) (d : D) (e : List SV), ds[i]? = some d → P (j + i) e → ∃ e1 e2, bindT t d e = some e1 ∧ body e1 = some (.nx e2) ∧ P (j + i + 1) e2) → ∃ e', exFor body t ds env = some (.nx e') ∧ P (j + ds.length) e'
  | [], j, env, h, _ => ⟨env, rfl, h⟩
  | d :: ds, j, env, h, H => by
    obtain ⟨e1, e2, h1, h2, h3⟩ := H 0 d env rfl h
    obtain ⟨e', h4, h5⟩ := for_inv P (j := j + 1) (ds := ds) h3 fun i d' e hd he => by
      obtain ⟨a1, a2, b1, b2, b3⟩ := H (i + 1) d' e hd (by rw [show j + (i + 1) = j + 1 + i by omega]; exact he)
      exact ⟨a1, a2, b1, b2, by rw [show j + 1 + i + 1 = j + (i + 1) + 1 by omega]; exact b3⟩
    refine ⟨e', ?_, by rw [List.length_cons, show j + (ds.length + 1) = j + 1 + ds.length by omega]; exact h5⟩
    unfold exFor
    rw [h1]
    show (body e1).bind _ = _
    rw [h2]
    exact h4
theorem s_for {S : Sig} {n : Nat} {env : List SV} {t : IT} {it : II} {b : List IS} {ds : List D} {o : Out} (h1 : evI S false it env = some ds) (hl : ds.length ≤ 100000) (h2 : exFor (exs S n b) t ds env = some o) : ex S n (.fr t it b) env = some o := by
  unfold ex
  rw [h1]
  show (if ds.length ≤ 100000 then exFor (exs S n b) t ds env else none) = _
  rw [if_pos hl]
  exact h2
theorem s_asO {S : Sig} {n i : Nat} {env : List SV} {a : IE} {d : D} (h : ev S false a env = some d) (hi : i < env.length) : ex S n (.asO i a) env = some (.nx (env.set i (.ow d))) := by
  unfold ex
  rw [if_pos hi, h]
  rfl
theorem s_app {S : Sig} {n i : Nat} {env : List SV} {a : IE} {d : D} {xs : List D} (h1 : env[i]? = some (.ow (.lst xs))) (h : ev S false a env = some d) (hl : xs.length < 100000) : ex S n (.app i a) env = some (.nx (env.set i (.ow (.lst (xs ++ [d]))))) := by
  unfold ex
  rw [h1, h]
  show (if xs.length < 100000 then _ else none) = _
  rw [if_pos hl]
section
variable {S : Sig} {br : Bool} {env env1 : List SV} {t : IT} {e : IE} {u : IB} {own : List (Str × Nat)} {d y : D} {p : Bool}
theorem turn_all (hb : bindT t d (wipeE env (own.map (·.2))) = some env1) (he : ev S false e env1 = some y) : turnC S t [] e own env d = some (some y) := by
  unfold turnC
  rw [hb, Option.bind_some]
  have z : evTs S [] env1 = some true := by
    unfold evTs
    rfl
  rw [z, Option.bind_some, if_pos rfl, he]
  rfl
theorem turn_if (hb : bindT t d (wipeE env (own.map (·.2))) = some env1) (ht : evT S u env1 = some p) (he : p = true → ev S false e env1 = some y) : turnC S t [u] e own env d = some (if p then some y else none) := by
  unfold turnC
  rw [hb, Option.bind_some]
  have z : evTs S [u] env1 = some p := by
    unfold evTs
    exact ht
  rw [z, Option.bind_some]
  cases p with
  | false => rfl
  | true =>
    rw [if_pos rfl, he rfl]
    rfl
theorem i_rng1 {a : IE} {n : Int} (h : ev S true a env = some (.int n)) (hn : n < 100000 ∧ -100000 < n) : evI S br (.rng1 a) env = some ((List.range n.toNat).map fun (i : Nat) => D.int (i : Int)) := by
  unfold evI
  rw [h]
  show (if n < 100000 ∧ -100000 < n then _ else none) = _
  rw [if_pos hn]
theorem i_lst {a : IE} {xs : List D} (h : ev S br a env = some (.lst xs)) : evI S br (.ex a) env = some xs := by
  unfold evI
  rw [h]
theorem i_tup {a : IE} {xs : List D} (h : ev S br a env = some (.tup xs)) : evI S br (.ex a) env = some xs := by
  unfold evI
  rw [h]
theorem i_str {a : IE} {z : Str} (h : ev S br a env = some (.str z)) : evI S br (.ex a) env = some (strD z) := by
  unfold evI
  rw [h]
end
end EL

set_option Elab.async false
set_option linter.all false
set_option maxRecDepth 100000
set_option maxHeartbeats 4000000
namespace K
open PySem L2 EL
def topS (i : Nat) : Stmt := PySem.Challenge.pw_firstbreach_k04_statuses.main.body.getD i (.Pass ⟨0, 0, 0, 0⟩)
def S0 : Sig := ⟨[⟨"are_nodes", 1, fun _ => none⟩, ⟨"is_entry", 1, fun _ => none⟩, ⟨"are_edges", 2, fun _ => none⟩, ⟨"_law_cell", 2, fun _ => none⟩, ⟨"_law_draws", 3, fun _ => none⟩, ⟨"_law_cap", 2, fun _ => none⟩, ⟨"_law_open", 2, fun _ => none⟩, ⟨"_law_allows", 3, fun _ => none⟩, ⟨"_law_owes", 2, fun _ => none⟩, ⟨"_law_held", 2, fun _ => none⟩, ⟨"_law_needed", 2, fun _ => none⟩, ⟨"_law_entry", 1, fun _ => none⟩, ⟨"_law_wide_task", 1, fun _ => none⟩, ⟨"_law_statuses", 1, fun _ => none⟩, ⟨"_law_right", 3, fun _ => none⟩, ⟨"law", 1, fun _ => none⟩], [⟨"Task", 0, 3, ["steady"], fun _ => none⟩], [⟨0, "cap", 2, fun _ => none⟩, ⟨0, "unfinished", 2, fun _ => none⟩, ⟨0, "allows", 3, fun _ => none⟩, ⟨0, "owes", 2, fun _ => none⟩, ⟨0, "held", 2, fun _ => none⟩, ⟨0, "needed", 2, fun _ => none⟩, ⟨0, "come", 4, fun _ => none⟩], [⟨0, "server", 1, fun _ => none⟩], [(0, "nodes"), (0, "edges"), (0, "steady")], [("NONE", .tup [.int (-1), .int 0, .int 0, .int 0]), ("LOCKS", .tup [.str "a", .str "b", .str "c"]), ("MAX_NODES", .int 2), ("MAX_PLAN", .int 4), ("MAX_TICKS", .int 8)], ["abs", "all", "any", "bool", "int", "isinstance", "len", "list", "max", "min", "range", "sorted", "tuple"]⟩
abbrev s_are_nodes : Stmt := topS 11
def N_are_nodes : List Str := ["nodes", "plan", "due", "entry"]
theorem sc_are_nodes : FnScope N_are_nodes ["nodes"] (defScope s_are_nodes) := ⟨rfl, rfl, rfl, by decide +kernel, rfl, by decide +kernel, by decide +kernel⟩
def b_are_nodes : List IS := [.iff (.not (.chn .LtE .LtE (.int 1) (.bi .len [(.var 0)]) (.con 2))) [.ret (.bl false)] [],
  .fr (.tp [(.nm 1), (.nm 2)]) (.ex (.var 0)) [.iff (.not (.and (.chn .LtE .LtE (.int 1) (.bi .len [(.var 1)]) (.con 3)) (.one (.chn .LtE .LtE (.bi .len [(.var 1)]) (.var 2) (.con 4))))) [.ret (.bl false)] [],
    .iff (.not (.tru (.bi .all [(.lc (.nm 3) (.ex (.var 1)) [] (.call 1 [(.var 3)]) [("entry", 3)])]))) [.ret (.bl false)] []],
  .ret (.bl true)]
theorem c_are_nodes : chkSs S0 N_are_nodes (defScope s_are_nodes) b_are_nodes (defBody s_are_nodes) = true := by decide +kernel
abbrev s_is_entry : Stmt := topS 12
def N_is_entry : List Str := ["entry", "lock"]
theorem sc_is_entry : FnScope N_is_entry ["entry"] (defScope s_is_entry) := ⟨rfl, rfl, rfl, by decide +kernel, rfl, by decide +kernel, by decide +kernel⟩
def b_is_entry : List IS := [.ret (.cmp .Eq (.var 0) (.jn (.str "") (.lc (.nm 1) (.ex (.con 1)) [(.cmp .In (.var 1) (.var 0))] (.var 1) [("lock", 1)])))]
theorem c_is_entry : chkSs S0 N_is_entry (defScope s_is_entry) b_is_entry (defBody s_is_entry) = true := by decide +kernel
abbrev s_are_edges : Stmt := topS 13
def N_are_edges : List Str := ["nodes", "edges", "count", "u", "v", "_", "gap"]
theorem sc_are_edges : FnScope N_are_edges ["nodes", "edges"] (defScope s_are_edges) := ⟨rfl, rfl, rfl, by decide +kernel, rfl, by decide +kernel, by decide +kernel⟩
def b_are_edges : List IS := [.asg 2 (.bi .len [(.var 0)]),
  .iff (.not (.tru (.bi .all [(.lc (.tp [(.nm 3), (.nm 4), (.nm 5)]) (.ex (.var 1)) [] (.and (.chn .LtE .Lt (.int 0) (.var 3) (.var 2)) (.one (.chn .LtE .Lt (.int 0) (.var 4) (.var 2)))) [("u", 3), ("v", 4), ("_", 5)])]))) [.ret (.bl false)] [],
  .iff (.not (.tru (.bi .all [(.lc (.tp [(.nm 3), (.nm 5), (.nm 6)]) (.ex (.var 1)) [] (.chn .LtE .LtE (.idx (.idx (.var 0) (.var 3)) (.int 1)) (.var 6) (.con 4)) [("u", 3), ("_", 5), ("gap", 6)])]))) [.ret (.bl false)] [],
  .ret (.cmp .Eq (.lsc (.tp [(.nm 3), (.nm 4), (.nm 5)]) (.ex (.var 1)) [] (.tup [(.var 3), (.var 4)]) [("u", 3), ("v", 4), ("_", 5)]) (.bi .len [(.var 1)]))]
theorem c_are_edges : chkSs S0 N_are_edges (defScope s_are_edges) b_are_edges (defBody s_are_edges) = true := by decide +kernel
abbrev s_law_cell : Stmt := topS 15
def N_law_cell : List Str := ["_law_script", "_law_at"]
theorem sc_law_cell : FnScope N_law_cell ["_law_script", "_law_at"] (defScope s_law_cell) := ⟨rfl, rfl, rfl, by decide +kernel, rfl, by decide +kernel, by decide +kernel⟩
def b_law_cell : List IS := [.iff (.cmp .Lt (.var 1) (.bi .len [(.var 0)])) [.ret (.idx (.var 0) (.var 1))] [],
  .ret (.int 0)]
theorem c_law_cell : chkSs S0 N_law_cell (defScope s_law_cell) b_law_cell (defBody s_law_cell) = true := by decide +kernel
abbrev s_law_draws : Stmt := topS 16
def N_law_draws : List Str := ["_law_script", "_law_at", "_law_count", "_law_cell_here", "_law_rest", "_law_found", "_law_k", "_law_mixed"]
theorem sc_law_draws : FnScope N_law_draws ["_law_script", "_law_at", "_law_count"] (defScope s_law_draws) := ⟨rfl, rfl, rfl, by decide +kernel, rfl, by decide +kernel, by decide +kernel⟩
def b_law_draws : List IS := [.asg 3 (.bi .abs [(.call 3 [(.var 0), (.var 1)])]),
  .asg 4 (.int 0),
  .iff (.cmp .GtE (.var 3) (.bin .Pow (.int 10) (.int 18))) [.asg 4 (.bin .Sub (.var 3) (.bin .Pow (.int 10) (.int 18)))] [],
  .asO 5 (.lst []),
  .fr (.nm 6) (.rng1 (.var 2)) [.iff (.cmp .Gt (.var 4) (.int 0)) [.app 5 (.bin .Mod (.bi .int [(.var 4)]) (.int 60)),
      .asg 4 (.bin .FloorDiv (.var 4) (.int 60))] [.asg 7 (.bin .Mod (.bi .int [(.bin .Add (.bin .Add (.bin .Add (.bin .Mult (.var 3) (.int 48271)) (.bin .Mult (.var 6) (.int 69621))) (.bin .Mult (.var 1) (.int 7919))) (.int 12345))]) (.int 99991)),
      .asg 7 (.bin .Mod (.bi .int [(.bin .Add (.bin .Mult (.var 7) (.var 7)) (.bin .Mult (.var 6) (.int 101)))]) (.int 999983)),
      .asg 7 (.bin .Mod (.bi .int [(.bin .Add (.bin .Mult (.var 7) (.var 7)) (.bin .FloorDiv (.var 7) (.int 127)))]) (.int 9999991)),
      .app 5 (.bin .Mod (.bi .int [(.bin .FloorDiv (.var 7) (.int 11))]) (.int 60))]],
  .ret (.var 5)]
theorem c_law_draws : chkSs S0 N_law_draws (defScope s_law_draws) b_law_draws (defBody s_law_draws) = true := by decide +kernel
abbrev s_law_cap : Stmt := topS 17
def N_law_cap : List Str := ["_law_task", "_law_node", "_law_edge"]
theorem sc_law_cap : FnScope N_law_cap ["_law_task", "_law_node"] (defScope s_law_cap) := ⟨rfl, rfl, rfl, by decide +kernel, rfl, by decide +kernel, by decide +kernel⟩
def b_law_cap : List IS := [.ret (.bi .max [(.bin .Add (.lst [(.idx (.idx (.idx (.var 0) (.int 0)) (.var 1)) (.int 1))]) (.lc (.nm 2) (.ex (.idx (.var 0) (.int 1))) [(.cmp .Eq (.idx (.var 2) (.int 0)) (.var 1))] (.idx (.var 2) (.int 2)) [("_law_edge", 2)]))])]
theorem c_law_cap : chkSs S0 N_law_cap (defScope s_law_cap) b_law_cap (defBody s_law_cap) = true := by decide +kernel
abbrev s_law_open : Stmt := topS 18
def N_law_open : List Str := ["_law_task", "_law_status"]
theorem sc_law_open : FnScope N_law_open ["_law_task", "_law_status"] (defScope s_law_open) := ⟨rfl, rfl, rfl, by decide +kernel, rfl, by decide +kernel, by decide +kernel⟩
def b_law_open : List IS := [.ret (.and (.cmp .GtE (.idx (.var 1) (.int 0)) (.int 0)) (.one (.or (.cmp .Eq (.idx (.var 1) (.int 3)) (.int 1)) (.one (.cmp .Lt (.idx (.var 1) (.int 2)) (.bi .len [(.idx (.idx (.idx (.var 0) (.int 0)) (.idx (.var 1) (.int 0))) (.int 0))]))))))]
theorem c_law_open : chkSs S0 N_law_open (defScope s_law_open) b_law_open (defBody s_law_open) = true := by decide +kernel
abbrev s_law_allows : Stmt := topS 19
def N_law_allows : List Str := ["_law_task", "_law_status", "_law_node", "_law_edge"]
theorem sc_law_allows : FnScope N_law_allows ["_law_task", "_law_status", "_law_node"] (defScope s_law_allows) := ⟨rfl, rfl, rfl, by decide +kernel, rfl, by decide +kernel, by decide +kernel⟩
def b_law_allows : List IS := [.iff (.cmp .Lt (.idx (.var 1) (.int 0)) (.int 0)) [.ret (.chn .LtE .Lt (.int 0) (.var 2) (.bi .len [(.idx (.var 0) (.int 0))]))] [],
  .ret (.cmp .Gt (.bi .len [(.lc (.nm 3) (.ex (.idx (.var 0) (.int 1))) [(.and (.cmp .Eq (.idx (.var 3) (.int 0)) (.idx (.var 1) (.int 0))) (.and (.cmp .Eq (.idx (.var 3) (.int 1)) (.var 2)) (.one (.cmp .LtE (.idx (.var 3) (.int 2)) (.idx (.var 1) (.int 1))))))] (.var 3) [("_law_edge", 3)])]) (.int 0))]
theorem c_law_allows : chkSs S0 N_law_allows (defScope s_law_allows) b_law_allows (defBody s_law_allows) = true := by decide +kernel
abbrev s_law_owes : Stmt := topS 20
def N_law_owes : List Str := ["_law_task", "_law_status"]
theorem sc_law_owes : FnScope N_law_owes ["_law_task", "_law_status"] (defScope s_law_owes) := ⟨rfl, rfl, rfl, by decide +kernel, rfl, by decide +kernel, by decide +kernel⟩
def b_law_owes : List IS := [.ret (.and (.idx (.var 0) (.int 2)) (.one (.or (.cmp .Lt (.idx (.var 1) (.int 0)) (.int 0)) (.one (.cmp .GtE (.idx (.var 1) (.int 1)) (.idx (.idx (.idx (.var 0) (.int 1)) (.int 0)) (.int 2)))))))]
theorem c_law_owes : chkSs S0 N_law_owes (defScope s_law_owes) b_law_owes (defBody s_law_owes) = true := by decide +kernel
abbrev s_law_held : Stmt := topS 21
def N_law_held : List Str := ["_law_task", "_law_status", "_law_plan", "_law_lock"]
theorem sc_law_held : FnScope N_law_held ["_law_task", "_law_status"] (defScope s_law_held) := ⟨rfl, rfl, rfl, by decide +kernel, rfl, by decide +kernel, by decide +kernel⟩
def b_law_held : List IS := [.iff (.or (.not (.tru (.call 6 [(.var 0), (.var 1)]))) (.or (.cmp .Eq (.idx (.var 1) (.int 3)) (.int 1)) (.one (.cmp .Eq (.idx (.var 1) (.int 2)) (.int 0))))) [.ret (.str "")] [],
  .asg 2 (.idx (.idx (.idx (.var 0) (.int 0)) (.idx (.var 1) (.int 0))) (.int 0)),
  .ret (.jn (.str "") (.lc (.nm 3) (.ex (.idx (.var 2) (.idx (.var 1) (.int 2)))) [(.cmp .In (.var 3) (.idx (.var 2) (.bin .Sub (.idx (.var 1) (.int 2)) (.int 1))))] (.var 3) [("_law_lock", 3)]))]
theorem c_law_held : chkSs S0 N_law_held (defScope s_law_held) b_law_held (defBody s_law_held) = true := by decide +kernel
abbrev s_law_needed : Stmt := topS 22
def N_law_needed : List Str := ["_law_task", "_law_status", "_law_held_here", "_law_lock"]
theorem sc_law_needed : FnScope N_law_needed ["_law_task", "_law_status"] (defScope s_law_needed) := ⟨rfl, rfl, rfl, by decide +kernel, rfl, by decide +kernel, by decide +kernel⟩
def b_law_needed : List IS := [.iff (.or (.not (.tru (.call 6 [(.var 0), (.var 1)]))) (.one (.cmp .Eq (.idx (.var 1) (.int 3)) (.int 1)))) [.ret (.str "")] [],
  .asg 2 (.call 9 [(.var 0), (.var 1)]),
  .ret (.jn (.str "") (.lc (.nm 3) (.ex (.idx (.idx (.idx (.idx (.var 0) (.int 0)) (.idx (.var 1) (.int 0))) (.int 0)) (.idx (.var 1) (.int 2)))) [(.cmp .NotIn (.var 3) (.var 2))] (.var 3) [("_law_lock", 3)]))]
theorem c_law_needed : chkSs S0 N_law_needed (defScope s_law_needed) b_law_needed (defBody s_law_needed) = true := by decide +kernel
abbrev s_law_entry : Stmt := topS 23
def N_law_entry : List Str := ["_law_number"]
theorem sc_law_entry : FnScope N_law_entry ["_law_number"] (defScope s_law_entry) := ⟨rfl, rfl, rfl, by decide +kernel, rfl, by decide +kernel, by decide +kernel⟩
def b_law_entry : List IS := [.ret (.idx (.lst [(.str ""), (.str "a"), (.str "b"), (.str "c"), (.str "ab"), (.str "ac"), (.str "bc"), (.str "abc"), (.str ""), (.str "a"), (.str "b"), (.str "c")]) (.bin .Mod (.bi .int [(.var 0)]) (.int 12)))]
theorem c_law_entry : chkSs S0 N_law_entry (defScope s_law_entry) b_law_entry (defBody s_law_entry) = true := by decide +kernel
abbrev s_law_wide_task : Stmt := topS 24
def N_law_wide_task : List Str := ["_law_d", "_law_count", "_law_steady", "_law_nodes", "_law_k", "_law_plan", "_law_edges", "_law_u", "_law_v", "_law_gap", "_law_i"]
theorem sc_law_wide_task : FnScope N_law_wide_task ["_law_d"] (defScope s_law_wide_task) := ⟨rfl, rfl, rfl, by decide +kernel, rfl, by decide +kernel, by decide +kernel⟩
def b_law_wide_task : List IS := [.asg 1 (.bin .Add (.int 1) (.bin .Mod (.bi .int [(.idx (.var 0) (.int 0))]) (.int 2))),
  .asg 2 (.cmp .Eq (.bin .Mod (.bi .int [(.idx (.var 0) (.int 1))]) (.int 4)) (.int 3)),
  .iff (.tru (.var 2)) [.asg 1 (.int 1)] [],
  .asO 3 (.lst []),
  .fr (.nm 4) (.rng1 (.var 1)) [.asO 5 (.lc (.nm 10) (.rng1 (.bin .Add (.int 1) (.bin .Mod (.bi .int [(.idx (.var 0) (.bin .Add (.int 10) (.var 4)))]) (.int 4)))) [] (.call 11 [(.idx (.var 0) (.bin .Add (.bin .Add (.int 2) (.bin .Mult (.int 4) (.var 4))) (.var 10)))]) [("_law_i", 10)]),
    .app 3 (.tup [(.bi .tuple [(.var 5)]), (.bi .min [(.int 8), (.bin .Add (.bi .len [(.var 5)]) (.bin .Mod (.bi .int [(.idx (.var 0) (.bin .Add (.int 12) (.var 4)))]) (.int 5)))])])],
  .asO 6 (.lst []),
  .fr (.nm 7) (.rng1 (.var 1)) [.fr (.nm 8) (.rng1 (.var 1)) [.asg 9 (.bi .min [(.int 8), (.bin .Add (.idx (.idx (.var 3) (.var 7)) (.int 1)) (.bin .Mod (.bi .int [(.idx (.var 0) (.bin .Add (.bin .Add (.int 14) (.bin .Mult (.int 2) (.var 7))) (.var 8)))]) (.int 4)))]),
      .iff (.or (.tru (.var 2)) (.one (.cmp .Gt (.bin .Mod (.bi .int [(.idx (.var 0) (.bin .Add (.bin .Add (.int 18) (.bin .Mult (.int 2) (.var 7))) (.var 8)))]) (.int 3)) (.int 0)))) [.app 6 (.tup [(.var 7), (.var 8), (.var 9)])] []]],
  .ret (.tup [(.var 3), (.var 6), (.var 2)])]
theorem c_law_wide_task : chkSs S0 N_law_wide_task (defScope s_law_wide_task) b_law_wide_task (defBody s_law_wide_task) = true := by decide +kernel
abbrev s_law_statuses : Stmt := topS 25
def N_law_statuses : List Str := ["_law_task", "_law_found", "_law_node", "_law_length", "_law_age", "_law_done"]
theorem sc_law_statuses : FnScope N_law_statuses ["_law_task"] (defScope s_law_statuses) := ⟨rfl, rfl, rfl, by decide +kernel, rfl, by decide +kernel, by decide +kernel⟩
def b_law_statuses : List IS := [.asO 1 (.lst [(.tup [(.neg (.int 1)), (.int 0), (.int 0), (.int 0)])]),
  .fr (.nm 2) (.rng1 (.bi .len [(.idx (.var 0) (.int 0))])) [.asg 3 (.bi .len [(.idx (.idx (.idx (.var 0) (.int 0)) (.var 2)) (.int 0))]),
    .fr (.nm 4) (.rng1 (.bin .Add (.call 5 [(.var 0), (.var 2)]) (.int 1))) [.ext 1 (.lc (.nm 5) (.rng1 (.bin .Add (.var 3) (.int 1))) [] (.tup [(.var 2), (.var 4), (.var 5), (.int 0)]) [("_law_done", 5)]),
      .app 1 (.tup [(.var 2), (.var 4), (.var 3), (.int 1)])]],
  .ret (.var 1)]
theorem c_law_statuses : chkSs S0 N_law_statuses (defScope s_law_statuses) b_law_statuses (defBody s_law_statuses) = true := by decide +kernel
abbrev s_law_right : Stmt := topS 26
def N_law_right : List Str := ["_law_task", "_law_made", "_law_status", "_law_nodes", "_law_words", "_law_node", "_law_word"]
theorem sc_law_right : FnScope N_law_right ["_law_task", "_law_made", "_law_status"] (defScope s_law_right) := ⟨rfl, rfl, rfl, by decide +kernel, rfl, by decide +kernel, by decide +kernel⟩
def b_law_right : List IS := [.asg 3 (.lrg (.bi .len [(.idx (.var 0) (.int 0))])),
  .iff (.cmp .NotEq (.lc (.nm 5) (.ex (.var 3)) [] (.meth 2 (.var 1) [(.var 2), (.var 5)]) [("_law_node", 5)]) (.lc (.nm 5) (.ex (.var 3)) [] (.call 7 [(.var 0), (.var 2), (.var 5)]) [("_law_node", 5)])) [.ret (.bl false)] [],
  .iff (.or (.cmp .NotEq (.meth 1 (.var 1) [(.var 2)]) (.call 6 [(.var 0), (.var 2)])) (.one (.cmp .NotEq (.meth 3 (.var 1) [(.var 2)]) (.call 8 [(.var 0), (.var 2)])))) [.ret (.bl false)] [],
  .iff (.or (.cmp .NotEq (.meth 4 (.var 1) [(.var 2)]) (.call 9 [(.var 0), (.var 2)])) (.one (.cmp .NotEq (.meth 5 (.var 1) [(.var 2)]) (.call 10 [(.var 0), (.var 2)])))) [.ret (.bl false)] [],
  .asg 4 (.bin .Add (.lc (.nm 5) (.ex (.var 3)) [] (.meth 2 (.var 1) [(.var 2), (.var 5)]) [("_law_node", 5)]) (.lst [(.meth 1 (.var 1) [(.var 2)]), (.meth 3 (.var 1) [(.var 2)])])),
  .ret (.bi .all [(.lc (.nm 6) (.ex (.var 4)) [] (.isi .isBool (.var 6)) [("_law_word", 6)])])]
theorem c_law_right : chkSs S0 N_law_right (defScope s_law_right) b_law_right (defBody s_law_right) = true := by decide +kernel
abbrev s_law : Stmt := topS 27
def N_law : List Str := ["_law_script", "_law_task", "_law_nodes", "_law_edges", "_law_steady", "_law_made", "_law_empty", "_law_entry_here", "_law_status", "_law_k"]
theorem sc_law : FnScope N_law ["_law_script"] (defScope s_law) := ⟨rfl, rfl, rfl, by decide +kernel, rfl, by decide +kernel, by decide +kernel⟩
def b_law : List IS := [.asg 1 (.call 12 [(.call 4 [(.var 0), (.int 0), (.int 24)])]),
  .unp (.tp [(.nm 2), (.nm 3), (.nm 4)]) (.var 1),
  .asg 5 (.mkk 0 [(.bi .list [(.var 2)]), (.bi .list [(.var 3)])] (.var 4)),
  .iff (.or (.cmp .NotEq (.fld (.var 5) 0) (.bi .tuple [(.var 2)])) (.or (.cmp .NotEq (.fld (.var 5) 1) (.bi .tuple [(.bi .sorted [(.var 3)])])) (.one (.cmp .NotEq (.fld (.var 5) 2) (.var 4))))) [.ret (.bl false)] [],
  .iff (.or (.cmp .NotEq (.con 0) (.tup [(.neg (.int 1)), (.int 0), (.int 0), (.int 0)])) (.one (.cmp .NotEq (.lc (.nm 9) (.rng1 (.bi .len [(.var 2)])) [] (.meth 0 (.var 5) [(.var 9)]) [("_law_k", 9)]) (.lc (.nm 9) (.rng1 (.bi .len [(.var 2)])) [] (.call 5 [(.var 1), (.var 9)]) [("_law_k", 9)])))) [.ret (.bl false)] [],
  .asg 6 (.bi .all [(.lc (.nm 7) (.ex (.idx (.idx (.var 2) (.int 0)) (.int 0))) [] (.cmp .Eq (.var 7) (.str "")) [("_law_entry_here", 7)])]),
  .iff (.cmp .NotEq (.prp (.var 5) 0) (.and (.var 4) (.and (.var 6) (.one (.cmp .Eq (.idx (.idx (.var 2) (.int 0)) (.int 1)) (.idx (.idx (.var 3) (.int 0)) (.int 2))))))) [.ret (.bl false)] [],
  .ret (.bi .all [(.lc (.nm 8) (.ex (.call 13 [(.var 1)])) [] (.call 14 [(.var 1), (.var 5), (.var 8)]) [("_law_status", 8)])])]
theorem c_law : chkSs S0 N_law (defScope s_law) b_law (defBody s_law) = true := by decide +kernel
abbrev s_Task_cap : Stmt := inClass (topS 10) 4
def N_Task_cap : List Str := ["self", "node", "_", "due", "u", "gap"]
theorem sc_Task_cap : FnScope N_Task_cap ["self", "node"] (defScope s_Task_cap) := ⟨rfl, rfl, rfl, by decide +kernel, rfl, by decide +kernel, by decide +kernel⟩
def b_Task_cap : List IS := [.unp (.tp [(.nm 2), (.nm 3)]) (.idx (.fld (.var 0) 0) (.var 1)),
  .ret (.bi .max [(.bin .Add (.lst [(.var 3)]) (.lc (.tp [(.nm 4), (.nm 2), (.nm 5)]) (.ex (.fld (.var 0) 1)) [(.cmp .Eq (.var 4) (.var 1))] (.var 5) [("u", 4), ("_", 2), ("gap", 5)]))])]
theorem c_Task_cap : chkSs S0 N_Task_cap (defScope s_Task_cap) b_Task_cap (defBody s_Task_cap) = true := by decide +kernel
abbrev s_Task_unfinished : Stmt := inClass (topS 10) 5
def N_Task_unfinished : List Str := ["self", "status", "node", "_", "done", "over"]
theorem sc_Task_unfinished : FnScope N_Task_unfinished ["self", "status"] (defScope s_Task_unfinished) := ⟨rfl, rfl, rfl, by decide +kernel, rfl, by decide +kernel, by decide +kernel⟩
def b_Task_unfinished : List IS := [.unp (.tp [(.nm 2), (.nm 3), (.nm 4), (.nm 5)]) (.var 1),
  .ret (.and (.cmp .GtE (.var 2) (.int 0)) (.one (.or (.cmp .Eq (.var 5) (.int 1)) (.one (.cmp .Lt (.var 4) (.bi .len [(.idx (.idx (.fld (.var 0) 0) (.var 2)) (.int 0))]))))))]
theorem c_Task_unfinished : chkSs S0 N_Task_unfinished (defScope s_Task_unfinished) b_Task_unfinished (defBody s_Task_unfinished) = true := by decide +kernel
abbrev s_Task_allows : Stmt := inClass (topS 10) 6
def N_Task_allows : List Str := ["self", "status", "node", "last", "age", "_", "u", "v", "gap"]
theorem sc_Task_allows : FnScope N_Task_allows ["self", "status", "node"] (defScope s_Task_allows) := ⟨rfl, rfl, rfl, by decide +kernel, rfl, by decide +kernel, by decide +kernel⟩
def b_Task_allows : List IS := [.unp (.tp [(.nm 3), (.nm 4), (.nm 5), (.nm 5)]) (.var 1),
  .iff (.cmp .Lt (.var 3) (.int 0)) [.ret (.chn .LtE .Lt (.int 0) (.var 2) (.bi .len [(.fld (.var 0) 0)]))] [],
  .ret (.bi .any [(.lc (.tp [(.nm 6), (.nm 7), (.nm 8)]) (.ex (.fld (.var 0) 1)) [] (.and (.cmp .Eq (.var 6) (.var 3)) (.and (.cmp .Eq (.var 7) (.var 2)) (.one (.cmp .LtE (.var 8) (.var 4))))) [("u", 6), ("v", 7), ("gap", 8)])])]
theorem c_Task_allows : chkSs S0 N_Task_allows (defScope s_Task_allows) b_Task_allows (defBody s_Task_allows) = true := by decide +kernel
abbrev s_Task_owes : Stmt := inClass (topS 10) 7
def N_Task_owes : List Str := ["self", "status", "node", "age", "_"]
theorem sc_Task_owes : FnScope N_Task_owes ["self", "status"] (defScope s_Task_owes) := ⟨rfl, rfl, rfl, by decide +kernel, rfl, by decide +kernel, by decide +kernel⟩
def b_Task_owes : List IS := [.iff (.not (.tru (.fld (.var 0) 2))) [.ret (.bl false)] [],
  .unp (.tp [(.nm 2), (.nm 3), (.nm 4), (.nm 4)]) (.var 1),
  .ret (.or (.cmp .Lt (.var 2) (.int 0)) (.one (.cmp .Eq (.var 3) (.idx (.idx (.fld (.var 0) 1) (.int 0)) (.int 2)))))]
theorem c_Task_owes : chkSs S0 N_Task_owes (defScope s_Task_owes) b_Task_owes (defBody s_Task_owes) = true := by decide +kernel
abbrev s_Task_held : Stmt := inClass (topS 10) 8
def N_Task_held : List Str := ["self", "status", "node", "_", "done", "over", "plan", "lock"]
theorem sc_Task_held : FnScope N_Task_held ["self", "status"] (defScope s_Task_held) := ⟨rfl, rfl, rfl, by decide +kernel, rfl, by decide +kernel, by decide +kernel⟩
def b_Task_held : List IS := [.unp (.tp [(.nm 2), (.nm 3), (.nm 4), (.nm 5)]) (.var 1),
  .iff (.or (.not (.tru (.meth 1 (.var 0) [(.var 1)]))) (.or (.cmp .Eq (.var 5) (.int 1)) (.one (.cmp .Eq (.var 4) (.int 0))))) [.ret (.str "")] [],
  .asg 6 (.idx (.idx (.fld (.var 0) 0) (.var 2)) (.int 0)),
  .ret (.jn (.str "") (.lc (.nm 7) (.ex (.idx (.var 6) (.bin .Sub (.var 4) (.int 1)))) [(.cmp .In (.var 7) (.idx (.var 6) (.var 4)))] (.var 7) [("lock", 7)]))]
theorem c_Task_held : chkSs S0 N_Task_held (defScope s_Task_held) b_Task_held (defBody s_Task_held) = true := by decide +kernel
abbrev s_Task_needed : Stmt := inClass (topS 10) 9
def N_Task_needed : List Str := ["self", "status", "node", "_", "done", "over", "held", "lock"]
theorem sc_Task_needed : FnScope N_Task_needed ["self", "status"] (defScope s_Task_needed) := ⟨rfl, rfl, rfl, by decide +kernel, rfl, by decide +kernel, by decide +kernel⟩
def b_Task_needed : List IS := [.unp (.tp [(.nm 2), (.nm 3), (.nm 4), (.nm 5)]) (.var 1),
  .iff (.or (.not (.tru (.meth 1 (.var 0) [(.var 1)]))) (.one (.cmp .Eq (.var 5) (.int 1)))) [.ret (.str "")] [],
  .asg 6 (.meth 4 (.var 0) [(.var 1)]),
  .ret (.jn (.str "") (.lc (.nm 7) (.ex (.idx (.idx (.idx (.fld (.var 0) 0) (.var 2)) (.int 0)) (.var 4))) [(.cmp .NotIn (.var 7) (.var 6))] (.var 7) [("lock", 7)]))]
theorem c_Task_needed : chkSs S0 N_Task_needed (defScope s_Task_needed) b_Task_needed (defBody s_Task_needed) = true := by decide +kernel
abbrev s_Task_come : Stmt := inClass (topS 10) 11
def N_Task_come : List Str := ["self", "status", "node", "door"]
theorem sc_Task_come : FnScope N_Task_come ["self", "status", "node", "door"] (defScope s_Task_come) := ⟨rfl, rfl, rfl, by decide +kernel, rfl, by decide +kernel, by decide +kernel⟩
def b_Task_come : List IS := [.iff (.or (.tru (.meth 1 (.var 0) [(.var 1)])) (.one (.and (.cmp .Eq (.var 3) (.str "shut")) (.one (.not (.tru (.meth 2 (.var 0) [(.var 1), (.var 2)]))))))) [.ret (.var 1)] [],
  .ret (.tup [(.var 2), (.int 0), (.int 0), (.int 0)])]
theorem c_Task_come : chkSs S0 N_Task_come (defScope s_Task_come) b_Task_come (defBody s_Task_come) = true := by decide +kernel
abbrev s_Task_server : Stmt := inClass (topS 10) 3
def N_Task_server : List Str := ["self", "plan", "due"]
theorem sc_Task_server : FnScope N_Task_server ["self"] (defScope s_Task_server) := ⟨rfl, rfl, rfl, by decide +kernel, rfl, by decide +kernel, by decide +kernel⟩
def b_Task_server : List IS := [.unp (.tp [(.nm 1), (.nm 2)]) (.idx (.fld (.var 0) 0) (.int 0)),
  .ret (.and (.bi .bool [(.fld (.var 0) 2)]) (.and (.cmp .Eq (.var 1) (.bin .Mult (.tup [(.str "")]) (.bi .len [(.var 1)]))) (.one (.cmp .Eq (.var 2) (.idx (.idx (.fld (.var 0) 1) (.int 0)) (.int 2))))))]
theorem c_Task_server : chkSs S0 N_Task_server (defScope s_Task_server) b_Task_server (defBody s_Task_server) = true := by decide +kernel
abbrev s_Task_init : Stmt := inClass (topS 10) 0
def N_Task_init : List Str := ["self", "nodes", "edges", "steady", "plan", "due", "u", "v", "gap"]
theorem sc_Task_init : FnScope N_Task_init ["self", "nodes", "edges", "steady"] (defScope s_Task_init) := ⟨rfl, rfl, rfl, by decide +kernel, rfl, by decide +kernel, by decide +kernel⟩
def b_Task_init : List IS := [.sfd 0 0 (.bi .tuple [(.lc (.tp [(.nm 4), (.nm 5)]) (.ex (.var 1)) [] (.tup [(.bi .tuple [(.var 4)]), (.var 5)]) [("plan", 4), ("due", 5)])]),
  .sfd 0 1 (.bi .tuple [(.bi .sorted [(.lc (.tp [(.nm 6), (.nm 7), (.nm 8)]) (.ex (.var 2)) [] (.tup [(.var 6), (.var 7), (.var 8)]) [("u", 6), ("v", 7), ("gap", 8)])])]),
  .sfd 0 2 (.var 3),
  .iff (.not (.and (.tru (.call 0 [(.fld (.var 0) 0)])) (.one (.tru (.call 2 [(.fld (.var 0) 0), (.fld (.var 0) 1)]))))) [.nev] [],
  .iff (.and (.tru (.var 3)) (.one (.not (.chn .Eq .Eq (.bi .len [(.fld (.var 0) 0)]) (.bi .len [(.fld (.var 0) 1)]) (.int 1))))) [.nev] []]
theorem c_Task_init : chkSs S0 N_Task_init (defScope s_Task_init) b_Task_init (defBody s_Task_init) = true := by decide +kernel
def Sg : Nat → Sig
  | 0 => S0
  | k + 1 => ⟨[⟨"are_nodes", 1, runF (Sg k) 0 1 4 b_are_nodes⟩,
    ⟨"is_entry", 1, runF (Sg k) 0 1 2 b_is_entry⟩,
    ⟨"are_edges", 2, runF (Sg k) 0 2 7 b_are_edges⟩,
    ⟨"_law_cell", 2, runF (Sg k) 0 2 2 b_law_cell⟩,
    ⟨"_law_draws", 3, runF (Sg k) 0 3 8 b_law_draws⟩,
    ⟨"_law_cap", 2, runF (Sg k) 0 2 3 b_law_cap⟩,
    ⟨"_law_open", 2, runF (Sg k) 0 2 2 b_law_open⟩,
    ⟨"_law_allows", 3, runF (Sg k) 0 3 4 b_law_allows⟩,
    ⟨"_law_owes", 2, runF (Sg k) 0 2 2 b_law_owes⟩,
    ⟨"_law_held", 2, runF (Sg k) 0 2 4 b_law_held⟩,
    ⟨"_law_needed", 2, runF (Sg k) 0 2 4 b_law_needed⟩,
    ⟨"_law_entry", 1, runF (Sg k) 0 1 1 b_law_entry⟩,
    ⟨"_law_wide_task", 1, runF (Sg k) 0 1 11 b_law_wide_task⟩,
    ⟨"_law_statuses", 1, runF (Sg k) 0 1 6 b_law_statuses⟩,
    ⟨"_law_right", 3, runF (Sg k) 0 3 7 b_law_right⟩,
    ⟨"law", 1, runF (Sg k) 0 1 10 b_law⟩], [⟨"Task", 0, 3, ["steady"], runI (Sg k) 0 3 9 0 b_Task_init⟩], [⟨0, "cap", 2, runF (Sg k) 0 2 6 b_Task_cap⟩,
    ⟨0, "unfinished", 2, runF (Sg k) 0 2 6 b_Task_unfinished⟩,
    ⟨0, "allows", 3, runF (Sg k) 0 3 9 b_Task_allows⟩,
    ⟨0, "owes", 2, runF (Sg k) 0 2 5 b_Task_owes⟩,
    ⟨0, "held", 2, runF (Sg k) 0 2 8 b_Task_held⟩,
    ⟨0, "needed", 2, runF (Sg k) 0 2 8 b_Task_needed⟩,
    ⟨0, "come", 4, runF (Sg k) 0 4 4 b_Task_come⟩], [⟨0, "server", 1, runF (Sg k) 0 1 3 b_Task_server⟩], [(0, "nodes"), (0, "edges"), (0, "steady")], [("NONE", .tup [.int (-1), .int 0, .int 0, .int 0]), ("LOCKS", .tup [.str "a", .str "b", .str "c"]), ("MAX_NODES", .int 2), ("MAX_PLAN", .int 4), ("MAX_TICKS", .int 8)], ["abs", "all", "any", "bool", "int", "isinstance", "len", "list", "max", "min", "range", "sorted", "tuple"]⟩
theorem d_are_nodes : ∀ k, chkSs (Sg k) N_are_nodes (defScope s_are_nodes) b_are_nodes (defBody s_are_nodes) = true := fun k => by cases k <;> kernel_rfl
theorem d_is_entry : ∀ k, chkSs (Sg k) N_is_entry (defScope s_is_entry) b_is_entry (defBody s_is_entry) = true := fun k => by cases k <;> kernel_rfl
theorem d_are_edges : ∀ k, chkSs (Sg k) N_are_edges (defScope s_are_edges) b_are_edges (defBody s_are_edges) = true := fun k => by cases k <;> kernel_rfl
theorem d_law_cell : ∀ k, chkSs (Sg k) N_law_cell (defScope s_law_cell) b_law_cell (defBody s_law_cell) = true := fun k => by cases k <;> kernel_rfl
theorem d_law_draws : ∀ k, chkSs (Sg k) N_law_draws (defScope s_law_draws) b_law_draws (defBody s_law_draws) = true := fun k => by cases k <;> kernel_rfl
theorem d_law_cap : ∀ k, chkSs (Sg k) N_law_cap (defScope s_law_cap) b_law_cap (defBody s_law_cap) = true := fun k => by cases k <;> kernel_rfl
theorem d_law_open : ∀ k, chkSs (Sg k) N_law_open (defScope s_law_open) b_law_open (defBody s_law_open) = true := fun k => by cases k <;> kernel_rfl
theorem d_law_allows : ∀ k, chkSs (Sg k) N_law_allows (defScope s_law_allows) b_law_allows (defBody s_law_allows) = true := fun k => by cases k <;> kernel_rfl
theorem d_law_owes : ∀ k, chkSs (Sg k) N_law_owes (defScope s_law_owes) b_law_owes (defBody s_law_owes) = true := fun k => by cases k <;> kernel_rfl
theorem d_law_held : ∀ k, chkSs (Sg k) N_law_held (defScope s_law_held) b_law_held (defBody s_law_held) = true := fun k => by cases k <;> kernel_rfl
theorem d_law_needed : ∀ k, chkSs (Sg k) N_law_needed (defScope s_law_needed) b_law_needed (defBody s_law_needed) = true := fun k => by cases k <;> kernel_rfl
theorem d_law_entry : ∀ k, chkSs (Sg k) N_law_entry (defScope s_law_entry) b_law_entry (defBody s_law_entry) = true := fun k => by cases k <;> kernel_rfl
theorem d_law_wide_task : ∀ k, chkSs (Sg k) N_law_wide_task (defScope s_law_wide_task) b_law_wide_task (defBody s_law_wide_task) = true := fun k => by cases k <;> kernel_rfl
theorem d_law_statuses : ∀ k, chkSs (Sg k) N_law_statuses (defScope s_law_statuses) b_law_statuses (defBody s_law_statuses) = true := fun k => by cases k <;> kernel_rfl
theorem d_law_right : ∀ k, chkSs (Sg k) N_law_right (defScope s_law_right) b_law_right (defBody s_law_right) = true := fun k => by cases k <;> kernel_rfl
theorem d_law : ∀ k, chkSs (Sg k) N_law (defScope s_law) b_law (defBody s_law) = true := fun k => by cases k <;> kernel_rfl
theorem d_Task_cap : ∀ k, chkSs (Sg k) N_Task_cap (defScope s_Task_cap) b_Task_cap (defBody s_Task_cap) = true := fun k => by cases k <;> kernel_rfl
theorem d_Task_unfinished : ∀ k, chkSs (Sg k) N_Task_unfinished (defScope s_Task_unfinished) b_Task_unfinished (defBody s_Task_unfinished) = true := fun k => by cases k <;> kernel_rfl
theorem d_Task_allows : ∀ k, chkSs (Sg k) N_Task_allows (defScope s_Task_allows) b_Task_allows (defBody s_Task_allows) = true := fun k => by cases k <;> kernel_rfl
theorem d_Task_owes : ∀ k, chkSs (Sg k) N_Task_owes (defScope s_Task_owes) b_Task_owes (defBody s_Task_owes) = true := fun k => by cases k <;> kernel_rfl
theorem d_Task_held : ∀ k, chkSs (Sg k) N_Task_held (defScope s_Task_held) b_Task_held (defBody s_Task_held) = true := fun k => by cases k <;> kernel_rfl
theorem d_Task_needed : ∀ k, chkSs (Sg k) N_Task_needed (defScope s_Task_needed) b_Task_needed (defBody s_Task_needed) = true := fun k => by cases k <;> kernel_rfl
theorem d_Task_come : ∀ k, chkSs (Sg k) N_Task_come (defScope s_Task_come) b_Task_come (defBody s_Task_come) = true := fun k => by cases k <;> kernel_rfl
theorem d_Task_server : ∀ k, chkSs (Sg k) N_Task_server (defScope s_Task_server) b_Task_server (defBody s_Task_server) = true := fun k => by cases k <;> kernel_rfl
theorem d_Task_init : ∀ k, chkSs (Sg k) N_Task_init (defScope s_Task_init) b_Task_init (defBody s_Task_init) = true := fun k => by cases k <;> kernel_rfl
structure Txt (G : Gl0) : Prop where
  cls0 : Cls G.K (G.cls 0)
  na0 : NoAttr G.K (G.cls 0) "nodes"
  na1 : NoAttr G.K (G.cls 0) "edges"
  na2 : NoAttr G.K (G.cls 0) "steady"
  con0 : ∃ (u : Value) (v : V), G.mg "NONE" = some u ∧ RelV v u ∧ ∀ F, Rep G F v (.tup [.int (-1), .int 0, .int 0, .int 0])
  con1 : ∃ (u : Value) (v : V), G.mg "LOCKS" = some u ∧ RelV v u ∧ ∀ F, Rep G F v (.tup [.str "a", .str "b", .str "c"])
  con2 : ∃ (u : Value) (v : V), G.mg "MAX_NODES" = some u ∧ RelV v u ∧ ∀ F, Rep G F v (.int 2)
  con3 : ∃ (u : Value) (v : V), G.mg "MAX_PLAN" = some u ∧ RelV v u ∧ ∀ F, Rep G F v (.int 4)
  con4 : ∃ (u : Value) (v : V), G.mg "MAX_TICKS" = some u ∧ RelV v u ∧ ∀ F, Rep G F v (.int 8)
  blt0 : G.mg "abs" = none
  blt1 : G.mg "all" = none
  blt2 : G.mg "any" = none
  blt3 : G.mg "bool" = none
  blt4 : G.mg "int" = none
  blt5 : G.mg "isinstance" = none
  blt6 : G.mg "len" = none
  blt7 : G.mg "list" = none
  blt8 : G.mg "max" = none
  blt9 : G.mg "min" = none
  blt10 : G.mg "range" = none
  blt11 : G.mg "sorted" = none
  blt12 : G.mg "tuple" = none
  f_are_nodes : ∃ (a : Addr) (fd : FuncData), G.mg "are_nodes" = some (.ref a) ∧ Fun G.K "are_nodes" "are_nodes" s_are_nodes a fd ∧ Binds G.K fd ["nodes"] []
  f_is_entry : ∃ (a : Addr) (fd : FuncData), G.mg "is_entry" = some (.ref a) ∧ Fun G.K "is_entry" "is_entry" s_is_entry a fd ∧ Binds G.K fd ["entry"] []
  f_are_edges : ∃ (a : Addr) (fd : FuncData), G.mg "are_edges" = some (.ref a) ∧ Fun G.K "are_edges" "are_edges" s_are_edges a fd ∧ Binds G.K fd ["nodes", "edges"] []
  f_law_cell : ∃ (a : Addr) (fd : FuncData), G.mg "_law_cell" = some (.ref a) ∧ Fun G.K "_law_cell" "_law_cell" s_law_cell a fd ∧ Binds G.K fd ["_law_script", "_law_at"] []
  f_law_draws : ∃ (a : Addr) (fd : FuncData), G.mg "_law_draws" = some (.ref a) ∧ Fun G.K "_law_draws" "_law_draws" s_law_draws a fd ∧ Binds G.K fd ["_law_script", "_law_at", "_law_count"] []
  f_law_cap : ∃ (a : Addr) (fd : FuncData), G.mg "_law_cap" = some (.ref a) ∧ Fun G.K "_law_cap" "_law_cap" s_law_cap a fd ∧ Binds G.K fd ["_law_task", "_law_node"] []
  f_law_open : ∃ (a : Addr) (fd : FuncData), G.mg "_law_open" = some (.ref a) ∧ Fun G.K "_law_open" "_law_open" s_law_open a fd ∧ Binds G.K fd ["_law_task", "_law_status"] []
  f_law_allows : ∃ (a : Addr) (fd : FuncData), G.mg "_law_allows" = some (.ref a) ∧ Fun G.K "_law_allows" "_law_allows" s_law_allows a fd ∧ Binds G.K fd ["_law_task", "_law_status", "_law_node"] []
  f_law_owes : ∃ (a : Addr) (fd : FuncData), G.mg "_law_owes" = some (.ref a) ∧ Fun G.K "_law_owes" "_law_owes" s_law_owes a fd ∧ Binds G.K fd ["_law_task", "_law_status"] []
  f_law_held : ∃ (a : Addr) (fd : FuncData), G.mg "_law_held" = some (.ref a) ∧ Fun G.K "_law_held" "_law_held" s_law_held a fd ∧ Binds G.K fd ["_law_task", "_law_status"] []
  f_law_needed : ∃ (a : Addr) (fd : FuncData), G.mg "_law_needed" = some (.ref a) ∧ Fun G.K "_law_needed" "_law_needed" s_law_needed a fd ∧ Binds G.K fd ["_law_task", "_law_status"] []
  f_law_entry : ∃ (a : Addr) (fd : FuncData), G.mg "_law_entry" = some (.ref a) ∧ Fun G.K "_law_entry" "_law_entry" s_law_entry a fd ∧ Binds G.K fd ["_law_number"] []
  f_law_wide_task : ∃ (a : Addr) (fd : FuncData), G.mg "_law_wide_task" = some (.ref a) ∧ Fun G.K "_law_wide_task" "_law_wide_task" s_law_wide_task a fd ∧ Binds G.K fd ["_law_d"] []
  f_law_statuses : ∃ (a : Addr) (fd : FuncData), G.mg "_law_statuses" = some (.ref a) ∧ Fun G.K "_law_statuses" "_law_statuses" s_law_statuses a fd ∧ Binds G.K fd ["_law_task"] []
  f_law_right : ∃ (a : Addr) (fd : FuncData), G.mg "_law_right" = some (.ref a) ∧ Fun G.K "_law_right" "_law_right" s_law_right a fd ∧ Binds G.K fd ["_law_task", "_law_made", "_law_status"] []
  f_law : ∃ (a : Addr) (fd : FuncData), G.mg "law" = some (.ref a) ∧ Fun G.K "law" "law" s_law a fd ∧ Binds G.K fd ["_law_script"] []
  f_Task_cap : ∃ (a : Addr) (fd : FuncData), Meth G.K (G.cls 0) "cap" a ∧ Fun G.K "cap" "Task.cap" s_Task_cap a fd ∧ Binds G.K fd ["self", "node"] []
  f_Task_unfinished : ∃ (a : Addr) (fd : FuncData), Meth G.K (G.cls 0) "unfinished" a ∧ Fun G.K "unfinished" "Task.unfinished" s_Task_unfinished a fd ∧ Binds G.K fd ["self", "status"] []
  f_Task_allows : ∃ (a : Addr) (fd : FuncData), Meth G.K (G.cls 0) "allows" a ∧ Fun G.K "allows" "Task.allows" s_Task_allows a fd ∧ Binds G.K fd ["self", "status", "node"] []
  f_Task_owes : ∃ (a : Addr) (fd : FuncData), Meth G.K (G.cls 0) "owes" a ∧ Fun G.K "owes" "Task.owes" s_Task_owes a fd ∧ Binds G.K fd ["self", "status"] []
  f_Task_held : ∃ (a : Addr) (fd : FuncData), Meth G.K (G.cls 0) "held" a ∧ Fun G.K "held" "Task.held" s_Task_held a fd ∧ Binds G.K fd ["self", "status"] []
  f_Task_needed : ∃ (a : Addr) (fd : FuncData), Meth G.K (G.cls 0) "needed" a ∧ Fun G.K "needed" "Task.needed" s_Task_needed a fd ∧ Binds G.K fd ["self", "status"] []
  f_Task_come : ∃ (a : Addr) (fd : FuncData), Meth G.K (G.cls 0) "come" a ∧ Fun G.K "come" "Task.come" s_Task_come a fd ∧ Binds G.K fd ["self", "status", "node", "door"] []
  f_Task_server : ∃ (p a : Addr) (fd : FuncData), PropOf G.K (G.cls 0) "server" p a ∧ Fun G.K "server" "Task.server" s_Task_server a fd ∧ Binds G.K fd ["self"] []
  k0 : ∃ (a : Addr) (fd : FuncData), G.mg "Task" = some (.ref (G.cls 0)) ∧ Mk G.K (G.cls 0) a ∧ Fun G.K "__init__" "Task.__init__" s_Task_init a fd ∧ KBn G.K fd ["self", "nodes", "edges", "steady"] 3 ["steady"] (fun us ws => us ++ ws) (fun vs zs => vs ++ zs)
theorem blts {G : Gl0} (T : Txt G) : ∀ x, x ∈ (["abs", "all", "any", "bool", "int", "isinstance", "len", "list", "max", "min", "range", "sorted", "tuple"] : List Str) → G.mg x = none := by
  intro x hx
  simp only [List.mem_cons, List.not_mem_nil, or_false] at hx
  rcases hx with rfl | rfl | rfl | rfl | rfl | rfl | rfl | rfl | rfl | rfl | rfl | rfl | rfl
  · exact T.blt0
  · exact T.blt1
  · exact T.blt2
  · exact T.blt3
  · exact T.blt4
  · exact T.blt5
  · exact T.blt6
  · exact T.blt7
  · exact T.blt8
  · exact T.blt9
  · exact T.blt10
  · exact T.blt11
  · exact T.blt12
theorem facts {G : Gl0} (T : Txt G) : ∀ k, Facts G (2 * k + 1) (Sg k)
  | 0 => ⟨(at_cons (by obtain ⟨a, fd, h1, h2, h3⟩ := T.f_are_nodes; exact ⟨⟨a, fd, _, h1, h2.kp, h3, vac_fn⟩⟩)
    (at_cons (by obtain ⟨a, fd, h1, h2, h3⟩ := T.f_is_entry; exact ⟨⟨a, fd, _, h1, h2.kp, h3, vac_fn⟩⟩)
    (at_cons (by obtain ⟨a, fd, h1, h2, h3⟩ := T.f_are_edges; exact ⟨⟨a, fd, _, h1, h2.kp, h3, vac_fn⟩⟩)
    (at_cons (by obtain ⟨a, fd, h1, h2, h3⟩ := T.f_law_cell; exact ⟨⟨a, fd, _, h1, h2.kp, h3, vac_fn⟩⟩)
    (at_cons (by obtain ⟨a, fd, h1, h2, h3⟩ := T.f_law_draws; exact ⟨⟨a, fd, _, h1, h2.kp, h3, vac_fn⟩⟩)
    (at_cons (by obtain ⟨a, fd, h1, h2, h3⟩ := T.f_law_cap; exact ⟨⟨a, fd, _, h1, h2.kp, h3, vac_fn⟩⟩)
    (at_cons (by obtain ⟨a, fd, h1, h2, h3⟩ := T.f_law_open; exact ⟨⟨a, fd, _, h1, h2.kp, h3, vac_fn⟩⟩)
    (at_cons (by obtain ⟨a, fd, h1, h2, h3⟩ := T.f_law_allows; exact ⟨⟨a, fd, _, h1, h2.kp, h3, vac_fn⟩⟩)
    (at_cons (by obtain ⟨a, fd, h1, h2, h3⟩ := T.f_law_owes; exact ⟨⟨a, fd, _, h1, h2.kp, h3, vac_fn⟩⟩)
    (at_cons (by obtain ⟨a, fd, h1, h2, h3⟩ := T.f_law_held; exact ⟨⟨a, fd, _, h1, h2.kp, h3, vac_fn⟩⟩)
    (at_cons (by obtain ⟨a, fd, h1, h2, h3⟩ := T.f_law_needed; exact ⟨⟨a, fd, _, h1, h2.kp, h3, vac_fn⟩⟩)
    (at_cons (by obtain ⟨a, fd, h1, h2, h3⟩ := T.f_law_entry; exact ⟨⟨a, fd, _, h1, h2.kp, h3, vac_fn⟩⟩)
    (at_cons (by obtain ⟨a, fd, h1, h2, h3⟩ := T.f_law_wide_task; exact ⟨⟨a, fd, _, h1, h2.kp, h3, vac_fn⟩⟩)
    (at_cons (by obtain ⟨a, fd, h1, h2, h3⟩ := T.f_law_statuses; exact ⟨⟨a, fd, _, h1, h2.kp, h3, vac_fn⟩⟩)
    (at_cons (by obtain ⟨a, fd, h1, h2, h3⟩ := T.f_law_right; exact ⟨⟨a, fd, _, h1, h2.kp, h3, vac_fn⟩⟩)
    (at_cons (by obtain ⟨a, fd, h1, h2, h3⟩ := T.f_law; exact ⟨⟨a, fd, _, h1, h2.kp, h3, vac_fn⟩⟩)
    at_nil)))))))))))))))),
   (at_cons (by obtain ⟨a, fd, h1, h2, h3⟩ := T.f_Task_cap; exact ⟨⟨a, fd, _, T.cls0, h1, h3, vac_fn⟩⟩)
    (at_cons (by obtain ⟨a, fd, h1, h2, h3⟩ := T.f_Task_unfinished; exact ⟨⟨a, fd, _, T.cls0, h1, h3, vac_fn⟩⟩)
    (at_cons (by obtain ⟨a, fd, h1, h2, h3⟩ := T.f_Task_allows; exact ⟨⟨a, fd, _, T.cls0, h1, h3, vac_fn⟩⟩)
    (at_cons (by obtain ⟨a, fd, h1, h2, h3⟩ := T.f_Task_owes; exact ⟨⟨a, fd, _, T.cls0, h1, h3, vac_fn⟩⟩)
    (at_cons (by obtain ⟨a, fd, h1, h2, h3⟩ := T.f_Task_held; exact ⟨⟨a, fd, _, T.cls0, h1, h3, vac_fn⟩⟩)
    (at_cons (by obtain ⟨a, fd, h1, h2, h3⟩ := T.f_Task_needed; exact ⟨⟨a, fd, _, T.cls0, h1, h3, vac_fn⟩⟩)
    (at_cons (by obtain ⟨a, fd, h1, h2, h3⟩ := T.f_Task_come; exact ⟨⟨a, fd, _, T.cls0, h1, h3, vac_fn⟩⟩)
    at_nil))))))),
   (at_cons (by obtain ⟨p, a, fd, h1, h2, h3⟩ := T.f_Task_server; exact ⟨⟨⟨p, a, fd, _, T.cls0, h1, h3, vac_fn⟩⟩, by omega⟩)
    at_nil),
   (at_cons (by obtain ⟨a, fd, h1, h2, h3, h4⟩ := T.k0; exact ⟨⟨⟨a, fd, _, h1, h2, vac_in, (fun z => by cases z), (fun kn z => by cases z; exact h4)⟩⟩, by omega⟩)
    at_nil),
   (fun i c f h => (at_cons (P := fun p => Cls G.K (G.cls p.1) ∧ NoAttr G.K (G.cls p.1) p.2) ⟨T.cls0, T.na0⟩
    (at_cons ⟨T.cls0, T.na1⟩
    (at_cons ⟨T.cls0, T.na2⟩
    at_nil))) i (c, f) h),
   (fun i x d h => (at_cons (P := fun p => ∃ (u : Value) (v : V), G.mg p.1 = some u ∧ RelV v u ∧ ∀ F, Rep G F v p.2) T.con0
    (at_cons T.con1
    (at_cons T.con2
    (at_cons T.con3
    (at_cons T.con4
    at_nil))))) i (x, d) h),
   blts T⟩
  | k + 1 => have ih := facts T k
  ⟨(at_cons (by obtain ⟨a, fd, h1, h2, h3⟩ := T.f_are_nodes; exact ⟨⟨a, fd, _, h1, h2.kp, h3, ((fn_ok h2 sc_are_nodes ih (d_are_nodes k)).mono (by omega))⟩⟩)
    (at_cons (by obtain ⟨a, fd, h1, h2, h3⟩ := T.f_is_entry; exact ⟨⟨a, fd, _, h1, h2.kp, h3, ((fn_ok h2 sc_is_entry ih (d_is_entry k)).mono (by omega))⟩⟩)
    (at_cons (by obtain ⟨a, fd, h1, h2, h3⟩ := T.f_are_edges; exact ⟨⟨a, fd, _, h1, h2.kp, h3, ((fn_ok h2 sc_are_edges ih (d_are_edges k)).mono (by omega))⟩⟩)
    (at_cons (by obtain ⟨a, fd, h1, h2, h3⟩ := T.f_law_cell; exact ⟨⟨a, fd, _, h1, h2.kp, h3, ((fn_ok h2 sc_law_cell ih (d_law_cell k)).mono (by omega))⟩⟩)
    (at_cons (by obtain ⟨a, fd, h1, h2, h3⟩ := T.f_law_draws; exact ⟨⟨a, fd, _, h1, h2.kp, h3, ((fn_ok h2 sc_law_draws ih (d_law_draws k)).mono (by omega))⟩⟩)
    (at_cons (by obtain ⟨a, fd, h1, h2, h3⟩ := T.f_law_cap; exact ⟨⟨a, fd, _, h1, h2.kp, h3, ((fn_ok h2 sc_law_cap ih (d_law_cap k)).mono (by omega))⟩⟩)
    (at_cons (by obtain ⟨a, fd, h1, h2, h3⟩ := T.f_law_open; exact ⟨⟨a, fd, _, h1, h2.kp, h3, ((fn_ok h2 sc_law_open ih (d_law_open k)).mono (by omega))⟩⟩)
    (at_cons (by obtain ⟨a, fd, h1, h2, h3⟩ := T.f_law_allows; exact ⟨⟨a, fd, _, h1, h2.kp, h3, ((fn_ok h2 sc_law_allows ih (d_law_allows k)).mono (by omega))⟩⟩)
    (at_cons (by obtain ⟨a, fd, h1, h2, h3⟩ := T.f_law_owes; exact ⟨⟨a, fd, _, h1, h2.kp, h3, ((fn_ok h2 sc_law_owes ih (d_law_owes k)).mono (by omega))⟩⟩)
    (at_cons (by obtain ⟨a, fd, h1, h2, h3⟩ := T.f_law_held; exact ⟨⟨a, fd, _, h1, h2.kp, h3, ((fn_ok h2 sc_law_held ih (d_law_held k)).mono (by omega))⟩⟩)
    (at_cons (by obtain ⟨a, fd, h1, h2, h3⟩ := T.f_law_needed; exact ⟨⟨a, fd, _, h1, h2.kp, h3, ((fn_ok h2 sc_law_needed ih (d_law_needed k)).mono (by omega))⟩⟩)
    (at_cons (by obtain ⟨a, fd, h1, h2, h3⟩ := T.f_law_entry; exact ⟨⟨a, fd, _, h1, h2.kp, h3, ((fn_ok h2 sc_law_entry ih (d_law_entry k)).mono (by omega))⟩⟩)
    (at_cons (by obtain ⟨a, fd, h1, h2, h3⟩ := T.f_law_wide_task; exact ⟨⟨a, fd, _, h1, h2.kp, h3, ((fn_ok h2 sc_law_wide_task ih (d_law_wide_task k)).mono (by omega))⟩⟩)
    (at_cons (by obtain ⟨a, fd, h1, h2, h3⟩ := T.f_law_statuses; exact ⟨⟨a, fd, _, h1, h2.kp, h3, ((fn_ok h2 sc_law_statuses ih (d_law_statuses k)).mono (by omega))⟩⟩)
    (at_cons (by obtain ⟨a, fd, h1, h2, h3⟩ := T.f_law_right; exact ⟨⟨a, fd, _, h1, h2.kp, h3, ((fn_ok h2 sc_law_right ih (d_law_right k)).mono (by omega))⟩⟩)
    (at_cons (by obtain ⟨a, fd, h1, h2, h3⟩ := T.f_law; exact ⟨⟨a, fd, _, h1, h2.kp, h3, ((fn_ok h2 sc_law ih (d_law k)).mono (by omega))⟩⟩)
    at_nil)))))))))))))))),
   (at_cons (by obtain ⟨a, fd, h1, h2, h3⟩ := T.f_Task_cap; exact ⟨⟨a, fd, _, T.cls0, h1, h3, ((fn_ok h2 sc_Task_cap ih (d_Task_cap k)).mono (by omega))⟩⟩)
    (at_cons (by obtain ⟨a, fd, h1, h2, h3⟩ := T.f_Task_unfinished; exact ⟨⟨a, fd, _, T.cls0, h1, h3, ((fn_ok h2 sc_Task_unfinished ih (d_Task_unfinished k)).mono (by omega))⟩⟩)
    (at_cons (by obtain ⟨a, fd, h1, h2, h3⟩ := T.f_Task_allows; exact ⟨⟨a, fd, _, T.cls0, h1, h3, ((fn_ok h2 sc_Task_allows ih (d_Task_allows k)).mono (by omega))⟩⟩)
    (at_cons (by obtain ⟨a, fd, h1, h2, h3⟩ := T.f_Task_owes; exact ⟨⟨a, fd, _, T.cls0, h1, h3, ((fn_ok h2 sc_Task_owes ih (d_Task_owes k)).mono (by omega))⟩⟩)
    (at_cons (by obtain ⟨a, fd, h1, h2, h3⟩ := T.f_Task_held; exact ⟨⟨a, fd, _, T.cls0, h1, h3, ((fn_ok h2 sc_Task_held ih (d_Task_held k)).mono (by omega))⟩⟩)
    (at_cons (by obtain ⟨a, fd, h1, h2, h3⟩ := T.f_Task_needed; exact ⟨⟨a, fd, _, T.cls0, h1, h3, ((fn_ok h2 sc_Task_needed ih (d_Task_needed k)).mono (by omega))⟩⟩)
    (at_cons (by obtain ⟨a, fd, h1, h2, h3⟩ := T.f_Task_come; exact ⟨⟨a, fd, _, T.cls0, h1, h3, ((fn_ok h2 sc_Task_come ih (d_Task_come k)).mono (by omega))⟩⟩)
    at_nil))))))),
   (at_cons (by obtain ⟨p, a, fd, h1, h2, h3⟩ := T.f_Task_server; exact ⟨⟨⟨p, a, fd, _, T.cls0, h1, h3, ((fn_ok h2 sc_Task_server ih (d_Task_server k)).mono (by omega))⟩⟩, by omega⟩)
    at_nil),
   (at_cons (by obtain ⟨a, fd, h1, h2, h3, h4⟩ := T.k0; exact ⟨⟨⟨a, fd, _, h1, h2, ((init_ok rfl h3 sc_Task_init ih (d_Task_init k)).mono (by omega)), (fun z => by cases z), (fun kn z => by cases z; exact h4)⟩⟩, by omega⟩)
    at_nil),
   (fun i c f h => (at_cons (P := fun p => Cls G.K (G.cls p.1) ∧ NoAttr G.K (G.cls p.1) p.2) ⟨T.cls0, T.na0⟩
    (at_cons ⟨T.cls0, T.na1⟩
    (at_cons ⟨T.cls0, T.na2⟩
    at_nil))) i (c, f) h),
   (fun i x d h => (at_cons (P := fun p => ∃ (u : Value) (v : V), G.mg p.1 = some u ∧ RelV v u ∧ ∀ F, Rep G F v p.2) T.con0
    (at_cons T.con1
    (at_cons T.con2
    (at_cons T.con3
    (at_cons T.con4
    at_nil))))) i (x, d) h),
   blts T⟩
end K

set_option Elab.async false
set_option linter.all false
set_option maxRecDepth 100000
set_option maxHeartbeats 4000000
namespace K
open PySem L2 EL
/-! mirrors -/
abbrev Node := List Str × Int
abbrev Edge := Int × Int × Int
def tPlan (p : List Str) : D := .tup (p.map .str)
def tNode (n : Node) : D := .tup [tPlan n.1, .int n.2]
def tEdge (e : Edge) : D := .tup [.int e.1, .int e.2.1, .int e.2.2]
def tTask (ns : List Node) (es : List Edge) (s : Bool) : D := .tup [.lst (ns.map tNode), .lst (es.map tEdge), .bl s]
def tStat (n a d o : Int) : D := .tup [.int n, .int a, .int d, .int o]
theorem m_open (k : Nat) (ns : List Node) (es : List Edge) (s : Bool) (n a d o : Int) (nd : Node) (h : 0 ≤ n → atI ns n = some nd) :
    runF (Sg k) 0 2 2 b_law_open [tTask ns es s, tStat n a d o] = some (.bl (decide (0 ≤ n) && (decide (o = 1) || decide (d < nd.1.length)))) := by
  unfold runF b_law_open
  simp only [exs, ex, ev, evs, frzV, tTask, tStat, List.map_cons, List.map_nil, List.getElem?_cons_zero, List.getElem?_cons_succ, Option.bind_some, Option.map_some, ix_t, ix_l, at4_0, at4_1, at4_2, at4_3, at3_0, at3_1, at3_2, at2_0, at2_1, ge_i, eq_i, lt_i, len_t, len_l, List.cons_append, List.nil_append, List.replicate]
  by_cases h0 : 0 ≤ n
  · by_cases h1 : o = 1
    · simp [h0, h1]
    · simp [h0, h1, atI_map, h h0, tNode, tPlan, ix_t, at2_0, len_t, lt_i]
  · simp [h0]
/-- a status that a task of these nodes can have -/
def capI (ns : List Node) (es : List Edge) (n due : Int) : Int := maxI due ((es.filter fun e => decide (e.1 = n)).map fun e => e.2.2)
theorem m_cap (k : Nat) (ns : List Node) (es : List Edge) (s : Bool) (n : Int) (nd : Node) (h : atI ns n = some nd) (he : es.length ≤ 1000) :
    runF (Sg k) 0 2 3 b_law_cap [tTask ns es s, .int n] = some (.int (capI ns es n nd.2)) := by
  have hc : ∀ br, ev (Sg k) br (.lc (.nm 2) (.ex (.idx (.var 0) (.int 1))) [(.cmp .Eq (.idx (.var 2) (.int 0)) (.var 1))] (.idx (.var 2) (.int 2)) [("_law_edge", 2)]) [.sh (tTask ns es s), .sh (.int n), .un] = some (.lst ((es.filter fun e => decide (e.1 = n)).map fun e => .int e.2.2)) := fun br =>
    lc_filter (l := es) (g := tEdge) (by simp [evI, ev, tTask, ix_t, at3_1]) (by omega) fun e _ => by
      simp [turnC, bindT, wipeE, evTs, evT, ev, tEdge, ix_t, at3_0, at3_2, eq_i]
      by_cases q : e.1 = n <;> simp [q]
  have hx : ∀ br, ev (Sg k) br (.idx (.idx (.idx (.var 0) (.int 0)) (.var 1)) (.int 1)) [.sh (tTask ns es s), .sh (.int n), .un] = some (.int nd.2) := fun br => by
    simp [ev, tTask, ix_t, ix_l, at3_0, atI_map, h, tNode, at2_1]
  have hl : (es.filter fun e => decide (e.1 = n)).length ≤ 1000 := Nat.le_trans (List.length_filter_le _ _) he
  show (exs (Sg k) 0 b_law_cap [.sh (tTask ns es s), .sh (.int n), .un]).bind _ = _
  unfold b_law_cap
  have hb : ev (Sg k) true (.bin .Add (.lst [(.idx (.idx (.idx (.var 0) (.int 0)) (.var 1)) (.int 1))]) (.lc (.nm 2) (.ex (.idx (.var 0) (.int 1))) [(.cmp .Eq (.idx (.var 2) (.int 0)) (.var 1))] (.idx (.var 2) (.int 2)) [("_law_edge", 2)])) [.sh (tTask ns es s), .sh (.int n), .un] = some (.lst (.int nd.2 :: (es.filter fun e => decide (e.1 = n)).map fun e => .int e.2.2)) := by
    unfold ev
    rw [hc]
    unfold ev
    simp only [evs, hx]
    simp [binD]
    omega
  simp only [exs, ex, frzV, List.map_cons, List.map_nil]
  unfold ev
  simp only [evs, hb]
  simp [bsem, toInts, ints_map, capI]
end K

set_option Elab.async false
set_option linter.all false
set_option maxRecDepth 100000
set_option maxHeartbeats 4000000
namespace K
open PySem L2 EL
theorem m_cell (k : Nat) (ns : List Int) (hl : ns.length ≤ 63) : ∃ c : Int, runF (Sg k) 0 2 2 b_law_cell [.lst (ns.map .int), .int 0] = some (.int c) := by
  cases ns with
  | nil => exact ⟨0, rfl⟩
  | cons a r =>
    refine ⟨a, ?_⟩
    have h : exs (Sg k) 0 b_law_cell [.sh (.lst ((a :: r).map .int)), .sh (.int 0)] = some (.rt (.int a)) :=
      x_ret (s_if (t_cmp (r_var rfl) (r_bi (r_cons (r_var rfl) r_nil) len_l) lt_i)
        (fun _ => x_ret (s_ret (r_idx (r_var rfl) (r_var rfl) (by
          rw [ix_l, atI_map, show atI (a :: r) 0 = some a from atI_nat (j := 0) (by rfl)]
          rfl))))
        (fun z => by simp at z))
    show (exs (Sg k) 0 b_law_cell [.sh (.lst ((a :: r).map .int)), .sh (.int 0)]).bind _ = _
    rw [h]
    rfl
/-- what the draws' loop keeps -/
def DrawP (c : Int) (at_ : Int) (sc : D) (i : Nat) (env : List SV) : Prop := ∃ (rest : Int) (xs : List Int) (a b : SV), env = [.sh sc, .sh (.int at_), .sh (.int 24), .sh (.int c), .sh (.int rest), .ow (.lst (xs.map .int)), a, b] ∧ xs.length = i ∧ ∀ x ∈ xs, 0 ≤ x ∧ x < 60
theorem mod_i {i j : Int} (h : j ≠ 0) : binD .Mod (.int i) (.int j) = some (.int (i.fmod j)) := by
  show (if decide (j ≠ 0) = true then some (D.int (i.fmod j)) else none) = _
  rw [if_pos (decide_eq_true h)]
theorem mul_i {i j : Int} (h : mulOk i j = true) : binD .Mult (.int i) (.int j) = some (.int (i * j)) := by
  show (if mulOk i j = true then some (D.int (i * j)) else none) = _
  rw [if_pos h]
theorem fdv_i {i j : Int} (h : j ≠ 0) (h2 : j.natAbs < 1073741824) : binD .FloorDiv (.int i) (.int j) = some (.int (i.fdiv j)) := by
  show (if (decide (j ≠ 0) && decide (j.natAbs < 1073741824)) = true then some (D.int (i.fdiv j)) else none) = _
  rw [if_pos (by rw [decide_eq_true h, decide_eq_true h2]; rfl)]
theorem mod_bd {i j : Int} (h : 0 < j) : 0 ≤ i.fmod j ∧ i.fmod j < j := ⟨Int.fmod_nonneg_of_pos i h, Int.fmod_lt_of_pos i h⟩
def bodyDraws : List IS := match b_law_draws with | [_, _, _, _, .fr _ _ b, _] => b | _ => []
theorem turn_draws (k : Nat) (sc : D) (at_ c j : Int) (rest : Int) (xs : List Int) (b : SV) (hx : ∀ x ∈ xs, 0 ≤ x ∧ x < 60) (hl : xs.length < 1000) (hj : 0 ≤ j ∧ j < 1000) (ha : 0 ≤ at_ ∧ at_ < 1000) :
    ∃ (rest' x : Int) (b' : SV), (0 ≤ x ∧ x < 60) ∧ exs (Sg k) 0 bodyDraws [.sh sc, .sh (.int at_), .sh (.int 24), .sh (.int c), .sh (.int rest), .ow (.lst (xs.map .int)), .sh (.int j), b] =
      some (.nx [.sh sc, .sh (.int at_), .sh (.int 24), .sh (.int c), .sh (.int rest'), .ow (.lst (xs.map .int ++ [.int x])), .sh (.int j), b']) := by
  have hl2 : (xs.map D.int).length < 100000 := by
    rw [List.length_map]
    omega
  by_cases h : 0 < rest
  · refine ⟨rest.fdiv 60, rest.fmod 60, b, mod_bd (by decide), ?_⟩
    refine x_cons (s_if (p := true) (t_cmp (r_var rfl) r_int (by rw [gt_i, decide_eq_true h])) (fun _ => ?_) (fun z => by cases z)) x_nil
    exact x_cons (s_app rfl (r_bin (r_bi (r_cons (r_var rfl) r_nil) int_i) r_int (mod_i (by decide))) hl2)
      (x_cons (s_asg (r_bin (r_var rfl) r_int (fdv_i (by decide) (by decide))) (by simp)) x_nil)
  · generalize h1 : (c * 48271 + j * 69621 + at_ * 7919 + 12345).fmod 99991 = m1
    have q1 : 0 ≤ m1 ∧ m1 < 99991 := by rw [← h1]; exact mod_bd (by decide)
    generalize h2 : (m1 * m1 + j * 101).fmod 999983 = m2
    have q2 : 0 ≤ m2 ∧ m2 < 999983 := by rw [← h2]; exact mod_bd (by decide)
    generalize h3 : (m2 * m2 + m2.fdiv 127).fmod 9999991 = m3
    refine ⟨rest, (m3.fdiv 11).fmod 60, .sh (.int m3), mod_bd (by decide), ?_⟩
    refine x_cons (s_if (p := false) (t_cmp (r_var rfl) r_int (by rw [gt_i, decide_eq_false h])) (fun z => by cases z) (fun _ => ?_)) x_nil
    refine x_cons (s_asg (d := .int m1) (r_bin (r_bi (r_cons (r_bin (r_bin (r_bin (r_bin (r_var rfl) r_int (mul_i ?_)) (r_bin (r_var rfl) r_int (mul_i ?_)) add_i) (r_bin (r_var rfl) r_int (mul_i ?_)) add_i) r_int add_i) r_nil) int_i) r_int (by rw [← h1]; exact mod_i (by decide))) (by simp)) ?_
    · simp [mulOk]
    · simp [mulOk]
    · simp [mulOk]
    refine x_cons (s_asg (d := .int m2) (r_bin (r_bi (r_cons (r_bin (r_bin (r_var rfl) (r_var rfl) (mul_i ?_)) (r_bin (r_var rfl) r_int (mul_i ?_)) add_i) r_nil) int_i) r_int (by rw [← h2]; exact mod_i (by decide))) (by simp)) ?_
    · unfold mulOk
      rw [decide_eq_true (by omega), decide_eq_true (by omega)]
      rfl
    · simp [mulOk]
    refine x_cons (s_asg (d := .int m3) (r_bin (r_bi (r_cons (r_bin (r_bin (r_var rfl) (r_var rfl) (mul_i ?_)) (r_bin (r_var rfl) r_int (fdv_i (by decide) (by decide))) add_i) r_nil) int_i) r_int (by rw [← h3]; exact mod_i (by decide))) (by simp)) ?_
    · unfold mulOk
      rw [decide_eq_true (by omega), decide_eq_true (by omega)]
      rfl
    exact x_cons (s_app rfl (r_bin (r_bi (r_cons (r_bin (r_var rfl) r_int (fdv_i (by decide) (by decide))) r_nil) int_i) r_int (mod_i (by decide))) hl2) x_nil
theorem m_draws (k : Nat) (ns : List Int) (hl : ns.length ≤ 63) : ∃ xs : List Int, runF (Sg (k + 1)) 0 3 8 b_law_draws [.lst (ns.map .int), .int 0, .int 24] = some (.lst (xs.map .int)) ∧ xs.length = 24 ∧ ∀ x ∈ xs, 0 ≤ x ∧ x < 60 := by
  obtain ⟨c0, hc⟩ := m_cell k ns hl
  generalize esc : (D.lst (ns.map .int)) = sc at hc ⊢
  generalize ec : (if c0 < 0 then -c0 else c0) = c
  have loop : ∀ rest : Int, ∃ e', exFor (exs (Sg (k + 1)) 0 bodyDraws) (.nm 6) ((List.range 24).map fun (i : Nat) => D.int (i : Int)) [.sh sc, .sh (.int 0), .sh (.int 24), .sh (.int c), .sh (.int rest), .ow (.lst []), .un, .un] = some (.nx e') ∧ DrawP c 0 sc (0 + ((List.range 24).map fun (i : Nat) => D.int (i : Int)).length) e' := fun rest =>
    for_inv (DrawP c 0 sc) ⟨rest, [], .un, .un, rfl, rfl, fun _ h => by cases h⟩ fun i d e hd he => by
      obtain ⟨rest, xs, a, b, rfl, hx, hb⟩ := he
      rw [List.getElem?_map, Option.map_eq_some_iff] at hd
      obtain ⟨j, hj, rfl⟩ := hd
      have hj2 : j < 24 := by
        have := List.mem_of_getElem? hj
        simpa using this
      have hi : i < 24 := by
        have := (List.getElem?_eq_some_iff.mp hj).1
        simpa using this
      obtain ⟨rest', x, b', q1, q2⟩ := turn_draws (k + 1) sc 0 c (j : Int) rest xs b hb (by omega) (by omega) (by decide)
      refine ⟨_, _, rfl, q2, rest', xs ++ [x], _, _, by rw [List.map_append]; rfl, by rw [List.length_append, hx]; rfl, fun y hy => ?_⟩
      rcases List.mem_append.mp hy with hy | hy
      · exact hb y hy
      · have e : y = x := by simpa using hy
        subst e
        exact q1
  have pw : binD .Pow (.int 10) (.int 18) = some (.int 1000000000000000000) := by rfl
  have h1 : ex (Sg (k + 1)) 0 (.asg 3 (.bi .abs [(.call 3 [(.var 0), (.var 1)])])) [.sh sc, .sh (.int 0), .sh (.int 24), .un, .un, .un, .un, .un] = some (.nx [.sh sc, .sh (.int 0), .sh (.int 24), .sh (.int c), .un, .un, .un, .un]) := by
    refine s_asg (d := .int c) (r_bi (r_cons (r_call (d := .int c0) rfl (r_cons (r_var rfl) (r_cons (r_var rfl) r_nil)) rfl hc) r_nil) ?_) (by simp)
    rw [abs_i, ec]
  have h2 : ∃ rest : Int, ex (Sg (k + 1)) 0 (.iff (.cmp .GtE (.var 3) (.bin .Pow (.int 10) (.int 18))) [.asg 4 (.bin .Sub (.var 3) (.bin .Pow (.int 10) (.int 18)))] []) [.sh sc, .sh (.int 0), .sh (.int 24), .sh (.int c), .sh (.int 0), .un, .un, .un] = some (.nx [.sh sc, .sh (.int 0), .sh (.int 24), .sh (.int c), .sh (.int rest), .un, .un, .un]) := by
    by_cases h : (1000000000000000000 : Int) ≤ c
    · exact ⟨c - 1000000000000000000, s_if (p := true) (t_cmp (r_var rfl) (r_bin r_int r_int pw) (by rw [ge_i, decide_eq_true h])) (fun _ => x_cons (s_asg (r_bin (r_var rfl) (r_bin r_int r_int pw) sub_i) (by simp)) x_nil) (fun z => by cases z)⟩
    · exact ⟨0, s_if (p := false) (t_cmp (r_var rfl) (r_bin r_int r_int pw) (by rw [ge_i, decide_eq_false h])) (fun z => by cases z) fun _ => x_nil⟩
  obtain ⟨rest, h2⟩ := h2
  obtain ⟨e', h3, rest', xs, a, b, rfl, hx, hb⟩ := loop rest
  refine ⟨xs, ?_, by simpa using hx, hb⟩
  have h4 : exs (Sg (k + 1)) 0 b_law_draws [.sh sc, .sh (.int 0), .sh (.int 24), .un, .un, .un, .un, .un] = some (.rt (.lst (xs.map .int))) :=
    x_cons h1 (x_cons (s_asg (d := .int 0) r_int (by simp)) (x_cons h2 (x_cons (s_asO (d := .lst []) (r_lst r_nil (by simp)) (by simp)) (x_cons (s_for (by
      unfold evI
      rw [r_var (d := .int 24) rfl]
      rfl) (by simp) h3) (x_ret (s_ret (r_var rfl)))))))
  show (exs (Sg (k + 1)) 0 b_law_draws [.sh sc, .sh (.int 0), .sh (.int 24), .un, .un, .un, .un, .un]).bind _ = _
  rw [h4]
  rfl
end K

set_option Elab.async false
set_option linter.all false
set_option maxRecDepth 100000
set_option maxHeartbeats 4000000
namespace K
open PySem L2 EL
def ents : List Str := ["", "a", "b", "c", "ab", "ac", "bc", "abc", "", "a", "b", "c"]
def entF (x : Int) : Str := (ents[(x.fmod 12).toNat]?).getD ""
theorem ent_mem (x : Int) : entF x ∈ ents := by
  have h := mod_bd (i := x) (j := 12) (by decide)
  have hl : (x.fmod 12).toNat < ents.length := by
    show (x.fmod 12).toNat < 12
    omega
  unfold entF
  rw [List.getElem?_eq_getElem hl]
  exact List.getElem_mem hl
theorem m_entry (k : Nat) (x : Int) : runF (Sg k) 0 1 1 b_law_entry [.int x] = some (.str (entF x)) := by
  have h := mod_bd (i := x) (j := 12) (by decide)
  obtain ⟨n, hn⟩ : ∃ n : Nat, x.fmod 12 = n := ⟨(x.fmod 12).toNat, by omega⟩
  have hl : n < 12 := by omega
  have e : atI (ents.map D.str) (x.fmod 12) = some (.str (entF x)) := by
    unfold entF
    rw [hn, atI_map, Int.toNat_natCast]
    have hg : ents[n]? = some (ents[n]'hl) := List.getElem?_eq_getElem _
    rw [atI_nat hg, hg]
    rfl
  have h1 : exs (Sg k) 0 b_law_entry [.sh (.int x)] = some (.rt (.str (entF x))) :=
    x_ret (s_ret (r_idx (x := .lst (ents.map D.str)) (y := .int (x.fmod 12)) (r_lst (by
      repeat (first | exact r_nil | refine r_cons r_str ?_)) (by decide)) (r_bin (r_bi (r_cons (r_var rfl) r_nil) int_i) r_int (mod_i (by decide))) e))
  show (exs (Sg k) 0 b_law_entry [.sh (.int x)]).bind _ = _
  rw [h1]
  rfl
/-- the j-th draw -/
def dd (xs : List Int) (j : Nat) : Int := (xs[j]?).getD 0
theorem at_d {xs : List Int} (hx : xs.length = 24) {j : Nat} (hj : j < 24) {i : Int} (e : i = j) : atI (xs.map D.int) i = some (.int (dd xs j)) := by
  subst e
  have hg : xs[j]? = some (xs[j]'(by omega)) := List.getElem?_eq_getElem _
  unfold dd
  rw [atI_map, atI_nat hg, hg]
  rfl
theorem dd_bd {xs : List Int} (hb : ∀ x ∈ xs, 0 ≤ x ∧ x < 60) (j : Nat) : 0 ≤ dd xs j ∧ dd xs j < 60 := by
  unfold dd
  cases h : xs[j]? with
  | none => exact ⟨Int.le_refl _, by decide⟩
  | some x => exact hb x (List.mem_of_getElem? h)
def planN (xs : List Int) (k : Nat) : Nat := (1 + (dd xs (10 + k)).fmod 4).toNat
def planF (xs : List Int) (k : Nat) : List Str := (List.range (planN xs k)).map fun i => entF (dd xs (2 + 4 * k + i))
def min8 (x : Int) : Int := if x < 8 then x else 8
def nodeF (xs : List Int) (k : Nat) : Node := (planF xs k, min8 ((planF xs k).length + (dd xs (12 + k)).fmod 5))
def NodeP (xs : List Int) (cnt : Int) (st : Bool) (i : Nat) (env : List SV) : Prop := ∃ a b : SV, env = [.sh (.lst (xs.map .int)), .sh (.int cnt), .sh (.bl st), .ow (.lst ((List.range i).map fun k => tNode (nodeF xs k))), a, b, .un, .un, .un, .un, .un]
def bodyNodes : List IS := match b_law_wide_task with | [_, _, _, _, .fr _ _ b, _, _, _] => b | _ => []
theorem planN_bd (xs : List Int) (k : Nat) : 1 ≤ planN xs k ∧ planN xs k ≤ 4 := by
  have h := mod_bd (i := dd xs (10 + k)) (j := 4) (by decide)
  unfold planN
  omega
theorem turn_nodes (q : Nat) {xs : List Int} (hx : xs.length = 24) (hb : ∀ x ∈ xs, 0 ≤ x ∧ x < 60) (cnt : Int) (st : Bool) (k : Nat) (hk : k < 2) (b : SV) :
    ∃ b', exs (Sg (q + 1)) 0 bodyNodes [.sh (.lst (xs.map .int)), .sh (.int cnt), .sh (.bl st), .ow (.lst ((List.range k).map fun k => tNode (nodeF xs k))), .sh (.int k), b, .un, .un, .un, .un, .un] =
      some (.nx [.sh (.lst (xs.map .int)), .sh (.int cnt), .sh (.bl st), .ow (.lst ((List.range (k + 1)).map fun k => tNode (nodeF xs k))), .sh (.int k), b', .un, .un, .un, .un, .un]) := by
  have hn := planN_bd xs k
  have hm := mod_bd (i := dd xs (10 + k)) (j := 4) (by decide)
  refine ⟨.ow (.lst ((List.range (planN xs k)).map fun i => .str (entF (dd xs (2 + 4 * k + i))))), ?_⟩
  refine x_cons (s_asO (lc_map (l := List.range (planN xs k)) (g := fun i => .int (i : Int)) (h := fun i => .str (entF (dd xs (2 + 4 * k + i)))) (i_rng1 (r_bin r_int (r_bin (r_bi (r_cons (r_idx (r_var rfl) (r_bin r_int (r_var rfl) add_i) (at_d hx (j := 10 + k) (by omega) (by omega))) r_nil) int_i) r_int (mod_i (by decide))) add_i) (by omega)) (by rw [List.length_range]; omega) fun i hi => ?_) (by simp)) ?_
  · have hi : i < planN xs k := List.mem_range.mp hi
    exact turn_all rfl (r_call rfl (r_cons (r_idx (r_var rfl) (r_bin (r_bin r_int (r_bin r_int (r_var rfl) (mul_i (by simp [mulOk]))) add_i) (r_var rfl) add_i) (at_d hx (j := 2 + 4 * k + i) (by omega) (by omega))) r_nil) rfl (m_entry q _))
  · have hlen : (planF xs k).length = planN xs k := by
      unfold planF
      rw [List.length_map, List.length_range]
    have e : tNode (nodeF xs k) = .tup [.tup ((List.range (planN xs k)).map fun i => .str (entF (dd xs (2 + 4 * k + i)))), .int (min8 (planN xs k + (dd xs (12 + k)).fmod 5))] := by
      unfold tNode nodeF tPlan
      rw [hlen]
      unfold planF
      rw [List.map_map]
      rfl
    have z : ex (Sg (q + 1)) 0 (.app 3 (.tup [(.bi .tuple [(.var 5)]), (.bi .min [(.int 8), (.bin .Add (.bi .len [(.var 5)]) (.bin .Mod (.bi .int [(.idx (.var 0) (.bin .Add (.int 12) (.var 4)))]) (.int 5)))])])) [.sh (.lst (xs.map .int)), .sh (.int cnt), .sh (.bl st), .ow (.lst ((List.range k).map fun k => tNode (nodeF xs k))), .sh (.int k), .ow (.lst ((List.range (planN xs k)).map fun i => .str (entF (dd xs (2 + 4 * k + i))))), .un, .un, .un, .un, .un] = some (.nx _) :=
      s_app rfl (r_tup (r_cons (r_bi (r_cons (r_own rfl) r_nil) tup_l) (r_cons (r_bi (r_cons r_int (r_cons (r_bin (r_bi (r_cons (r_own rfl) r_nil) len_l) (r_bin (r_bi (r_cons (r_idx (r_var rfl) (r_bin r_int (r_var rfl) add_i) (at_d hx (j := 12 + k) (by omega) (by omega))) r_nil) int_i) r_int (mod_i (by decide))) add_i) r_nil)) min_i) r_nil)) (by simp)) (by rw [List.length_map, List.length_range]; omega)
    refine x_cons z ?_
    rw [List.range_succ, List.map_append]
    simp only [List.map_cons, List.map_nil, List.length_map, List.length_range]
    rw [e]
    exact x_nil
end K

set_option Elab.async false
set_option linter.all false
set_option maxRecDepth 100000
set_option maxHeartbeats 4000000
namespace K
open PySem L2 EL
def gapF (xs : List Int) (u v : Nat) : Int := min8 ((nodeF xs u).2 + (dd xs (14 + 2 * u + v)).fmod 4)
def hasF (xs : List Int) (st : Bool) (u v : Nat) : Bool := st || decide (0 < (dd xs (18 + 2 * u + v)).fmod 3)
def rowF (xs : List Int) (st : Bool) (u c : Nat) : List Edge := ((List.range c).filter (hasF xs st u)).map fun (v : Nat) => ((u : Int), (v : Int), gapF xs u v)
def edgesF (xs : List Int) (st : Bool) (c : Nat) : Nat → List Edge
  | 0 => []
  | u + 1 => edgesF xs st c u ++ rowF xs st u c
theorem at_range {f : Nat → D} {c u : Nat} (h : u < c) : atI ((List.range c).map f) (u : Int) = some (f u) := by
  refine atI_nat ?_
  rw [List.getElem?_map, List.getElem?_range h]
  rfl
def bodyEdge : List IS := match b_law_wide_task with | [_, _, _, _, _, _, .fr _ _ [.fr _ _ b], _] => b | _ => []
theorem turn_edge (q : Nat) {xs : List Int} (hx : xs.length = 24) (c : Nat) (hc : c ≤ 2) (st : Bool) (u v : Nat) (hu : u < c) (hv : v < c) (a b g : SV) (acc : List Edge) (hl : acc.length < 1000) :
    exs (Sg (q + 1)) 0 bodyEdge [.sh (.lst (xs.map .int)), .sh (.int c), .sh (.bl st), .ow (.lst ((List.range c).map fun k => tNode (nodeF xs k))), a, b, .ow (.lst (acc.map tEdge)), .sh (.int u), .sh (.int v), g, .un] =
      some (.nx [.sh (.lst (xs.map .int)), .sh (.int c), .sh (.bl st), .ow (.lst ((List.range c).map fun k => tNode (nodeF xs k))), a, b, .ow (.lst ((acc ++ if hasF xs st u v then [((u : Int), (v : Int), gapF xs u v)] else []).map tEdge)), .sh (.int u), .sh (.int v), .sh (.int (gapF xs u v)), .un]) := by
  refine x_cons (s_asg (d := .int (gapF xs u v)) (r_bi (r_cons r_int (r_cons (r_bin (r_idx (r_idx (r_own rfl) (r_var rfl) (at_range hu)) r_int at2_1) (r_bin (r_bi (r_cons (r_idx (r_var rfl) (r_bin (r_bin r_int (r_bin r_int (r_var rfl) (mul_i (by simp [mulOk]))) add_i) (r_var rfl) add_i) (at_d hx (j := 14 + 2 * u + v) (by omega) (by omega))) r_nil) int_i) r_int (mod_i (by decide))) add_i) r_nil)) min_i) (by simp)) ?_
  refine x_cons (s_if (p := hasF xs st u v) (t_or (t_tru (r_var rfl) rfl) (fun _ => t_one (t_cmp (r_bin (r_bi (r_cons (r_idx (r_var rfl) (r_bin (r_bin r_int (r_bin r_int (r_var rfl) (mul_i (by simp [mulOk]))) add_i) (r_var rfl) add_i) (at_d hx (j := 18 + 2 * u + v) (by omega) (by omega))) r_nil) int_i) r_int (mod_i (by decide))) r_int gt_i))) (fun z => ?_) (fun z => ?_)) x_nil
  · rw [if_pos z, List.map_append]
    exact x_cons (s_app rfl (r_tup (r_cons (r_var rfl) (r_cons (r_var rfl) (r_cons (r_var rfl) r_nil))) (by simp)) (by rw [List.length_map]; omega)) x_nil
  · rw [if_neg (by rw [z]; exact Bool.false_ne_true), List.append_nil]
    exact x_nil
end K

set_option Elab.async false
set_option linter.all false
set_option maxRecDepth 100000
set_option maxHeartbeats 4000000
namespace K
open PySem L2 EL
theorem row_succ (xs : List Int) (st : Bool) (u j : Nat) : rowF xs st u (j + 1) = rowF xs st u j ++ if hasF xs st u j then [((u : Int), (j : Int), gapF xs u j)] else [] := by
  unfold rowF
  rw [List.range_succ, List.filter_append, List.map_append]
  congr 1
  rw [List.filter_cons]
  cases hasF xs st u j <;> rfl
theorem row_len (xs : List Int) (st : Bool) (u j : Nat) : (rowF xs st u j).length ≤ j := by
  unfold rowF
  rw [List.length_map]
  have h := List.length_filter_le (hasF xs st u) (List.range j)
  rwa [List.length_range] at h
theorem edges_len (xs : List Int) (st : Bool) (c : Nat) : ∀ u, (edgesF xs st c u).length ≤ c * u
  | 0 => Nat.le_refl _
  | u + 1 => by
    have h1 := edges_len xs st c u
    have h2 := row_len xs st u c
    show (edgesF xs st c u ++ rowF xs st u c).length ≤ c * (u + 1)
    rw [List.length_append, Nat.mul_succ]
    omega
theorem walked {n i : Nat} {d : D} (h : ((List.range n).map fun (i : Nat) => D.int (i : Int))[i]? = some d) : i < n ∧ d = .int (i : Int) := by
  rw [List.getElem?_map, Option.map_eq_some_iff] at h
  obtain ⟨j, hj, rfl⟩ := h
  have hi := (List.getElem?_eq_some_iff.mp hj).1
  rw [List.length_range] at hi
  rw [List.getElem?_range hi] at hj
  cases hj
  exact ⟨hi, rfl⟩
def envE (xs : List Int) (c : Nat) (st : Bool) (a b : SV) (acc : List Edge) (x7 x8 x9 : SV) : List SV :=
  [.sh (.lst (xs.map .int)), .sh (.int c), .sh (.bl st), .ow (.lst ((List.range c).map fun k => tNode (nodeF xs k))), a, b, .ow (.lst (acc.map tEdge)), x7, x8, x9, .un]
theorem loop_row (q : Nat) {xs : List Int} (hx : xs.length = 24) (c : Nat) (hc : c ≤ 2) (st : Bool) (u : Nat) (hu : u < c) (a b x8 x9 : SV) (acc : List Edge) (hl : acc.length < 100) :
    ∃ y8 y9, exFor (exs (Sg (q + 1)) 0 bodyEdge) (.nm 8) ((List.range c).map fun (i : Nat) => D.int (i : Int)) (envE xs c st a b acc (.sh (.int u)) x8 x9) = some (.nx (envE xs c st a b (acc ++ rowF xs st u c) (.sh (.int u)) y8 y9)) := by
  have L := for_inv (body := exs (Sg (q + 1)) 0 bodyEdge) (t := .nm 8) (ds := (List.range c).map fun (i : Nat) => D.int (i : Int)) (fun j env => ∃ y8 y9, env = envE xs c st a b (acc ++ rowF xs st u j) (.sh (.int u)) y8 y9) (j := 0) (env := envE xs c st a b acc (.sh (.int u)) x8 x9)
    ⟨x8, x9, by show _ = envE xs c st a b (acc ++ []) _ _ _; rw [List.append_nil]⟩ fun i d e hd he => by
      obtain ⟨y8, y9, rfl⟩ := he
      obtain ⟨hi, rfl⟩ := walked hd
      rw [Nat.zero_add]
      have hr := row_len xs st u i
      refine ⟨_, _, rfl, turn_edge q hx c hc st u i hu hi a b y9 (acc ++ rowF xs st u i) (by rw [List.length_append]; omega), .sh (.int i), .sh (.int (gapF xs u i)), ?_⟩
      rw [row_succ, ← List.append_assoc]
      rfl
  obtain ⟨e', h1, y8, y9, rfl⟩ := L
  rw [List.length_map, List.length_range, Nat.zero_add] at h1
  exact ⟨y8, y9, h1⟩
def bodyRows : List IS := match b_law_wide_task with | [_, _, _, _, _, _, .fr _ _ b, _] => b | _ => []
theorem loop_edges (q : Nat) {xs : List Int} (hx : xs.length = 24) (c : Nat) (hc : c ≤ 2) (st : Bool) (a b x7 x8 x9 : SV) :
    ∃ y7 y8 y9, exFor (exs (Sg (q + 1)) 0 bodyRows) (.nm 7) ((List.range c).map fun (i : Nat) => D.int (i : Int)) (envE xs c st a b [] x7 x8 x9) = some (.nx (envE xs c st a b (edgesF xs st c c) y7 y8 y9)) := by
  have L := for_inv (body := exs (Sg (q + 1)) 0 bodyRows) (t := .nm 7) (ds := (List.range c).map fun (i : Nat) => D.int (i : Int)) (fun j env => ∃ y7 y8 y9, env = envE xs c st a b (edgesF xs st c j) y7 y8 y9) (j := 0) (env := envE xs c st a b [] x7 x8 x9)
    ⟨x7, x8, x9, rfl⟩ fun i d e hd he => by
      obtain ⟨y7, y8, y9, rfl⟩ := he
      obtain ⟨hi, rfl⟩ := walked hd
      rw [Nat.zero_add]
      have hr := edges_len xs st c i
      have hm : c * i ≤ 2 * 2 := Nat.mul_le_mul hc (by omega)
      obtain ⟨z8, z9, h⟩ := loop_row q hx c hc st i hi a b y8 y9 (edgesF xs st c i) (by omega)
      refine ⟨envE xs c st a b (edgesF xs st c i) (.sh (.int i)) y8 y9, envE xs c st a b (edgesF xs st c (i + 1)) (.sh (.int i)) z8 z9, rfl, x_cons (s_for (i_rng1 (r_var rfl) (by omega)) (by rw [List.length_map, List.length_range]; omega) ?_) x_nil, .sh (.int i), z8, z9, rfl⟩
      rw [Int.toNat_natCast]
      exact h
  obtain ⟨e', h1, y7, y8, y9, rfl⟩ := L
  rw [List.length_map, List.length_range, Nat.zero_add] at h1
  exact ⟨y7, y8, y9, h1⟩
def stF (xs : List Int) : Bool := decide ((dd xs 1).fmod 4 = 3)
def cntF (xs : List Int) : Nat := if stF xs then 1 else (1 + (dd xs 0).fmod 2).toNat
theorem cnt_bd (xs : List Int) : 1 ≤ cntF xs ∧ cntF xs ≤ 2 := by
  have h := mod_bd (i := dd xs 0) (j := 2) (by decide)
  unfold cntF
  split <;> omega
theorem loop_nodes (q : Nat) {xs : List Int} (hx : xs.length = 24) (hb : ∀ x ∈ xs, 0 ≤ x ∧ x < 60) (c : Nat) (hc : c ≤ 2) (st : Bool) :
    ∃ a b, exFor (exs (Sg (q + 1)) 0 bodyNodes) (.nm 4) ((List.range c).map fun (i : Nat) => D.int (i : Int)) [.sh (.lst (xs.map .int)), .sh (.int c), .sh (.bl st), .ow (.lst []), .un, .un, .un, .un, .un, .un, .un] =
      some (.nx [.sh (.lst (xs.map .int)), .sh (.int c), .sh (.bl st), .ow (.lst ((List.range c).map fun k => tNode (nodeF xs k))), a, b, .un, .un, .un, .un, .un]) := by
  have L := for_inv (body := exs (Sg (q + 1)) 0 bodyNodes) (t := .nm 4) (ds := (List.range c).map fun (i : Nat) => D.int (i : Int)) (NodeP xs c st) (j := 0) (env := [.sh (.lst (xs.map .int)), .sh (.int c), .sh (.bl st), .ow (.lst []), .un, .un, .un, .un, .un, .un, .un])
    ⟨.un, .un, rfl⟩ fun i d e hd he => by
      obtain ⟨a, b, rfl⟩ := he
      obtain ⟨hi, rfl⟩ := walked hd
      rw [Nat.zero_add]
      obtain ⟨b', h⟩ := turn_nodes q hx hb c st i (by omega) b
      exact ⟨_, _, rfl, h, .sh (.int i), b', rfl⟩
  obtain ⟨e', h1, a, b, rfl⟩ := L
  rw [List.length_map, List.length_range, Nat.zero_add] at h1
  exact ⟨a, b, h1⟩
/-- the task that the draws make -/
theorem m_wide (q : Nat) {xs : List Int} (hx : xs.length = 24) (hb : ∀ x ∈ xs, 0 ≤ x ∧ x < 60) :
    runF (Sg (q + 1)) 0 1 11 b_law_wide_task [.lst (xs.map .int)] = some (tTask ((List.range (cntF xs)).map (nodeF xs)) (edgesF xs (stF xs) (cntF xs) (cntF xs)) (stF xs)) := by
  have hc := cnt_bd xs
  have hm := mod_bd (i := dd xs 0) (j := 2) (by decide)
  obtain ⟨a, b, h1⟩ := loop_nodes q hx hb (cntF xs) hc.2 (stF xs)
  obtain ⟨y7, y8, y9, h2⟩ := loop_edges q hx (cntF xs) hc.2 (stF xs) a b .un .un .un
  have s0 : ex (Sg (q + 1)) 0 (.asg 1 (.bin .Add (.int 1) (.bin .Mod (.bi .int [(.idx (.var 0) (.int 0))]) (.int 2)))) [.sh (.lst (xs.map .int)), .un, .un, .un, .un, .un, .un, .un, .un, .un, .un] = some (.nx [.sh (.lst (xs.map .int)), .sh (.int (1 + (dd xs 0).fmod 2)), .un, .un, .un, .un, .un, .un, .un, .un, .un]) :=
    s_asg (r_bin r_int (r_bin (r_bi (r_cons (r_idx (r_var rfl) r_int (at_d hx (j := 0) (by omega) rfl)) r_nil) int_i) r_int (mod_i (by decide))) add_i) (by simp)
  have s1 : ex (Sg (q + 1)) 0 (.asg 2 (.cmp .Eq (.bin .Mod (.bi .int [(.idx (.var 0) (.int 1))]) (.int 4)) (.int 3))) [.sh (.lst (xs.map .int)), .sh (.int (1 + (dd xs 0).fmod 2)), .un, .un, .un, .un, .un, .un, .un, .un, .un] = some (.nx [.sh (.lst (xs.map .int)), .sh (.int (1 + (dd xs 0).fmod 2)), .sh (.bl (stF xs)), .un, .un, .un, .un, .un, .un, .un, .un]) :=
    s_asg (r_cmp (r_bin (r_bi (r_cons (r_idx (r_var rfl) r_int (at_d hx (j := 1) (by omega) rfl)) r_nil) int_i) r_int (mod_i (by decide))) r_int eq_i) (by simp)
  have s2 : ex (Sg (q + 1)) 0 (.iff (.tru (.var 2)) [.asg 1 (.int 1)] []) [.sh (.lst (xs.map .int)), .sh (.int (1 + (dd xs 0).fmod 2)), .sh (.bl (stF xs)), .un, .un, .un, .un, .un, .un, .un, .un] = some (.nx [.sh (.lst (xs.map .int)), .sh (.int (cntF xs)), .sh (.bl (stF xs)), .un, .un, .un, .un, .un, .un, .un, .un]) := by
    refine s_if (p := stF xs) (t_tru (r_var rfl) rfl) (fun z => ?_) (fun z => ?_)
    · unfold cntF
      rw [if_pos z]
      exact x_cons (s_asg r_int (by simp)) x_nil
    · unfold cntF
      rw [if_neg (by rw [z]; exact Bool.false_ne_true), Int.toNat_of_nonneg (by omega)]
      exact x_nil
  have en : (List.range (cntF xs)).map (fun k => tNode (nodeF xs k)) = ((List.range (cntF xs)).map (nodeF xs)).map tNode := by rw [List.map_map]; rfl
  have all : exs (Sg (q + 1)) 0 b_law_wide_task [.sh (.lst (xs.map .int)), .un, .un, .un, .un, .un, .un, .un, .un, .un, .un] = some (.rt (tTask ((List.range (cntF xs)).map (nodeF xs)) (edgesF xs (stF xs) (cntF xs) (cntF xs)) (stF xs))) := by
    refine x_cons s0 (x_cons s1 (x_cons s2 (x_cons (s_asO (d := .lst []) (r_lst r_nil (by simp)) (by simp)) (x_cons (s_for (i_rng1 (r_var rfl) (by omega)) (by rw [List.length_map, List.length_range]; omega) (by rw [Int.toNat_natCast]; exact h1)) (x_cons (s_asO (d := .lst []) (r_lst r_nil (by simp)) (by simp)) (x_cons (s_for (i_rng1 (r_var rfl) (by omega)) (by rw [List.length_map, List.length_range]; omega) (by rw [Int.toNat_natCast]; exact h2)) (x_ret (s_ret ?_))))))))
    unfold tTask
    rw [← en]
    exact r_tup (r_cons (r_var rfl) (r_cons (r_var rfl) (r_cons (r_var rfl) r_nil))) (by simp)
  show (exs (Sg (q + 1)) 0 b_law_wide_task [.sh (.lst (xs.map .int)), .un, .un, .un, .un, .un, .un, .un, .un, .un, .un]).bind _ = _
  rw [all]
  rfl
end K

set_option Elab.async false
set_option linter.all false
set_option maxRecDepth 100000
set_option maxHeartbeats 4000000
namespace K
open PySem L2 EL
theorem s_unp {S : Sig} {n : Nat} {t : IT} {e : IE} {env env1 : List SV} {d : D} (h : ev S false e env = some d) (hb : bindT t d env = some env1) : ex S n (.unp t e) env = some (.nx env1) := by
  unfold ex
  rw [h, Option.bind_some, hb]
  rfl
def fsSelf (ns : List Node) (es : List Edge) (s : Bool) : List (Str × D) := [("nodes", .tup (ns.map tNode)), ("edges", .tup (es.map tEdge)), ("steady", .bl s)]
def tSelf (ns : List Node) (es : List Edge) (s : Bool) : D := .obj 0 (fsSelf ns es s)
theorem fl_n {ns : List Node} {es : List Edge} {s : Bool} : (fsSelf ns es s).lookup ("nodes" : Str) = some (.tup (ns.map tNode)) := by kernel_rfl
theorem fl_e {ns : List Node} {es : List Edge} {s : Bool} : (fsSelf ns es s).lookup ("edges" : Str) = some (.tup (es.map tEdge)) := by kernel_rfl
theorem fl_s {ns : List Node} {es : List Edge} {s : Bool} : (fsSelf ns es s).lookup ("steady" : Str) = some (.bl s) := by kernel_rfl
section
variable (k : Nat) (ns : List Node) (es : List Edge) (s : Bool)
theorem at_node {i : Int} {nd : Node} (h : atI ns i = some nd) : atI (ns.map tNode) i = some (tNode nd) := by
  rw [atI_map, h]
  rfl
theorem nd_0 (nd : Node) : idxD (tNode nd) (.int 0) = some (tPlan nd.1) := rfl
theorem nd_1 (nd : Node) : idxD (tNode nd) (.int 1) = some (.int nd.2) := rfl
theorem at_tn {i : Int} {nd : Node} (h : atI ns i = some nd) : idxD (.tup (ns.map tNode)) (.int i) = some (tNode nd) := by
  rw [ix_t, at_node ns h]
theorem at_ln {i : Int} {nd : Node} (h : atI ns i = some nd) : idxD (.lst (ns.map tNode)) (.int i) = some (tNode nd) := by
  rw [ix_l, at_node ns h]
theorem len_plan (p : List Str) : ((p.map D.str).length : Int) = (p.length : Int) := by rw [List.length_map]
theorem m_unf (n a d o : Int) (nd : Node) (h : 0 ≤ n → atI ns n = some nd) :
    runF (Sg k) 0 2 6 b_Task_unfinished [tSelf ns es s, tStat n a d o] = some (.bl (decide (0 ≤ n) && (decide (o = 1) || decide (d < nd.1.length)))) := by
  have all : exs (Sg k) 0 b_Task_unfinished [.sh (tSelf ns es s), .sh (tStat n a d o), .un, .un, .un, .un] = some (.rt (.bl (decide (0 ≤ n) && (decide (o = 1) || decide (d < nd.1.length))))) := by
    refine x_cons (s_unp (r_var rfl) rfl) (x_ret (s_ret (r_and (r_cmp (r_var rfl) r_int ge_i) fun z => r_one (r_or (r_cmp (r_var rfl) r_int eq_i) fun _ => r_one (r_cmp (r_var rfl) (r_bi (r_cons (r_idx (r_idx (r_fld (r_var rfl) (by cases k <;> rfl) fl_n) (r_var rfl) (at_tn ns (h (of_decide_eq_true z)))) r_int (nd_0 nd)) r_nil) len_t) ?_)))))
    rw [lt_i, len_plan]
  show (exs (Sg k) 0 b_Task_unfinished [.sh (tSelf ns es s), .sh (tStat n a d o), .un, .un, .un, .un]).bind _ = _
  rw [all]
  rfl
theorem m_tcap (n : Int) (nd : Node) (h : atI ns n = some nd) (he : es.length ≤ 1000) : runF (Sg k) 0 2 6 b_Task_cap [tSelf ns es s, .int n] = some (.int (capI ns es n nd.2)) := by
  have hl : (es.filter fun e => decide (e.1 = n)).length ≤ 1000 := Nat.le_trans (List.length_filter_le _ _) he
  have all : exs (Sg k) 0 b_Task_cap [.sh (tSelf ns es s), .sh (.int n), .un, .un, .un, .un] = some (.rt (.int (capI ns es n nd.2))) := by
    refine x_cons (s_unp (d := tNode nd) (r_idx (r_fld (r_var rfl) (by cases k <;> rfl) fl_n) (r_var rfl) (at_tn ns h)) rfl) (x_ret (s_ret (r_bi (ds := [.lst (.int nd.2 :: (es.filter fun e => decide (e.1 = n)).map fun e => .int e.2.2)]) (r_cons (r_bin (r_lst (r_cons (r_var rfl) r_nil) (by simp)) (lc_filter (l := es) (g := tEdge) (h := fun e => .int e.2.2) (p := fun e => decide (e.1 = n)) (i_tup (r_fld (r_var rfl) (by cases k <;> rfl) fl_e)) (by omega) fun e _ => turn_if rfl (t_cmp (r_var rfl) (r_var rfl) eq_i) fun _ => r_var rfl) ?_) r_nil) ?_)))
    · simp [binD]
      omega
    · simp [bsem, toInts, ints_map, capI]
  show (exs (Sg k) 0 b_Task_cap [.sh (tSelf ns es s), .sh (.int n), .un, .un, .un, .un]).bind _ = _
  rw [all]
  rfl
end
end K

set_option Elab.async false
set_option linter.all false
set_option maxRecDepth 100000
set_option maxHeartbeats 4000000
namespace K
open PySem L2 EL
def edgeP (n a v : Int) (e : Edge) : Bool := decide (e.1 = n) && (decide (e.2.1 = v) && decide (e.2.2 ≤ a))
def alwI (ns : List Node) (es : List Edge) (n a v : Int) : Bool := if n < 0 then decide (0 ≤ v) && decide (v < ns.length) else es.any (edgeP n a v)
theorem len_nodes (ns : List Node) : ((ns.map tNode).length : Int) = (ns.length : Int) := by rw [List.length_map]
section
variable (k : Nat) (ns : List Node) (es : List Edge) (s : Bool)
theorem m_alw (n a d o v : Int) (he : es.length ≤ 1000) : runF (Sg k) 0 3 9 b_Task_allows [tSelf ns es s, tStat n a d o, .int v] = some (.bl (alwI ns es n a v)) := by
  have all : exs (Sg k) 0 b_Task_allows [.sh (tSelf ns es s), .sh (tStat n a d o), .sh (.int v), .un, .un, .un, .un, .un, .un] = some (.rt (.bl (alwI ns es n a v))) := by
    refine x_cons (s_unp (r_var rfl) rfl) ?_
    unfold alwI
    by_cases h : n < 0
    · rw [if_pos h]
      exact x_ret (s_if (p := true) (t_cmp (r_var rfl) r_int (by rw [lt_i, decide_eq_true h])) (fun _ => x_ret (s_ret (r_chn r_int (r_var rfl) le_i fun _ => ⟨r_bi (r_cons (r_fld (r_var rfl) (by cases k <;> rfl) fl_n) r_nil) len_t, by rw [lt_i, len_nodes]⟩))) (fun z => by cases z))
    · rw [if_neg h]
      refine x_cons (s_if (p := false) (t_cmp (r_var rfl) r_int (by rw [lt_i, decide_eq_false h])) (fun z => by cases z) (fun _ => x_nil)) (x_ret (s_ret (r_bi (ds := [.lst (es.map fun e => .bl (edgeP n a v e))]) (r_cons (lc_map (l := es) (g := tEdge) (h := fun e => .bl (edgeP n a v e)) (i_tup (r_fld (r_var rfl) (by cases k <;> rfl) fl_e)) (by omega) fun e _ => turn_all rfl (r_and (r_cmp (r_var rfl) (r_var rfl) eq_i) fun _ => r_and (r_cmp (r_var rfl) (r_var rfl) eq_i) fun _ => r_one (r_cmp (r_var rfl) (r_var rfl) le_i))) r_nil) ?_)))
      rw [any_l, bls_map]
      simp [List.any_map]
  show (exs (Sg k) 0 b_Task_allows [.sh (tSelf ns es s), .sh (tStat n a d o), .sh (.int v), .un, .un, .un, .un, .un, .un]).bind _ = _
  rw [all]
  rfl
theorem st_0 {n a d o : Int} : idxD (tStat n a d o) (.int 0) = some (.int n) := rfl
theorem st_1 {n a d o : Int} : idxD (tStat n a d o) (.int 1) = some (.int a) := rfl
theorem st_2 {n a d o : Int} : idxD (tStat n a d o) (.int 2) = some (.int d) := rfl
theorem st_3 {n a d o : Int} : idxD (tStat n a d o) (.int 3) = some (.int o) := rfl
theorem tk_0 : idxD (tTask ns es s) (.int 0) = some (.lst (ns.map tNode)) := rfl
theorem tk_1 : idxD (tTask ns es s) (.int 1) = some (.lst (es.map tEdge)) := rfl
theorem tk_2 : idxD (tTask ns es s) (.int 2) = some (.bl s) := rfl
theorem ed_0 {e : Edge} : idxD (tEdge e) (.int 0) = some (.int e.1) := rfl
theorem ed_1 {e : Edge} : idxD (tEdge e) (.int 1) = some (.int e.2.1) := rfl
theorem ed_2 {e : Edge} : idxD (tEdge e) (.int 2) = some (.int e.2.2) := rfl
theorem m_lalw (n a d o v : Int) (he : es.length ≤ 1000) : runF (Sg k) 0 3 4 b_law_allows [tTask ns es s, tStat n a d o, .int v] = some (.bl (alwI ns es n a v)) := by
  have all : exs (Sg k) 0 b_law_allows [.sh (tTask ns es s), .sh (tStat n a d o), .sh (.int v), .un] = some (.rt (.bl (alwI ns es n a v))) := by
    unfold alwI
    by_cases h : n < 0
    · rw [if_pos h]
      exact x_ret (s_if (p := true) (t_cmp (r_idx (r_var rfl) r_int st_0) r_int (by rw [lt_i, decide_eq_true h])) (fun _ => x_ret (s_ret (r_chn r_int (r_var rfl) le_i fun _ => ⟨r_bi (r_cons (r_idx (r_var rfl) r_int (tk_0 ns es s)) r_nil) len_l, by rw [lt_i, len_nodes]⟩))) (fun z => by cases z))
    · rw [if_neg h]
      refine x_cons (s_if (p := false) (t_cmp (r_idx (r_var rfl) r_int st_0) r_int (by rw [lt_i, decide_eq_false h])) (fun z => by cases z) (fun _ => x_nil)) (x_ret (s_ret (r_cmp (r_bi (ds := [.lst ((es.filter (edgeP n a v)).map tEdge)]) (r_cons (lc_filter (l := es) (g := tEdge) (h := tEdge) (p := edgeP n a v) (i_lst (r_idx (r_var rfl) r_int (tk_1 ns es s))) (by omega) fun e _ => turn_if rfl (t_and (t_cmp (r_idx (r_var rfl) r_int ed_0) (r_idx (r_var rfl) r_int st_0) eq_i) fun _ => t_and (t_cmp (r_idx (r_var rfl) r_int ed_1) (r_var rfl) eq_i) fun _ => t_one (t_cmp (r_idx (r_var rfl) r_int ed_2) (r_idx (r_var rfl) r_int st_1) le_i)) fun _ => r_var rfl) r_nil) len_l) r_int ?_)))
      rw [gt_i, List.length_map]
      congr 1
      rw [Bool.eq_iff_iff, decide_eq_true_eq, List.any_eq_true]
      constructor
      · intro z
        obtain ⟨e, he⟩ := List.exists_mem_of_length_pos (show 0 < (es.filter (edgeP n a v)).length by omega)
        rw [List.mem_filter] at he
        exact ⟨e, he⟩
      · rintro ⟨e, h1, h2⟩
        have := List.length_pos_of_mem (List.mem_filter.mpr ⟨h1, h2⟩)
        omega
  show (exs (Sg k) 0 b_law_allows [.sh (tTask ns es s), .sh (tStat n a d o), .sh (.int v), .un]).bind _ = _
  rw [all]
  rfl
end
end K

set_option Elab.async false
set_option linter.all false
set_option maxRecDepth 100000
set_option maxHeartbeats 4000000
namespace K
open PySem L2 EL
section
variable (k : Nat) (ns : List Node) (es : List Edge) (s : Bool)
theorem fls2 : (Sg k).fls[2]? = some (0, ("steady" : Str)) := by cases k <;> rfl
theorem fls1 : (Sg k).fls[1]? = some (0, ("edges" : Str)) := by cases k <;> rfl
theorem fls0 : (Sg k).fls[0]? = some (0, ("nodes" : Str)) := by cases k <;> rfl
theorem e0_t (e : Edge) : idxD (.tup ([e].map tEdge)) (.int 0) = some (tEdge e) := rfl
theorem e0_l (e : Edge) : idxD (.lst ([e].map tEdge)) (.int 0) = some (tEdge e) := rfl
theorem m_owes (n a d o : Int) (e : Edge) (hs : s = true → es = [e]) : runF (Sg k) 0 2 5 b_Task_owes [tSelf ns es s, tStat n a d o] = some (.bl (s && (decide (n < 0) || decide (a = e.2.2)))) := by
  have all : exs (Sg k) 0 b_Task_owes [.sh (tSelf ns es s), .sh (tStat n a d o), .un, .un, .un] = some (.rt (.bl (s && (decide (n < 0) || decide (a = e.2.2))))) := by
    have ht : evT (Sg k) (.not (.tru (.fld (.var 0) 2))) [.sh (tSelf ns es s), .sh (tStat n a d o), .un, .un, .un] = some (!s) := t_not (t_tru (r_fld (r_var rfl) (fls2 k) fl_s) rfl)
    cases s with
    | false => exact x_ret (s_if ht (fun _ => x_ret (s_ret r_bl)) (fun z => by cases z))
    | true =>
      have z := hs rfl
      subst z
      exact x_cons (s_if ht (fun z => by cases z) (fun _ => x_nil)) (x_cons (s_unp (r_var rfl) rfl) (x_ret (s_ret (r_or (r_cmp (r_var rfl) r_int lt_i) fun _ => r_one (r_cmp (r_var rfl) (r_idx (r_idx (r_fld (r_var rfl) (by cases k <;> rfl) fl_e) r_int (e0_t e)) r_int ed_2) eq_i)))))
  show (exs (Sg k) 0 b_Task_owes [.sh (tSelf ns es s), .sh (tStat n a d o), .un, .un, .un]).bind _ = _
  rw [all]
  rfl
theorem m_lowes (n a d o : Int) (e : Edge) (hs : s = true → es = [e]) : runF (Sg k) 0 2 2 b_law_owes [tTask ns es s, tStat n a d o] = some (.bl (s && (decide (n < 0) || decide (e.2.2 ≤ a)))) := by
  have all : exs (Sg k) 0 b_law_owes [.sh (tTask ns es s), .sh (tStat n a d o)] = some (.rt (.bl (s && (decide (n < 0) || decide (e.2.2 ≤ a))))) := by
    refine x_ret (s_ret (r_and (r_idx (r_var rfl) r_int (tk_2 ns es s)) fun z => ?_))
    have z := hs z
    subst z
    exact r_one (r_or (r_cmp (r_idx (r_var rfl) r_int st_0) r_int lt_i) fun _ => r_one (r_cmp (r_idx (r_var rfl) r_int st_1) (r_idx (r_idx (r_idx (r_var rfl) r_int (tk_1 ns [e] s)) r_int (e0_l e)) r_int ed_2) ge_i))
  show (exs (Sg k) 0 b_law_owes [.sh (tTask ns es s), .sh (tStat n a d o)]).bind _ = _
  rw [all]
  rfl
end
end K

set_option Elab.async false
set_option linter.all false
set_option maxRecDepth 100000
set_option maxHeartbeats 4000000
namespace K
open PySem L2 EL
def signs (z : Str) : List Str := z.cps.toList.map fun c => ⟨#[c]⟩
def joinF (z : Str) (p : Str → Bool) : Str := Txt.join "" ((signs z).filter p)
def inS (a b : Str) : Bool := !(Builtin.Str.occurrences b a 0 b.length 1).isEmpty
theorem in_s {a b : Str} : cmpD .In (.str a) (.str b) = some (inS a b) := rfl
theorem nin_s {a b : Str} : cmpD .NotIn (.str a) (.str b) = some (!inS a b) := rfl
theorem strD_signs (z : Str) : strD z = (signs z).map .str := by
  unfold strD signs
  rw [List.map_map]
  rfl
theorem sum_ones : ∀ {l : List Str}, (∀ x ∈ l, x.length = 1) → (l.map (·.length)).sum = l.length
  | [], _ => rfl
  | x :: l, h => by
    rw [List.map_cons, List.sum_cons, h x List.mem_cons_self, sum_ones fun y hy => h y (List.mem_cons_of_mem _ hy), List.length_cons]
    omega
theorem r_join {S : Sig} {br : Bool} {env : List SV} {i : Nat} {it : II} {u : IB} {own : List (Str × Nat)} {z : Str} {p : Str → Bool} (hz : z.cps.size ≤ 100) (hi : evI S true it env = some (strD z))
    (H : ∀ a, turnC S (.nm i) [u] (.var i) own env (.str a) = some (if p a then some (.str a) else none)) : ev S br (.jn (.str "") (.lc (.nm i) it [u] (.var i) own)) env = some (.str (joinF z p)) := by
  rw [strD_signs] at hi
  have hl : (signs z).length ≤ 100 := by
    unfold signs
    rw [List.length_map]
    simpa using hz
  have hf : ((signs z).filter p).length ≤ 100 := Nat.le_trans (List.length_filter_le _ _) hl
  refine r_jn r_str (lc_filter (l := signs z) (g := .str) (h := .str) (p := p) hi (by omega) fun a _ => H a) ?_
  rw [sum_ones fun x hx => ?_]
  · show _ + _ * 0 ≤ _
    omega
  · have hx := (List.mem_filter.mp hx).1
    unfold signs at hx
    obtain ⟨c, _, rfl⟩ := List.mem_map.mp hx
    rfl
theorem ents_size : ∀ x ∈ ents, x.cps.size ≤ 3 := by decide +kernel
/-- the locks held, by either way -/
theorem held_two : ∀ x ∈ ents, ∀ y ∈ ents, joinF x (fun a => inS a y) = joinF y (fun a => inS a x) := by decide +kernel
end K

set_option Elab.async false
set_option linter.all false
set_option maxRecDepth 100000
set_option maxHeartbeats 4000000
namespace K
open PySem L2 EL
def unfI (nd : Node) (n d o : Int) : Bool := decide (0 ≤ n) && (decide (o = 1) || decide (d < nd.1.length))
def noHeld (nd : Node) (n d o : Int) : Bool := !unfI nd n d o || (decide (o = 1) || decide (d = 0))
def planAt (nd : Node) (i : Int) : Str := (nd.1[i.toNat]?).getD ""
def heldV (nd : Node) (n d o : Int) : Str := if noHeld nd n d o then "" else joinF (planAt nd (d - 1)) fun a => inS a (planAt nd d)
theorem at_plan {nd : Node} {i : Int} (h0 : 0 ≤ i) (h1 : i < nd.1.length) : idxD (tPlan nd.1) (.int i) = some (.str (planAt nd i)) := by
  obtain ⟨j, rfl⟩ : ∃ j : Nat, i = j := ⟨i.toNat, by omega⟩
  have hg : nd.1[j]? = some (nd.1[j]'(by omega)) := List.getElem?_eq_getElem _
  show atI (nd.1.map D.str) (j : Int) = _
  unfold planAt
  rw [Int.toNat_natCast, atI_map, atI_nat hg, hg]
  rfl
theorem plan_mem {nd : Node} (hp : ∀ x ∈ nd.1, x ∈ ents) (i : Int) : planAt nd i ∈ ents := by
  unfold planAt
  cases h : nd.1[i.toNat]? with
  | none => exact List.mem_cons_self
  | some x => exact hp x (List.mem_of_getElem? h)
section
variable (k : Nat) (ns : List Node) (es : List Edge) (s : Bool)
theorem m_held (n a d o : Int) (nd : Node) (h : 0 ≤ n → atI ns n = some nd) (hp : ∀ x ∈ nd.1, x ∈ ents) (hd : 0 ≤ d) :
    runF (Sg (k + 1)) 0 2 8 b_Task_held [tSelf ns es s, tStat n a d o] = some (.str (heldV nd n d o)) := by
  have hm : ev (Sg (k + 1)) true (.meth 1 (.var 0) [(.var 1)]) [.sh (tSelf ns es s), .sh (tStat n a d o), .sh (.int n), .sh (.int a), .sh (.int d), .sh (.int o), .un, .un] = some (.bl (unfI nd n d o)) :=
    r_meth rfl (r_var rfl) rfl rfl (r_cons (r_var rfl) r_nil) rfl (m_unf k ns es s n a d o nd h)
  have ht : evT (Sg (k + 1)) (.or (.not (.tru (.meth 1 (.var 0) [(.var 1)]))) (.or (.cmp .Eq (.var 5) (.int 1)) (.one (.cmp .Eq (.var 4) (.int 0))))) [.sh (tSelf ns es s), .sh (tStat n a d o), .sh (.int n), .sh (.int a), .sh (.int d), .sh (.int o), .un, .un] = some (noHeld nd n d o) :=
    t_or (t_not (t_tru hm rfl)) fun _ => t_or (t_cmp (r_var rfl) r_int eq_i) fun _ => t_one (t_cmp (r_var rfl) r_int eq_i)
  have all : exs (Sg (k + 1)) 0 b_Task_held [.sh (tSelf ns es s), .sh (tStat n a d o), .un, .un, .un, .un, .un, .un] = some (.rt (.str (heldV nd n d o))) := by
    refine x_cons (s_unp (r_var rfl) rfl) ?_
    unfold heldV
    by_cases z : noHeld nd n d o = true
    · rw [if_pos z]
      rw [z] at ht
      exact x_ret (s_if ht (fun _ => x_ret (s_ret r_str)) (fun q => by cases q))
    · rw [if_neg z]
      rw [Bool.not_eq_true] at z
      rw [z] at ht
      have z1 := z
      unfold noHeld unfI at z1
      simp only [Bool.or_eq_false_iff, Bool.not_eq_false', Bool.and_eq_true, Bool.or_eq_true, decide_eq_true_eq, decide_eq_false_iff_not] at z1
      obtain ⟨⟨n0, du⟩, o1, d0⟩ := z1
      have dl : d < nd.1.length := by
        rcases du with du | du
        · exact absurd du o1
        · exact du
      refine x_cons (s_if ht (fun q => by cases q) (fun _ => x_nil)) (x_cons (s_asg (d := tPlan nd.1) (r_idx (r_idx (r_fld (r_var rfl) (fls0 (k + 1)) fl_n) (r_var rfl) (at_tn ns (h n0))) r_int (nd_0 nd)) (by simp)) (x_ret (s_ret (r_join (Nat.le_trans (ents_size _ (plan_mem hp (d - 1))) (by decide)) (i_str (r_idx (r_var rfl) (r_bin (r_var rfl) r_int sub_i) (at_plan (by omega) (by omega)))) fun x => turn_if rfl (t_cmp (r_var rfl) (r_idx (r_var rfl) (r_var rfl) (at_plan hd dl)) in_s) fun _ => r_var rfl))))
  show (exs (Sg (k + 1)) 0 b_Task_held [.sh (tSelf ns es s), .sh (tStat n a d o), .un, .un, .un, .un, .un, .un]).bind _ = _
  rw [all]
  rfl
theorem m_lheld (n a d o : Int) (nd : Node) (h : 0 ≤ n → atI ns n = some nd) (hp : ∀ x ∈ nd.1, x ∈ ents) (hd : 0 ≤ d) :
    runF (Sg (k + 1)) 0 2 4 b_law_held [tTask ns es s, tStat n a d o] = some (.str (heldV nd n d o)) := by
  have hm : ev (Sg (k + 1)) true (.call 6 [(.var 0), (.var 1)]) [.sh (tTask ns es s), .sh (tStat n a d o), .un, .un] = some (.bl (unfI nd n d o)) :=
    r_call rfl (r_cons (r_var rfl) (r_cons (r_var rfl) r_nil)) rfl (m_open k ns es s n a d o nd h)
  have ht : evT (Sg (k + 1)) (.or (.not (.tru (.call 6 [(.var 0), (.var 1)]))) (.or (.cmp .Eq (.idx (.var 1) (.int 3)) (.int 1)) (.one (.cmp .Eq (.idx (.var 1) (.int 2)) (.int 0))))) [.sh (tTask ns es s), .sh (tStat n a d o), .un, .un] = some (noHeld nd n d o) :=
    t_or (t_not (t_tru hm rfl)) fun _ => t_or (t_cmp (r_idx (r_var rfl) r_int st_3) r_int eq_i) fun _ => t_one (t_cmp (r_idx (r_var rfl) r_int st_2) r_int eq_i)
  have all : exs (Sg (k + 1)) 0 b_law_held [.sh (tTask ns es s), .sh (tStat n a d o), .un, .un] = some (.rt (.str (heldV nd n d o))) := by
    unfold heldV
    by_cases z : noHeld nd n d o = true
    · rw [if_pos z]
      rw [z] at ht
      exact x_ret (s_if ht (fun _ => x_ret (s_ret r_str)) (fun q => by cases q))
    · rw [if_neg z]
      rw [Bool.not_eq_true] at z
      rw [z] at ht
      have z1 := z
      unfold noHeld unfI at z1
      simp only [Bool.or_eq_false_iff, Bool.not_eq_false', Bool.and_eq_true, Bool.or_eq_true, decide_eq_true_eq, decide_eq_false_iff_not] at z1
      obtain ⟨⟨n0, du⟩, o1, d0⟩ := z1
      have dl : d < nd.1.length := by
        rcases du with du | du
        · exact absurd du o1
        · exact du
      rw [held_two _ (plan_mem hp (d - 1)) _ (plan_mem hp d)]
      refine x_cons (s_if ht (fun q => by cases q) (fun _ => x_nil)) (x_cons (s_asg (d := tPlan nd.1) (r_idx (r_idx (r_idx (r_var rfl) r_int (tk_0 ns es s)) (r_idx (r_var rfl) r_int st_0) (at_ln ns (h n0))) r_int (nd_0 nd)) (by simp)) (x_ret (s_ret (r_join (Nat.le_trans (ents_size _ (plan_mem hp d)) (by decide)) (i_str (r_idx (r_var rfl) (r_idx (r_var rfl) r_int st_2) (at_plan hd dl))) fun x => turn_if rfl (t_cmp (r_var rfl) (r_idx (r_var rfl) (r_bin (r_idx (r_var rfl) r_int st_2) r_int sub_i) (at_plan (by omega) (by omega))) in_s) fun _ => r_var rfl))))
  show (exs (Sg (k + 1)) 0 b_law_held [.sh (tTask ns es s), .sh (tStat n a d o), .un, .un]).bind _ = _
  rw [all]
  rfl
end
end K

set_option Elab.async false
set_option linter.all false
set_option maxRecDepth 100000
set_option maxHeartbeats 4000000
namespace K
open PySem L2 EL
def noNeed (nd : Node) (n d o : Int) : Bool := !unfI nd n d o || decide (o = 1)
def needV (nd : Node) (n d o : Int) : Str := if noNeed nd n d o then "" else joinF (planAt nd d) fun a => !inS a (heldV nd n d o)
theorem need_open {nd : Node} {n d o : Int} (z : noNeed nd n d o = false) : 0 ≤ n ∧ d < nd.1.length := by
  unfold noNeed unfI at z
  simp only [Bool.or_eq_false_iff, Bool.not_eq_false', Bool.and_eq_true, Bool.or_eq_true, decide_eq_true_eq, decide_eq_false_iff_not] at z
  obtain ⟨⟨n0, du⟩, o1⟩ := z
  refine ⟨n0, ?_⟩
  rcases du with du | du
  · exact absurd du o1
  · exact du
section
variable (k : Nat) (ns : List Node) (es : List Edge) (s : Bool)
theorem m_need (n a d o : Int) (nd : Node) (h : 0 ≤ n → atI ns n = some nd) (hp : ∀ x ∈ nd.1, x ∈ ents) (hd : 0 ≤ d) :
    runF (Sg (k + 2)) 0 2 8 b_Task_needed [tSelf ns es s, tStat n a d o] = some (.str (needV nd n d o)) := by
  have hm : ev (Sg (k + 2)) true (.meth 1 (.var 0) [(.var 1)]) [.sh (tSelf ns es s), .sh (tStat n a d o), .sh (.int n), .sh (.int a), .sh (.int d), .sh (.int o), .un, .un] = some (.bl (unfI nd n d o)) :=
    r_meth rfl (r_var rfl) rfl rfl (r_cons (r_var rfl) r_nil) rfl (m_unf (k + 1) ns es s n a d o nd h)
  have ht : evT (Sg (k + 2)) (.or (.not (.tru (.meth 1 (.var 0) [(.var 1)]))) (.one (.cmp .Eq (.var 5) (.int 1)))) [.sh (tSelf ns es s), .sh (tStat n a d o), .sh (.int n), .sh (.int a), .sh (.int d), .sh (.int o), .un, .un] = some (noNeed nd n d o) :=
    t_or (t_not (t_tru hm rfl)) fun _ => t_one (t_cmp (r_var rfl) r_int eq_i)
  have all : exs (Sg (k + 2)) 0 b_Task_needed [.sh (tSelf ns es s), .sh (tStat n a d o), .un, .un, .un, .un, .un, .un] = some (.rt (.str (needV nd n d o))) := by
    refine x_cons (s_unp (r_var rfl) rfl) ?_
    unfold needV
    by_cases z : noNeed nd n d o = true
    · rw [if_pos z]
      rw [z] at ht
      exact x_ret (s_if ht (fun _ => x_ret (s_ret r_str)) (fun q => by cases q))
    · rw [if_neg z]
      rw [Bool.not_eq_true] at z
      rw [z] at ht
      obtain ⟨n0, dl⟩ := need_open z
      refine x_cons (s_if ht (fun q => by cases q) (fun _ => x_nil)) (x_cons (s_asg (d := .str (heldV nd n d o)) (r_meth rfl (r_var rfl) rfl rfl (r_cons (r_var rfl) r_nil) rfl (m_held k ns es s n a d o nd h hp hd)) (by simp)) (x_ret (s_ret (r_join (Nat.le_trans (ents_size _ (plan_mem hp d)) (by decide)) (i_str (r_idx (r_idx (r_idx (r_fld (r_var rfl) (fls0 (k + 2)) fl_n) (r_var rfl) (at_tn ns (h n0))) r_int (nd_0 nd)) (r_var rfl) (at_plan hd dl))) fun x => turn_if rfl (t_cmp (r_var rfl) (r_var rfl) nin_s) fun _ => r_var rfl))))
  show (exs (Sg (k + 2)) 0 b_Task_needed [.sh (tSelf ns es s), .sh (tStat n a d o), .un, .un, .un, .un, .un, .un]).bind _ = _
  rw [all]
  rfl
theorem m_lneed (n a d o : Int) (nd : Node) (h : 0 ≤ n → atI ns n = some nd) (hp : ∀ x ∈ nd.1, x ∈ ents) (hd : 0 ≤ d) :
    runF (Sg (k + 2)) 0 2 4 b_law_needed [tTask ns es s, tStat n a d o] = some (.str (needV nd n d o)) := by
  have hm : ev (Sg (k + 2)) true (.call 6 [(.var 0), (.var 1)]) [.sh (tTask ns es s), .sh (tStat n a d o), .un, .un] = some (.bl (unfI nd n d o)) :=
    r_call rfl (r_cons (r_var rfl) (r_cons (r_var rfl) r_nil)) rfl (m_open (k + 1) ns es s n a d o nd h)
  have ht : evT (Sg (k + 2)) (.or (.not (.tru (.call 6 [(.var 0), (.var 1)]))) (.one (.cmp .Eq (.idx (.var 1) (.int 3)) (.int 1)))) [.sh (tTask ns es s), .sh (tStat n a d o), .un, .un] = some (noNeed nd n d o) :=
    t_or (t_not (t_tru hm rfl)) fun _ => t_one (t_cmp (r_idx (r_var rfl) r_int st_3) r_int eq_i)
  have all : exs (Sg (k + 2)) 0 b_law_needed [.sh (tTask ns es s), .sh (tStat n a d o), .un, .un] = some (.rt (.str (needV nd n d o))) := by
    unfold needV
    by_cases z : noNeed nd n d o = true
    · rw [if_pos z]
      rw [z] at ht
      exact x_ret (s_if ht (fun _ => x_ret (s_ret r_str)) (fun q => by cases q))
    · rw [if_neg z]
      rw [Bool.not_eq_true] at z
      rw [z] at ht
      obtain ⟨n0, dl⟩ := need_open z
      refine x_cons (s_if ht (fun q => by cases q) (fun _ => x_nil)) (x_cons (s_asg (d := .str (heldV nd n d o)) (r_call rfl (r_cons (r_var rfl) (r_cons (r_var rfl) r_nil)) rfl (m_lheld k ns es s n a d o nd h hp hd)) (by simp)) (x_ret (s_ret (r_join (Nat.le_trans (ents_size _ (plan_mem hp d)) (by decide)) (i_str (r_idx (r_idx (r_idx (r_idx (r_var rfl) r_int (tk_0 ns es s)) (r_idx (r_var rfl) r_int st_0) (at_ln ns (h n0))) r_int (nd_0 nd)) (r_idx (r_var rfl) r_int st_2) (at_plan hd dl))) fun x => turn_if rfl (t_cmp (r_var rfl) (r_var rfl) nin_s) fun _ => r_var rfl))))
  show (exs (Sg (k + 2)) 0 b_law_needed [.sh (tTask ns es s), .sh (tStat n a d o), .un, .un]).bind _ = _
  rw [all]
  rfl
end
end K

set_option Elab.async false
set_option linter.all false
set_option maxRecDepth 100000
set_option maxHeartbeats 4000000
namespace K
open PySem L2 EL
theorem m_isent (k : Nat) : ∀ x ∈ ents, runF (Sg k) 0 1 2 b_is_entry [.str x] = some (.bl true) := by
  intro x hx
  unfold ents at hx
  simp only [List.mem_cons, List.not_mem_nil, or_false] at hx
  rcases hx with rfl | rfl | rfl | rfl | rfl | rfl | rfl | rfl | rfl | rfl | rfl | rfl <;> (cases k <;> kernel_rfl)
/-- nodes that Task takes -/
structure NodesOk (ns : List Node) : Prop where
  len : 1 ≤ ns.length ∧ ns.length ≤ 2
  ent : ∀ nd ∈ ns, ∀ x ∈ nd.1, x ∈ ents
  pl : ∀ nd ∈ ns, 1 ≤ nd.1.length ∧ nd.1.length ≤ 4
  due : ∀ nd ∈ ns, (nd.1.length : Int) ≤ nd.2 ∧ nd.2 ≤ 8
section
variable (k : Nat) (ns : List Node) (es : List Edge) (s : Bool)
theorem cons2 : (Sg k).con[2]? = some (("MAX_NODES" : Str), .int 2) := by cases k <;> rfl
theorem cons3 : (Sg k).con[3]? = some (("MAX_PLAN" : Str), .int 4) := by cases k <;> rfl
theorem cons4 : (Sg k).con[4]? = some (("MAX_TICKS" : Str), .int 8) := by cases k <;> rfl
def bodyAre : List IS := match b_are_nodes with | [_, .fr _ _ b, _] => b | _ => []
theorem t_chn {S : Sig} {env : List SV} {a b c : IE} {x y z : D} {o u : CmpOp} (h1 : ev S true a env = some x) (h2 : ev S true b env = some y) (h3 : cmpD o x y = some true) (h4 : ev S true c env = some z) (h5 : cmpD u y z = some true) : evT S (.chn o u a b c) env = some true := by
  unfold evT
  rw [h1, Option.bind_some, h2, Option.bind_some, h3, Option.bind_some, if_pos rfl, h4, Option.bind_some, h5]
theorem turn_are (nd : Node) (h : nd ∈ ns) (H : NodesOk ns) (a b c : SV) : exs (Sg (k + 1)) 0 bodyAre [.sh (.tup (ns.map tNode)), .sh (tPlan nd.1), .sh (.int nd.2), c] = some (.nx [.sh (.tup (ns.map tNode)), .sh (tPlan nd.1), .sh (.int nd.2), c]) := by
  have hp := H.pl nd h
  have hd := H.due nd h
  have he := H.ent nd h
  have t1 : evT (Sg (k + 1)) (.and (.chn .LtE .LtE (.int 1) (.bi .len [(.var 1)]) (.con 3)) (.one (.chn .LtE .LtE (.bi .len [(.var 1)]) (.var 2) (.con 4)))) [.sh (.tup (ns.map tNode)), .sh (tPlan nd.1), .sh (.int nd.2), c] = some (true && true) :=
    t_and (t_chn r_int (r_bi (r_cons (r_var rfl) r_nil) len_t) (by rw [le_i, len_plan, decide_eq_true (by omega)]) (r_con (cons3 (k + 1))) (by rw [le_i, len_plan, decide_eq_true (by omega)])) fun _ => t_one (t_chn (r_bi (r_cons (r_var rfl) r_nil) len_t) (r_var rfl) (by rw [le_i, len_plan, decide_eq_true (by omega)]) (r_con (cons4 (k + 1))) (by rw [le_i, decide_eq_true (by omega)]))
  have e2 : ev (Sg (k + 1)) true (.bi .all [(.lc (.nm 3) (.ex (.var 1)) [] (.call 1 [(.var 3)]) [("entry", 3)])]) [.sh (.tup (ns.map tNode)), .sh (tPlan nd.1), .sh (.int nd.2), c] = some (.bl true) := by
    refine r_bi (ds := [.lst (nd.1.map fun _ => .bl true)]) (r_cons (lc_map (l := nd.1) (g := .str) (h := fun _ => .bl true) (i_tup (r_var rfl)) (by omega) fun x hx => turn_all rfl (r_call rfl (r_cons (r_var rfl) r_nil) rfl (m_isent k x (he x hx)))) r_nil) ?_
    rw [all_l, bls_map (fun _ => true)]
    simp
  exact x_cons (s_if (t_not t1) (fun q => by cases q) (fun _ => x_nil)) (x_cons (s_if (t_not (t_tru e2 rfl)) (fun q => by cases q) (fun _ => x_nil)) x_nil)
theorem m_are_nodes (H : NodesOk ns) : runF (Sg (k + 1)) 0 1 4 b_are_nodes [.tup (ns.map tNode)] = some (.bl true) := by
  have hl := H.len
  have L := for_inv (body := exs (Sg (k + 1)) 0 bodyAre) (t := .tp [(.nm 1), (.nm 2)]) (ds := ns.map tNode) (fun _ env => ∃ a b c, env = [.sh (.tup (ns.map tNode)), a, b, c]) (j := 0) (env := [.sh (.tup (ns.map tNode)), .un, .un, .un]) ⟨_, _, _, rfl⟩ fun i d e hd he => by
    obtain ⟨a, b, c, rfl⟩ := he
    rw [List.getElem?_map, Option.map_eq_some_iff] at hd
    obtain ⟨nd, h1, rfl⟩ := hd
    exact ⟨_, _, rfl, turn_are k ns nd (List.mem_of_getElem? h1) H a b c, _, _, _, rfl⟩
  obtain ⟨e', h1, a, b, c, rfl⟩ := L
  have t0 : evT (Sg (k + 1)) (.chn .LtE .LtE (.int 1) (.bi .len [(.var 0)]) (.con 2)) [.sh (.tup (ns.map tNode)), .un, .un, .un] = some true :=
    t_chn r_int (r_bi (r_cons (r_var rfl) r_nil) len_t) (by rw [le_i, len_nodes, decide_eq_true (by omega)]) (r_con (cons2 (k + 1))) (by rw [le_i, len_nodes, decide_eq_true (by omega)])
  have all : exs (Sg (k + 1)) 0 b_are_nodes [.sh (.tup (ns.map tNode)), .un, .un, .un] = some (.rt (.bl true)) :=
    x_cons (s_if (t_not t0) (fun q => by cases q) (fun _ => x_nil)) (x_cons (s_for (i_tup (r_var rfl)) (by rw [List.length_map]; omega) h1) (x_ret (s_ret r_bl)))
  show (exs (Sg (k + 1)) 0 b_are_nodes [.sh (.tup (ns.map tNode)), .un, .un, .un]).bind _ = _
  rw [all]
  rfl
end
end K

set_option Elab.async false
set_option linter.all false
set_option maxRecDepth 100000
set_option maxHeartbeats 4000000
namespace K
open PySem L2 EL
structure EdgesOk (ns : List Node) (es : List Edge) : Prop where
  len : es.length ≤ 10
  at_ : ∀ e ∈ es, (0 ≤ e.1 ∧ e.1 < ns.length) ∧ (0 ≤ e.2.1 ∧ e.2.1 < ns.length)
  gap : ∀ e ∈ es, ∃ nd, atI ns e.1 = some nd ∧ nd.2 ≤ e.2.2 ∧ e.2.2 ≤ 8
  nd : (es.map fun e => ([e.1, e.2.1] : List Int)).Nodup
theorem addU_nd : ∀ (l acc : List (List Int)), l.Nodup → (∀ x ∈ l, x ∉ acc) → (l.foldl addU acc).length = acc.length + l.length
  | [], acc, _, _ => rfl
  | x :: l, acc, h, d => by
    rw [List.nodup_cons] at h
    rw [List.foldl_cons, addU_out (d x List.mem_cons_self), addU_nd l (x :: acc) h.2 fun y hy q => ?_, List.length_cons, List.length_cons]
    · omega
    · rcases List.mem_cons.mp q with e | q
      · subst e
        exact h.1 hy
      · exact d y (List.mem_cons_of_mem _ hy) q
theorem r_lsc {α : Type} {S : Sig} {br : Bool} {env : List SV} {t : IT} {it : II} {e : IE} {own : List (Str × Nat)} {l : List α} {g : α → D} {f : α → List Int} (hI : evI S true it env = some (l.map g)) (hl : l.length < 63)
    (H : ∀ x ∈ l, turnC S t [] e own env (g x) = some (some (ofTup (f x)))) : ev S br (.lsc t it [] e own) env = some (.int (((l.map f).foldl addU []).length : Nat)) := by
  have z := compL_map (f := turnC S t [] e own env) (h := fun x => ofTup (f x)) H
  unfold ev
  rw [hI, Option.bind_some, if_pos (by rw [List.length_map]; exact hl)]
  show ((compL (turnC S t [] e own env) (l.map g)).bind _) = _
  rw [z, Option.bind_some]
  have zz := toTups_map (l.map f)
  rw [List.map_map] at zz
  show (toTups (l.map (ofTup ∘ f))).map _ = _
  rw [zz]
  rfl
section
variable (k : Nat) (ns : List Node) (es : List Edge) (s : Bool)
theorem len_edges : ((es.map tEdge).length : Int) = (es.length : Int) := by rw [List.length_map]
theorem m_are_edges (H : EdgesOk ns es) : runF (Sg k) 0 2 7 b_are_edges [.tup (ns.map tNode), .tup (es.map tEdge)] = some (.bl true) := by
  have hl := H.len
  have e1 : ev (Sg k) true (.bi .all [(.lc (.tp [(.nm 3), (.nm 4), (.nm 5)]) (.ex (.var 1)) [] (.and (.chn .LtE .Lt (.int 0) (.var 3) (.var 2)) (.one (.chn .LtE .Lt (.int 0) (.var 4) (.var 2)))) [("u", 3), ("v", 4), ("_", 5)])]) [.sh (.tup (ns.map tNode)), .sh (.tup (es.map tEdge)), .sh (.int ns.length), .un, .un, .un, .un] = some (.bl true) := by
    refine r_bi (ds := [.lst (es.map fun _ => .bl true)]) (r_cons (lc_map (l := es) (g := tEdge) (h := fun _ => .bl true) (i_tup (r_var rfl)) (by omega) fun e he => ?_) r_nil) ?_
    · obtain ⟨⟨a1, a2⟩, a3, a4⟩ := H.at_ e he
      refine turn_all rfl (r_and (p := true) (q := true) (r_chn (p := true) (q := true) r_int (r_var rfl) (by rw [le_i, decide_eq_true a1]) fun _ => ⟨r_var rfl, by rw [lt_i, decide_eq_true a2]⟩) fun _ => r_one (r_chn (p := true) (q := true) r_int (r_var rfl) (by rw [le_i, decide_eq_true a3]) fun _ => ⟨r_var rfl, by rw [lt_i, decide_eq_true a4]⟩))
    · rw [all_l, bls_map (fun _ => true)]
      simp
  have e2 : ev (Sg k) true (.bi .all [(.lc (.tp [(.nm 3), (.nm 5), (.nm 6)]) (.ex (.var 1)) [] (.chn .LtE .LtE (.idx (.idx (.var 0) (.var 3)) (.int 1)) (.var 6) (.con 4)) [("u", 3), ("_", 5), ("gap", 6)])]) [.sh (.tup (ns.map tNode)), .sh (.tup (es.map tEdge)), .sh (.int ns.length), .un, .un, .un, .un] = some (.bl true) := by
    refine r_bi (ds := [.lst (es.map fun _ => .bl true)]) (r_cons (lc_map (l := es) (g := tEdge) (h := fun _ => .bl true) (i_tup (r_var rfl)) (by omega) fun e he => ?_) r_nil) ?_
    · obtain ⟨nd, g1, g2, g3⟩ := H.gap e he
      exact turn_all rfl (r_chn (p := true) (q := true) (r_idx (r_idx (r_var rfl) (r_var rfl) (at_tn ns g1)) r_int (nd_1 nd)) (r_var rfl) (by rw [le_i, decide_eq_true g2]) fun _ => ⟨r_con (cons4 k), by rw [le_i, decide_eq_true g3]⟩)
    · rw [all_l, bls_map (fun _ => true)]
      simp
  have s0 : ex (Sg k) 0 (.asg 2 (.bi .len [(.var 0)])) [.sh (.tup (ns.map tNode)), .sh (.tup (es.map tEdge)), .un, .un, .un, .un, .un] = some (.nx [.sh (.tup (ns.map tNode)), .sh (.tup (es.map tEdge)), .sh (.int ns.length), .un, .un, .un, .un]) := by
    have z := s_asg (S := Sg k) (n := 0) (i := 2) (env := [.sh (.tup (ns.map tNode)), .sh (.tup (es.map tEdge)), .un, .un, .un, .un, .un]) (r_bi (br := false) (o := .len) (r_cons (r_var (i := 0) rfl) r_nil) len_t) (by simp)
    rw [len_nodes] at z
    exact z
  have all : exs (Sg k) 0 b_are_edges [.sh (.tup (ns.map tNode)), .sh (.tup (es.map tEdge)), .un, .un, .un, .un, .un] = some (.rt (.bl true)) := by
    refine x_cons s0 (x_cons (s_if (t_not (t_tru e1 rfl)) (fun q => by cases q) (fun _ => x_nil)) (x_cons (s_if (t_not (t_tru e2 rfl)) (fun q => by cases q) (fun _ => x_nil)) (x_ret (s_ret (r_cmp (r_lsc (l := es) (g := tEdge) (f := fun e => [e.1, e.2.1]) (i_tup (r_var rfl)) (by omega) fun e _ => turn_all rfl (r_tup (r_cons (r_var rfl) (r_cons (r_var rfl) r_nil)) (by simp))) (r_bi (r_cons (r_var rfl) r_nil) len_t) ?_)))))
    rw [eq_i, addU_nd _ _ H.nd (fun _ _ h => by cases h), List.length_nil, List.length_map, List.length_map, Nat.zero_add, decide_eq_true rfl]
  show (exs (Sg k) 0 b_are_edges [.sh (.tup (ns.map tNode)), .sh (.tup (es.map tEdge)), .un, .un, .un, .un, .un]).bind _ = _
  rw [all]
  rfl
end
end K

set_option Elab.async false
set_option linter.all false
set_option maxRecDepth 100000
set_option maxHeartbeats 4000000
namespace K
open PySem L2 EL
def eL (e : Edge) : List Int := [e.1, e.2.1, e.2.2]
theorem tE_of (es : List Edge) : es.map tEdge = (es.map eL).map ofTup := by
  rw [List.map_map]
  rfl
theorem sortL_id : ∀ l : List (List Int), l.Pairwise (fun a b => _root_.TS.code bigB a ≤ _root_.TS.code bigB b) → sortL l = l
  | [], _ => rfl
  | x :: r, h => by
    rw [List.pairwise_cons] at h
    show insL x (sortL r) = x :: r
    rw [sortL_id r h.2]
    cases r with
    | nil => rfl
    | cons y r =>
      unfold insL
      rw [if_neg (Int.not_lt.mpr (h.1 y List.mem_cons_self))]
theorem code3 (a b c : Int) : _root_.TS.code bigB [a, b, c] = a * 1000000000000 + (b * 1000000 + c) := by
  show a * bigB ^ 2 + (b * bigB ^ 1 + (c * bigB ^ 0 + 0)) = _
  rw [show bigB ^ 2 = 1000000000000 by decide, show bigB ^ 1 = 1000000 by decide, show bigB ^ 0 = 1 by decide]
  omega
theorem gap_bd (xs : List Int) (u v : Nat) : (nodeF xs u).2 ≤ gapF xs u v ∧ gapF xs u v ≤ 8 := by
  have h := mod_bd (i := dd xs (14 + 2 * u + v)) (j := 4) (by decide)
  have hn : (nodeF xs u).2 ≤ 8 := by
    show min8 _ ≤ 8
    unfold min8
    split <;> omega
  unfold gapF min8
  split <;> omega
theorem due_bd (xs : List Int) (u : Nat) : ((nodeF xs u).1.length : Int) ≤ (nodeF xs u).2 ∧ (nodeF xs u).2 ≤ 8 := by
  have h := mod_bd (i := dd xs (12 + u)) (j := 5) (by decide)
  have hp := planN_bd xs u
  have hl : (planF xs u).length = planN xs u := by
    unfold planF
    rw [List.length_map, List.length_range]
  show ((planF xs u).length : Int) ≤ min8 ((planF xs u).length + (dd xs (12 + u)).fmod 5) ∧ min8 ((planF xs u).length + (dd xs (12 + u)).fmod 5) ≤ 8
  rw [hl]
  unfold min8
  split <;> omega
theorem row_mem {xs : List Int} {st : Bool} {u c : Nat} {e : Edge} (h : e ∈ rowF xs st u c) : e.1 = (u : Int) ∧ ∃ v, v < c ∧ e.2.1 = (v : Int) ∧ e.2.2 = gapF xs u v := by
  unfold rowF at h
  obtain ⟨v, hv, rfl⟩ := List.mem_map.mp h
  exact ⟨rfl, v, List.mem_range.mp (List.mem_filter.mp hv).1, rfl, rfl⟩
theorem edges_mem {xs : List Int} {st : Bool} {c : Nat} {e : Edge} : ∀ {u : Nat}, e ∈ edgesF xs st c u → ∃ w v : Nat, w < u ∧ v < c ∧ e.1 = (w : Int) ∧ e.2.1 = (v : Int) ∧ e.2.2 = gapF xs w v
  | 0, h => by cases h
  | u + 1, h => by
    rcases List.mem_append.mp h with h | h
    · obtain ⟨w, v, h1, h2⟩ := edges_mem h
      exact ⟨w, v, Nat.lt_succ_of_lt h1, h2⟩
    · obtain ⟨h1, v, h2, h3⟩ := row_mem h
      exact ⟨u, v, Nat.lt_succ_self u, h2, h1, h3⟩
/-- the edges stand in the order of their pairs -/
def Before (e f : Edge) : Prop := e.1 < f.1 ∨ (e.1 = f.1 ∧ e.2.1 < f.2.1)
theorem row_up (xs : List Int) (st : Bool) (u c : Nat) : (rowF xs st u c).Pairwise Before := by
  unfold rowF
  rw [List.pairwise_map]
  refine List.Pairwise.imp (fun {v w} h => .inr ⟨rfl, ?_⟩) (List.pairwise_lt_range.filter _)
  show (v : Int) < (w : Int)
  omega
theorem edges_up (xs : List Int) (st : Bool) (c : Nat) : ∀ u, (edgesF xs st c u).Pairwise Before
  | 0 => .nil
  | u + 1 => by
    refine List.pairwise_append.mpr ⟨edges_up xs st c u, row_up xs st u c, fun a ha b hb => .inl ?_⟩
    obtain ⟨w, v, h1, _, h3, _⟩ := edges_mem ha
    obtain ⟨h4, _⟩ := row_mem hb
    omega
theorem edges_sorted (xs : List Int) (st : Bool) (c : Nat) (hc : c ≤ 2) : sortL ((edgesF xs st c c).map eL) = (edgesF xs st c c).map eL := by
  refine sortL_id _ ?_
  rw [List.pairwise_map]
  refine List.Pairwise.imp_of_mem (fun {e f} he hf h => ?_) (edges_up xs st c c)
  obtain ⟨w, v, a1, a2, a3, a4, a5⟩ := edges_mem he
  obtain ⟨w', v', b1, b2, b3, b4, b5⟩ := edges_mem hf
  have g1 := gap_bd xs w v
  have g2 := gap_bd xs w' v'
  have d1 := due_bd xs w
  have d2 := due_bd xs w'
  unfold eL
  rw [code3, code3]
  rcases h with h | ⟨h, h2⟩ <;> omega
theorem nodes_ok {xs : List Int} : NodesOk ((List.range (cntF xs)).map (nodeF xs)) := by
  have hc := cnt_bd xs
  refine ⟨by rw [List.length_map, List.length_range]; exact hc, fun nd h x hx => ?_, fun nd h => ?_, fun nd h => ?_⟩
  · obtain ⟨u, _, rfl⟩ := List.mem_map.mp h
    have hx : x ∈ planF xs u := hx
    unfold planF at hx
    obtain ⟨i, _, rfl⟩ := List.mem_map.mp hx
    exact ent_mem _
  · obtain ⟨u, _, rfl⟩ := List.mem_map.mp h
    show 1 ≤ (planF xs u).length ∧ _
    have hl : (planF xs u).length = planN xs u := by
      unfold planF
      rw [List.length_map, List.length_range]
    show 1 ≤ (planF xs u).length ∧ (planF xs u).length ≤ 4
    rw [hl]
    exact planN_bd xs u
  · obtain ⟨u, _, rfl⟩ := List.mem_map.mp h
    exact due_bd xs u
end K

set_option Elab.async false
set_option linter.all false
set_option maxRecDepth 100000
set_option maxHeartbeats 4000000
namespace K
open PySem L2 EL
theorem edges_ok {xs : List Int} {st : Bool} : EdgesOk ((List.range (cntF xs)).map (nodeF xs)) (edgesF xs st (cntF xs) (cntF xs)) := by
  have hc := cnt_bd xs
  have hl := edges_len xs st (cntF xs) (cntF xs)
  have hm : cntF xs * cntF xs ≤ 2 * 2 := Nat.mul_le_mul hc.2 hc.2
  refine ⟨by omega, fun e he => ?_, fun e he => ?_, ?_⟩
  · obtain ⟨w, v, h1, h2, h3, h4, _⟩ := edges_mem he
    rw [List.length_map, List.length_range, h3, h4]
    omega
  · obtain ⟨w, v, h1, h2, h3, h4, h5⟩ := edges_mem he
    have g := gap_bd xs w v
    refine ⟨nodeF xs w, ?_, by rw [h5]; exact g.1, by rw [h5]; exact g.2⟩
    rw [h3]
    refine atI_nat ?_
    rw [List.getElem?_map, List.getElem?_range h1]
    rfl
  · show List.Pairwise _ _
    rw [List.pairwise_map]
    refine List.Pairwise.imp (fun {e f} h q => ?_) (edges_up xs st (cntF xs) (cntF xs))
    simp only [List.cons.injEq, and_true] at q
    rcases h with h | ⟨_, h⟩
    · omega
    · omega
theorem s_sfd {S : Sig} {n i k c : Nat} {e : IE} {env : List SV} {fs : List (Str × D)} {f : Str} {d : D} (h0 : env[i]? = some (.me (.obj c fs))) (h1 : S.fls[k]? = some (c, f)) (h2 : ev S false e env = some d) (hl : fs.length < 1000) :
    ex S n (.sfd i k e) env = some (.nx (env.set i (.me (.obj c (putD f d fs))))) := by
  unfold ex
  rw [h0, h1, h2]
  show (if c = c ∧ fs.length < 1000 then _ else none) = _
  rw [if_pos ⟨rfl, hl⟩]
theorem r_fldM {S : Sig} {br : Bool} {i k c : Nat} {env : List SV} {fs : List (Str × D)} {f : Str} {d : D} (h0 : env[i]? = some (.me (.obj c fs))) (h1 : S.fls[k]? = some (c, f)) (h2 : fs.lookup f = some d) : ev S br (.fld (.var i) k) env = some d := by
  unfold ev
  rw [r_me h0, h1]
  show (if c = c then fs.lookup f else none) = _
  rw [if_pos rfl, h2]
theorem put1 {x : D} : putD "nodes" x [] = ([("nodes", x)] : List (Str × D)) := rfl
theorem put2 {x y : D} : putD "edges" y ([("nodes", x)] : List (Str × D)) = ([("nodes", x), ("edges", y)] : List (Str × D)) := by kernel_rfl
theorem put3 {x y z : D} : putD "steady" z ([("nodes", x), ("edges", y)] : List (Str × D)) = ([("nodes", x), ("edges", y), ("steady", z)] : List (Str × D)) := by kernel_rfl
section
variable (k : Nat) (ns : List Node) (es : List Edge) (s : Bool)
theorem even_e (H : EdgesOk ns es) (h0 : ∀ nd ∈ ns, 0 ≤ nd.2) (h2 : ns.length ≤ 2) : evenL (es.map eL) = true := by
  unfold evenL
  cases es with
  | nil => rfl
  | cons e r =>
    rw [List.map_cons]
    simp only [Bool.and_eq_true, decide_eq_true_eq, List.all_eq_true]
    refine ⟨by show 1 ≤ 3; decide, fun m hm => ?_⟩
    have hm : m ∈ (e :: r).map eL := by rw [List.map_cons]; exact hm
    obtain ⟨f, hf, rfl⟩ := List.mem_map.mp hm
    obtain ⟨⟨a1, a2⟩, a3, a4⟩ := H.at_ f hf
    obtain ⟨nd, g1, g2, g3⟩ := H.gap f hf
    have hn : 0 ≤ nd.2 := by
      obtain ⟨j, hj⟩ : ∃ j : Nat, f.1 = j := ⟨f.1.toNat, by omega⟩
      rw [hj] at g1
      have hj2 : j < ns.length := by omega
      rw [atI_nat (List.getElem?_eq_getElem hj2)] at g1
      cases g1
      exact h0 _ (List.getElem_mem hj2)
    refine ⟨rfl, fun i hi => ?_⟩
    unfold bigB
    unfold eL at hi
    simp only [List.mem_cons, List.not_mem_nil, or_false] at hi
    rcases hi with rfl | rfl | rfl <;> omega
theorem m_init (hn : NodesOk ns) (he : EdgesOk ns es) (hso : sortL (es.map eL) = es.map eL) (hs : s = true → ns.length = 1 ∧ es.length = 1) :
    runI (Sg (k + 2)) 0 3 9 0 b_Task_init [.lst (ns.map tNode), .lst (es.map tEdge), .bl s] = some (tSelf ns es s) := by
  have hl := hn.len
  have hle := he.len
  have h0 : ∀ nd ∈ ns, 0 ≤ nd.2 := fun nd h => by
    have := hn.due nd h
    omega
  let E (fs : List (Str × D)) : List SV := [.me (.obj 0 fs), .sh (.lst (ns.map tNode)), .sh (.lst (es.map tEdge)), .sh (.bl s), .un, .un, .un, .un, .un]
  have e1 : ev (Sg (k + 2)) false (.bi .tuple [(.lc (.tp [(.nm 4), (.nm 5)]) (.ex (.var 1)) [] (.tup [(.bi .tuple [(.var 4)]), (.var 5)]) [("plan", 4), ("due", 5)])]) (E []) = some (.tup (ns.map tNode)) :=
    r_bi (r_cons (lc_map (l := ns) (g := tNode) (h := tNode) (i_lst (r_var rfl)) (by omega) fun nd _ => turn_all rfl (r_tup (r_cons (r_bi (r_cons (r_var rfl) r_nil) tup_t) (r_cons (r_var rfl) r_nil)) (by simp))) r_nil) tup_l
  have hsort : bsem .sorted [.lst (es.map tEdge)] = some (.lst (es.map tEdge)) := by
    show ((toTups (es.map tEdge)).bind fun ns => if decide (ns.length < 64) && evenL ns then some (D.lst ((sortL ns).map ofTup)) else none) = _
    rw [tE_of, toTups_map, Option.bind_some, even_e ns es he h0 hl.2, hso, if_pos]
    rw [decide_eq_true (by rw [List.length_map]; omega)]
    rfl
  have e2 : ev (Sg (k + 2)) false (.bi .tuple [(.bi .sorted [(.lc (.tp [(.nm 6), (.nm 7), (.nm 8)]) (.ex (.var 2)) [] (.tup [(.var 6), (.var 7), (.var 8)]) [("u", 6), ("v", 7), ("gap", 8)])])]) (E [("nodes", .tup (ns.map tNode))]) = some (.tup (es.map tEdge)) :=
    r_bi (r_cons (r_bi (r_cons (lc_map (l := es) (g := tEdge) (h := tEdge) (i_lst (r_var rfl)) (by omega) fun e _ => turn_all rfl (r_tup (r_cons (r_var rfl) (r_cons (r_var rfl) (r_cons (r_var rfl) r_nil))) (by simp))) r_nil) hsort) r_nil) tup_l
  have hN : ∀ br, ev (Sg (k + 2)) br (.fld (.var 0) 0) (E (fsSelf ns es s)) = some (.tup (ns.map tNode)) := fun br => r_fldM rfl (fls0 (k + 2)) fl_n
  have hE : ∀ br, ev (Sg (k + 2)) br (.fld (.var 0) 1) (E (fsSelf ns es s)) = some (.tup (es.map tEdge)) := fun br => r_fldM rfl (fls1 (k + 2)) fl_e
  have t1 : evT (Sg (k + 2)) (.and (.tru (.call 0 [(.fld (.var 0) 0)])) (.one (.tru (.call 2 [(.fld (.var 0) 0), (.fld (.var 0) 1)])))) (E (fsSelf ns es s)) = some (true && true) :=
    t_and (t_tru (r_call rfl (r_cons (hN _) r_nil) rfl (m_are_nodes k ns hn)) rfl) fun _ => t_one (t_tru (r_call rfl (r_cons (hN _) (r_cons (hE _) r_nil)) rfl (m_are_edges (k + 1) ns es he)) rfl)
  have t2 : evT (Sg (k + 2)) (.and (.tru (.var 3)) (.one (.not (.chn .Eq .Eq (.bi .len [(.fld (.var 0) 0)]) (.bi .len [(.fld (.var 0) 1)]) (.int 1))))) (E (fsSelf ns es s)) = some (s && false) :=
    t_and (t_tru (r_var rfl) rfl) fun z => t_one (t_not (p := true) (t_chn (r_bi (r_cons (hN _) r_nil) len_t) (r_bi (r_cons (hE _) r_nil) len_t) (by rw [eq_i, len_nodes, len_edges, (hs z).1, (hs z).2]; rfl) r_int (by rw [eq_i, len_edges, (hs z).2]; rfl)))
  rw [Bool.and_false] at t2
  have all : exs (Sg (k + 2)) 0 b_Task_init (E []) = some (.nx (E (fsSelf ns es s))) := by
    refine x_cons (s_sfd rfl (fls0 (k + 2)) e1 (by simp)) ?_
    refine x_cons (s_sfd (fs := [("nodes", .tup (ns.map tNode))]) rfl (fls1 (k + 2)) e2 (by simp)) ?_
    rw [put2]
    refine x_cons (s_sfd (fs := [("nodes", .tup (ns.map tNode)), ("edges", .tup (es.map tEdge))]) rfl (fls2 (k + 2)) (r_var rfl) (by simp)) ?_
    rw [put3]
    exact x_cons (s_if (t_not t1) (fun q => by cases q) (fun _ => x_nil)) (x_cons (s_if t2 (fun q => by cases q) (fun _ => x_nil)) x_nil)
  show (exs (Sg (k + 2)) 0 b_Task_init (E [])).bind _ = _
  rw [all]
  rfl
end
end K

set_option Elab.async false
set_option linter.all false
set_option maxRecDepth 100000
set_option maxHeartbeats 4000000
/-! a tree is like itself -/
namespace EL
open PySem L2
mutual
/-- what is compared by ==, at most so deep -/
def okL : D → Nat → Bool
  | .non, _ => true
  | .bl _, _ => true
  | .int _, _ => true
  | .str s, _ => PySem.PyData.strOk s
  | .tup xs, n => decide (1 ≤ n) && okLs xs (n - 1)
  | .lst xs, n => decide (1 ≤ n) && okLs xs (n - 1)
  | .dK _, _ => false
  | .dT _, _ => false
  | .obj _ _, _ => false
def okLs : List D → Nat → Bool
  | [], _ => true
  | x :: xs, n => okL x n && okLs xs n
end
mutual
theorem okL_py : ∀ (x : D) (n : Nat), okL x n = true → ∃ p, toPy x = some p ∧ p.canLay0 = true ∧ p.depth ≤ n ∧ PyData.eqv p p = true
  | .non, n, _ => ⟨.none, by simp only [toPy], by simp only [PyData.canLay0], by simp only [PyData.depth]; omega, by simp only [PyData.eqv]⟩
  | .bl b, n, _ => ⟨.bool b, by simp only [toPy], by simp only [PyData.canLay0], by simp only [PyData.depth]; omega, by simp [PyData.eqv]⟩
  | .int i, n, _ => ⟨.int i, by simp only [toPy], by simp only [PyData.canLay0], by simp only [PyData.depth]; omega, by simp [PyData.eqv]⟩
  | .str s, n, h => ⟨.str s, by simp only [toPy], by simpa only [PyData.canLay0, okL] using h, by simp only [PyData.depth]; omega, by simp [PyData.eqv]⟩
  | .tup xs, n, h => by
    simp only [okL, Bool.and_eq_true, decide_eq_true_eq] at h
    obtain ⟨ps, h1, h2, h3, h4⟩ := okLs_py xs (n - 1) h.2
    refine ⟨.tuple ps, by simp only [toPy, h1, Option.map_some], by simpa only [PyData.canLay0] using h2, ?_, by simpa only [PyData.eqv] using h4⟩
    simp only [PyData.depth]
    omega
  | .lst xs, n, h => by
    simp only [okL, Bool.and_eq_true, decide_eq_true_eq] at h
    obtain ⟨ps, h1, h2, h3, h4⟩ := okLs_py xs (n - 1) h.2
    refine ⟨.list ps, by simp only [toPy, h1, Option.map_some], by simpa only [PyData.canLay0] using h2, ?_, by simpa only [PyData.eqv] using h4⟩
    simp only [PyData.depth]
    omega
  | .dK _, n, h => by simp [okL] at h
  | .dT _, n, h => by simp [okL] at h
  | .obj _ _, n, h => by simp [okL] at h
theorem okLs_py : ∀ (xs : List D) (n : Nat), okLs xs n = true → ∃ ps, toPys xs = some ps ∧ PyData.canLayAll0 ps = true ∧ PyData.depthAll ps ≤ n ∧ PyData.eqvAll ps ps = true
  | [], n, _ => ⟨[], by simp only [toPys], by simp only [PyData.canLayAll0], by simp only [PyData.depthAll]; omega, by simp only [PyData.eqvAll]⟩
  | x :: xs, n, h => by
    simp only [okLs, Bool.and_eq_true] at h
    obtain ⟨p, h1, h2, h3, h4⟩ := okL_py x n h.1
    obtain ⟨ps, g1, g2, g3, g4⟩ := okLs_py xs n h.2
    refine ⟨p :: ps, by simp only [toPys, h1, g1, Option.bind_some, Option.map_some], by simp only [PyData.canLayAll0, h2, g2, Bool.and_self], ?_, by simp only [PyData.eqvAll, h4, g4, Bool.and_self]⟩
    simp only [PyData.depthAll]
    omega
end
theorem okL_shaped {x : D} {n : Nat} (h : okL x n = true) (hn : n ≤ 64) : ∃ p, toPy x = some p ∧ SeqAt.shaped p = true ∧ PyData.eqv p p = true := by
  obtain ⟨p, h1, h2, h3, h4⟩ := okL_py x n h
  refine ⟨p, h1, ?_, h4⟩
  unfold SeqAt.shaped
  rw [h2, decide_eq_true (by omega)]
  rfl
theorem eq_self {x : D} (n : Nat) (h : okL x n = true) (hn : n ≤ 64) : cmpD .Eq x x = some true := by
  obtain ⟨p, h1, h2, h3⟩ := okL_shaped h hn
  show eqD x x = _
  unfold eqD
  rw [h1, Option.bind_some, Option.bind_some, h2, if_pos (by rfl), h3]
theorem ne_self {x : D} (n : Nat) (h : okL x n = true) (hn : n ≤ 64) : cmpD .NotEq x x = some false := by
  show (eqD x x).map (!·) = _
  rw [show eqD x x = some true from eq_self n h hn]
  rfl
theorem okLs_map {α : Type} {f : α → D} {n : Nat} : ∀ {l : List α}, (∀ x ∈ l, okL (f x) n = true) → okLs (l.map f) n = true
  | [], _ => by simp only [List.map_nil, okLs]
  | x :: l, h => by
    simp only [List.map_cons, okLs, Bool.and_eq_true]
    exact ⟨h x List.mem_cons_self, okLs_map fun y hy => h y (List.mem_cons_of_mem _ hy)⟩
/-- tuples of texts -/
theorem strs_py : ∀ a : List Str, toPys (a.map .str) = some (a.map .str)
  | [] => by simp only [List.map_nil, toPys]
  | x :: a => by simp only [List.map_cons, toPys, toPy, strs_py a, Option.bind_some, Option.map_some]
theorem strs_eqv : ∀ a b : List Str, PyData.eqvAll (a.map .str) (b.map .str) = decide (a = b)
  | [], [] => by simp [PyData.eqvAll]
  | x :: a, [] => by simp [PyData.eqvAll]
  | [], y :: b => by simp [PyData.eqvAll]
  | x :: a, y :: b => by
    simp only [List.map_cons, PyData.eqvAll, PyData.eqv, strs_eqv a b]
    by_cases h : x = y
    · subst h
      simp
    · simp [h]
theorem strs_lay : ∀ {a : List Str}, (∀ x ∈ a, PySem.PyData.strOk x = true) → PyData.canLayAll0 (a.map .str) = true
  | [], _ => by simp only [List.map_nil, PyData.canLayAll0]
  | x :: a, h => by
    simp only [List.map_cons, PyData.canLayAll0, PyData.canLay0, Bool.and_eq_true]
    exact ⟨h x List.mem_cons_self, strs_lay fun y hy => h y (List.mem_cons_of_mem _ hy)⟩
theorem strs_dep : ∀ a : List Str, PyData.depthAll (a.map .str) = 0
  | [] => by simp only [List.map_nil, PyData.depthAll]
  | x :: a => by
    simp only [List.map_cons, PyData.depthAll, PyData.depth, strs_dep a]
    rfl
theorem eq_strs {a b : List Str} (ha : ∀ x ∈ a, PySem.PyData.strOk x = true) (hb : ∀ x ∈ b, PySem.PyData.strOk x = true) : cmpD .Eq (.tup (a.map .str)) (.tup (b.map .str)) = some (decide (a = b)) := by
  have sh : ∀ {c : List Str}, (∀ x ∈ c, PySem.PyData.strOk x = true) → SeqAt.shaped (.tuple (c.map .str)) = true := fun {c} h => by
    unfold SeqAt.shaped
    simp only [PyData.canLay0, PyData.depth, strs_lay h, strs_dep c]
    rfl
  show eqD _ _ = _
  unfold eqD
  simp only [toPy, strs_py, Option.map_some, Option.bind_some]
  rw [sh ha, sh hb, if_pos (by rfl)]
  simp only [PyData.eqv, strs_eqv]
end EL
namespace K
open PySem L2 EL
theorem ents_ok : ∀ x ∈ ents, PySem.PyData.strOk x = true := by decide +kernel
theorem ok_plan {p : List Str} (h : ∀ x ∈ p, x ∈ ents) : okL (tPlan p) 1 = true := by
  unfold tPlan
  simp only [okL]
  rw [okLs_map fun x hx => by simpa only [okL] using ents_ok x (h x hx)]
  rfl
theorem ok_nodes {ns : List Node} (h : ∀ nd ∈ ns, ∀ x ∈ nd.1, x ∈ ents) : okLs (ns.map tNode) 2 = true := okLs_map fun nd hnd => by
  unfold tNode
  simp only [okL, okLs]
  rw [ok_plan (h nd hnd)]
  rfl
theorem ok_edges {es : List Edge} : okLs (es.map tEdge) 2 = true := okLs_map fun e _ => by
  unfold tEdge
  simp only [okL, okLs]
  rfl
theorem ok_ints {l : List Int} : okLs (l.map .int) 1 = true := okLs_map fun e _ => by simp only [okL]
theorem ok_bls {l : List Bool} : okLs (l.map .bl) 1 = true := okLs_map fun e _ => by simp only [okL]
/-! the property server -/
def servI (ns0 : Node) (es : List Edge) (s : Bool) (e0 : Edge) : Bool := s && (decide (ns0.1 = List.replicate ns0.1.length ("" : Str)) && decide (ns0.2 = e0.2.2))
section
variable (k : Nat) (ns : List Node) (es : List Edge) (s : Bool)
theorem empties (n : Nat) (h : 1 ≤ n ∧ n ≤ 4) : binD .Mult (.tup [.str ""]) (.int n) = some (.tup ((List.replicate n ("" : Str)).map .str)) := by
  obtain ⟨h1, h2⟩ := h
  have : n = 1 ∨ n = 2 ∨ n = 3 ∨ n = 4 := by omega
  rcases this with rfl | rfl | rfl | rfl <;> rfl
theorem at_n0 (nd : Node) (r : List Node) : idxD (.tup ((nd :: r).map tNode)) (.int 0) = some (tNode nd) := at_tn (nd :: r) (i := 0) (atI_nat (j := 0) rfl)
theorem at_ln0 (nd : Node) (r : List Node) : idxD (.lst ((nd :: r).map tNode)) (.int 0) = some (tNode nd) := at_ln (nd :: r) (i := 0) (atI_nat (j := 0) rfl)
theorem m_server (nd : Node) (r : List Node) (e : Edge) (hn : NodesOk (nd :: r)) (hs : s = true → es = [e]) : runF (Sg k) 0 1 3 b_Task_server [tSelf (nd :: r) es s] = some (.bl (servI nd es s e)) := by
  have hp := hn.pl nd List.mem_cons_self
  have he := hn.ent nd List.mem_cons_self
  have all : exs (Sg k) 0 b_Task_server [.sh (tSelf (nd :: r) es s), .un, .un] = some (.rt (.bl (servI nd es s e))) := by
    refine x_cons (s_unp (d := tNode nd) (r_idx (r_fld (r_var rfl) (fls0 k) fl_n) r_int (at_n0 nd r)) rfl) (x_ret (s_ret (r_and (r_bi (r_cons (r_fld (r_var rfl) (fls2 k) fl_s) r_nil) rfl) fun z => ?_)))
    have z := hs z
    subst z
    refine r_and (r_cmp (r_var rfl) (r_bin (r_tup (r_cons r_str r_nil) (by simp)) (r_bi (r_cons (r_var rfl) r_nil) len_t) (by rw [len_plan]; exact empties _ hp)) (eq_strs (fun x hx => ents_ok x (he x hx)) fun x hx => ?_)) fun _ => r_one (r_cmp (r_var rfl) (r_idx (r_idx (r_fld (r_var rfl) (fls1 k) fl_e) r_int (e0_t e)) r_int ed_2) eq_i)
    rw [List.eq_of_mem_replicate hx]
    decide +kernel
  show (exs (Sg k) 0 b_Task_server [.sh (tSelf (nd :: r) es s), .un, .un]).bind _ = _
  rw [all]
  rfl
end
end K

set_option Elab.async false
set_option linter.all false
set_option maxRecDepth 100000
set_option maxHeartbeats 4000000
/-! all statuses -/
namespace EL
open PySem L2
theorem s_ext {S : Sig} {n i : Nat} {env : List SV} {a : IE} {xs ys : List D} (h1 : env[i]? = some (.ow (.lst xs))) (h : ev S false a env = some (.lst ys)) (hl : xs.length + ys.length < 100000) : ex S n (.ext i a) env = some (.nx (env.set i (.ow (.lst (xs ++ ys))))) := by
  unfold ex
  rw [h1, h]
  show (if xs.length + ys.length < 100000 then _ else none) = _
  rw [if_pos hl]
end EL
namespace K
open PySem L2 EL
abbrev St4 := Int × Int × Int × Int
def tS (q : St4) : D := tStat q.1 q.2.1 q.2.2.1 q.2.2.2
def OkSt (ns : List Node) (es : List Edge) (q : St4) : Prop :=
  (q.1 = -1 ∧ q.2.2.1 = 0) ∨ ∃ nd, 0 ≤ q.1 ∧ atI ns q.1 = some nd ∧ q.2.1 ≤ capI ns es q.1 nd.2 ∧ 0 ≤ q.2.2.1
def newS (n a : Int) (len : Nat) : List St4 := (List.range (len + 1)).map (fun (i : Nat) => (n, a, (i : Int), (0 : Int))) ++ [(n, a, (len : Int), 1)]
theorem newS_len (n a : Int) (len : Nat) : (newS n a len).length = len + 2 := by
  unfold newS
  simp
def bodyAge : List IS := match b_law_statuses with | [_, .fr _ _ [_, .fr _ _ b], _] => b | _ => []
def bodySt : List IS := match b_law_statuses with | [_, .fr _ _ b, _] => b | _ => []
section
variable (k : Nat) (ns : List Node) (es : List Edge) (s : Bool)
def envS (l : List St4) (x2 x3 x4 x5 : SV) : List SV := [.sh (tTask ns es s), .ow (.lst (l.map tS)), x2, x3, x4, x5]
theorem turn_age (l : List St4) (n a : Int) (len : Nat) (x5 : SV) (hl : l.length ≤ 1000) (hlen : len ≤ 4) :
    exs (Sg k) 0 bodyAge (envS ns es s l (.sh (.int n)) (.sh (.int len)) (.sh (.int a)) x5) = some (.nx (envS ns es s (l ++ newS n a len) (.sh (.int n)) (.sh (.int len)) (.sh (.int a)) x5)) := by
  have e1 : ev (Sg k) false (.lc (.nm 5) (.rng1 (.bin .Add (.var 3) (.int 1))) [] (.tup [(.var 2), (.var 4), (.var 5), (.int 0)]) [("_law_done", 5)]) (envS ns es s l (.sh (.int n)) (.sh (.int len)) (.sh (.int a)) x5) = some (.lst ((List.range (len + 1)).map fun (i : Nat) => tStat n a i 0)) :=
    lc_map (l := List.range (len + 1)) (g := fun (i : Nat) => .int (i : Int)) (h := fun (i : Nat) => tStat n a i 0) (by
      have z := i_rng1 (S := Sg k) (br := true) (env := envS ns es s l (.sh (.int n)) (.sh (.int len)) (.sh (.int a)) x5) (a := .bin .Add (.var 3) (.int 1)) (n := (len : Int) + 1) (r_bin (r_var rfl) r_int add_i) (by omega)
      rw [z, show ((len : Int) + 1).toNat = len + 1 by omega]) (by rw [List.length_range]; omega) fun i _ => turn_all rfl (r_tup (r_cons (r_var rfl) (r_cons (r_var rfl) (r_cons (r_var rfl) (r_cons r_int r_nil)))) (by simp))
  refine x_cons (s_ext rfl e1 (by simp; omega)) (x_cons (s_app rfl (r_tup (r_cons (r_var rfl) (r_cons (r_var rfl) (r_cons (r_var rfl) (r_cons r_int r_nil)))) (by simp)) (by simp; omega)) ?_)
  have e : l.map tS ++ (List.range (len + 1)).map (fun (i : Nat) => tStat n a i 0) ++ [tStat n a len 1] = (l ++ newS n a len).map tS := by
    unfold newS
    simp [tS, Function.comp_def]
  show exs (Sg k) 0 [] [.sh (tTask ns es s), .ow (.lst (l.map tS ++ (List.range (len + 1)).map (fun (i : Nat) => tStat n a i 0) ++ [tStat n a len 1])), .sh (.int n), .sh (.int len), .sh (.int a), x5] = _
  rw [e]
  exact x_nil
theorem loop_age (l : List St4) (n : Nat) (nd : Node) (c : Nat) (x4 x5 : SV) (hl : l.length ≤ 500) (hlen : nd.1.length ≤ 4) (h : atI ns (n : Int) = some nd) (hc : ((c : Nat) : Int) = capI ns es n nd.2) (hc2 : c ≤ 8) (ok : ∀ q ∈ l, OkSt ns es q) :
    ∃ (l' : List St4) (y4 : SV), exFor (exs (Sg k) 0 bodyAge) (.nm 4) ((List.range (c + 1)).map fun (i : Nat) => D.int (i : Int)) (envS ns es s l (.sh (.int n)) (.sh (.int nd.1.length)) x4 x5) = some (.nx (envS ns es s l' (.sh (.int n)) (.sh (.int nd.1.length)) y4 x5)) ∧ l'.length ≤ l.length + 54 ∧ ∀ q ∈ l', OkSt ns es q := by
  have L := for_inv (body := exs (Sg k) 0 bodyAge) (t := .nm 4) (ds := (List.range (c + 1)).map fun (i : Nat) => D.int (i : Int))
    (fun j env => ∃ (l' : List St4) (y4 : SV), env = envS ns es s l' (.sh (.int n)) (.sh (.int nd.1.length)) y4 x5 ∧ l'.length ≤ l.length + 6 * j ∧ ∀ q ∈ l', OkSt ns es q) (j := 0) (env := envS ns es s l (.sh (.int n)) (.sh (.int nd.1.length)) x4 x5)
    ⟨l, x4, rfl, by omega, ok⟩ fun i d e hd he => by
      obtain ⟨l', y4, rfl, h1, h2⟩ := he
      obtain ⟨hi, rfl⟩ := walked hd
      rw [Nat.zero_add] at h1 ⊢
      refine ⟨_, _, rfl, turn_age k ns es s l' n i nd.1.length x5 (by omega) hlen, l' ++ newS n i nd.1.length, _, rfl, by rw [List.length_append, newS_len]; omega, fun q hq => ?_⟩
      rcases List.mem_append.mp hq with hq | hq
      · exact h2 q hq
      · refine .inr ⟨nd, ?_⟩
        unfold newS at hq
        rcases List.mem_append.mp hq with hq | hq
        · obtain ⟨t, _, rfl⟩ := List.mem_map.mp hq
          exact ⟨by show (0 : Int) ≤ (n : Int); omega, h, by show (i : Int) ≤ capI ns es n nd.2; omega, by show (0 : Int) ≤ (t : Int); omega⟩
        · rw [List.mem_singleton] at hq
          subst hq
          exact ⟨by show (0 : Int) ≤ (n : Int); omega, h, by show (i : Int) ≤ capI ns es n nd.2; omega, by show (0 : Int) ≤ (nd.1.length : Int); omega⟩
  obtain ⟨e', h1, l', y4, rfl, h2, h3⟩ := L
  refine ⟨l', y4, h1, ?_, h3⟩
  rw [List.length_map, List.length_range] at h2
  omega
theorem maxI_bd : ∀ (l : List Int) (m b : Int), m ≤ b → (∀ x ∈ l, x ≤ b) → m ≤ maxI m l ∧ maxI m l ≤ b
  | [], m, b, h, _ => ⟨Int.le_refl _, h⟩
  | x :: r, m, b, h, h2 => by
    have hx := h2 x List.mem_cons_self
    have z := maxI_bd r (if m < x then x else m) b (by split <;> omega) fun y hy => h2 y (List.mem_cons_of_mem _ hy)
    have e : maxI m (x :: r) = maxI (if m < x then x else m) r := rfl
    rw [e]
    refine ⟨?_, z.2⟩
    have z1 := z.1
    split at z1 <;> omega
theorem cap_bd (hn : NodesOk ns) (he : EdgesOk ns es) {n : Int} {nd : Node} (h : nd ∈ ns) : nd.2 ≤ capI ns es n nd.2 ∧ capI ns es n nd.2 ≤ 8 := by
  unfold capI
  refine maxI_bd _ _ _ (hn.due nd h).2 fun x hx => ?_
  obtain ⟨e, he1, rfl⟩ := List.mem_map.mp hx
  obtain ⟨_, _, _, g⟩ := he.gap e (List.mem_filter.mp he1).1
  exact g
theorem node_at {n : Nat} (h : n < ns.length) : ∃ nd, atI ns (n : Int) = some nd ∧ nd ∈ ns := ⟨ns[n], atI_nat (List.getElem?_eq_getElem h), List.getElem_mem h⟩
theorem m_statuses (hn : NodesOk ns) (he : EdgesOk ns es) : ∃ l : List St4, runF (Sg (k + 1)) 0 1 6 b_law_statuses [tTask ns es s] = some (.lst (l.map tS)) ∧ l.length ≤ 200 ∧ ∀ q ∈ l, OkSt ns es q := by
  have hl := hn.len
  have hle := he.len
  have L := for_inv (body := exs (Sg (k + 1)) 0 bodySt) (t := .nm 2) (ds := (List.range ns.length).map fun (i : Nat) => D.int (i : Int))
    (fun j env => ∃ (l : List St4) (x2 x3 x4 x5 : SV), env = envS ns es s l x2 x3 x4 x5 ∧ l.length ≤ 1 + 54 * j ∧ ∀ q ∈ l, OkSt ns es q) (j := 0) (env := envS ns es s [(-1, 0, 0, 0)] .un .un .un .un)
    ⟨_, _, _, _, _, rfl, by simp, fun q hq => by
      rw [List.mem_singleton] at hq
      subst hq
      exact .inl ⟨rfl, rfl⟩⟩ fun i d e hd hE => by
      obtain ⟨l, x2, x3, x4, x5, rfl, h1, h2⟩ := hE
      obtain ⟨hi, rfl⟩ := walked hd
      rw [Nat.zero_add] at h1 ⊢
      obtain ⟨nd, h3, h4⟩ := node_at ns hi
      have hb := cap_bd ns es hn he (n := i) h4
      have hd := hn.due nd h4
      have hp := hn.pl nd h4
      obtain ⟨c, hc⟩ : ∃ c : Nat, (c : Int) = capI ns es i nd.2 := ⟨(capI ns es i nd.2).toNat, by omega⟩
      obtain ⟨l', y4, h5, h6, h7⟩ := loop_age (k + 1) ns es s l i nd c x4 x5 (by omega) hp.2 h3 hc (by omega) h2
      refine ⟨envS ns es s l (.sh (.int i)) x3 x4 x5, envS ns es s l' (.sh (.int i)) (.sh (.int nd.1.length)) y4 x5, rfl, ?_, l', _, _, _, _, rfl, by omega, h7⟩
      have ea : ev (Sg (k + 1)) false (.bi .len [(.idx (.idx (.idx (.var 0) (.int 0)) (.var 2)) (.int 0))]) (envS ns es s l (.sh (.int i)) x3 x4 x5) = some (.int nd.1.length) := by
        have z := r_bi (S := Sg (k + 1)) (br := false) (o := .len) (env := envS ns es s l (.sh (.int i)) x3 x4 x5) (r_cons (r_idx (r_idx (r_idx (r_var (i := 0) rfl) r_int (tk_0 ns es s)) (r_var (i := 2) rfl) (at_ln ns h3)) r_int (nd_0 nd)) r_nil) len_t
        rw [z, len_plan]
      refine x_cons (s_asg ea (by simp [envS])) (x_cons (s_for (ds := (List.range (c + 1)).map fun (i : Nat) => D.int (i : Int)) ?_ (by rw [List.length_map, List.length_range]; omega) h5) x_nil)
      have z := i_rng1 (S := Sg (k + 1)) (br := false) (env := envS ns es s l (.sh (.int i)) (.sh (.int nd.1.length)) x4 x5) (a := .bin .Add (.call 5 [(.var 0), (.var 2)]) (.int 1)) (n := (c : Int) + 1) (r_bin (r_call rfl (r_cons (r_var rfl) (r_cons (r_var rfl) r_nil)) rfl (by rw [hc]; exact m_cap k ns es s i nd h3 (by omega))) r_int add_i) (by omega)
      rw [show ((c : Int) + 1).toNat = c + 1 by omega] at z
      exact z
  obtain ⟨e', h1, l, x2, x3, x4, x5, rfl, h2, h3⟩ := L
  rw [List.length_map, List.length_range, Nat.zero_add] at h2
  refine ⟨l, ?_, by omega, h3⟩
  have all : exs (Sg (k + 1)) 0 b_law_statuses [.sh (tTask ns es s), .un, .un, .un, .un, .un] = some (.rt (.lst (l.map tS))) := by
    refine x_cons (s_asO (d := .lst [tStat (-1) 0 0 0]) (r_lst (r_cons (r_tup (r_cons (r_neg r_int) (r_cons r_int (r_cons r_int (r_cons r_int r_nil)))) (by simp)) r_nil) (by simp)) (by simp)) (x_cons (s_for (ds := (List.range ns.length).map fun (i : Nat) => D.int (i : Int)) ?_ (by rw [List.length_map, List.length_range]; omega) h1) (x_ret (s_ret (r_var rfl))))
    have z := i_rng1 (S := Sg (k + 1)) (br := false) (env := [.sh (tTask ns es s), .ow (.lst [tStat (-1) 0 0 0]), .un, .un, .un, .un]) (a := .bi .len [(.idx (.var 0) (.int 0))]) (n := (ns.length : Int)) (by
      rw [← len_nodes ns]
      exact r_bi (r_cons (r_idx (r_var rfl) r_int (tk_0 ns es s)) r_nil) len_l) (by omega)
    rw [Int.toNat_natCast] at z
    exact z
  show (exs (Sg (k + 1)) 0 b_law_statuses [.sh (tTask ns es s), .un, .un, .un, .un, .un]).bind _ = _
  rw [all]
  rfl
end
end K

set_option Elab.async false
set_option linter.all false
set_option maxRecDepth 100000
set_option maxHeartbeats 4000000
/-! each status, and the law -/
namespace K
open PySem L2 EL
/-- what a steady task is -/
def Steady (ns : List Node) (es : List Edge) (s : Bool) (e : Edge) : Prop := s = true → es = [e] ∧ e.1 = 0 ∧ ns.length = 1 ∧ ∀ nd ∈ ns, nd.2 ≤ e.2.2
section
variable (k : Nat) (ns : List Node) (es : List Edge) (s : Bool)
theorem owes_same {e : Edge} (hs : Steady ns es s e) {q : St4} (ok : OkSt ns es q) : (s && (decide (q.1 < 0) || decide (q.2.1 = e.2.2))) = (s && (decide (q.1 < 0) || decide (e.2.2 ≤ q.2.1))) := by
  cases s with
  | false => rfl
  | true =>
    obtain ⟨rfl, h0, h1, h2⟩ := hs rfl
    rcases ok with ⟨h, _⟩ | ⟨nd, a1, a2, a3, _⟩
    · rw [h]
      rfl
    · obtain ⟨j, _, g1, _, _, g2⟩ := atI_get a2
      have hq : q.1 = 0 := by omega
      have hd : nd.2 ≤ e.2.2 := h2 nd (List.mem_of_getElem? g1)
      have hc : capI ns [e] q.1 nd.2 = e.2.2 := by
        unfold capI
        rw [hq]
        have hf : [e].filter (fun e => decide (e.1 = 0)) = [e] := by
          rw [List.filter_cons, decide_eq_true h0]
          rfl
        rw [hf]
        show (if nd.2 < e.2.2 then e.2.2 else nd.2) = e.2.2
        split <;> omega
      rw [hc] at a3
      have : decide (q.2.1 = e.2.2) = decide (e.2.2 ≤ q.2.1) := by
        rw [Bool.eq_iff_iff, decide_eq_true_eq, decide_eq_true_eq]
        omega
      rw [this]
theorem bls_ok (l : List Nat) (f : Nat → Bool) : okL (.lst (l.map fun i => .bl (f i))) 2 = true := by
  simp only [okL]
  rw [okLs_map fun x _ => by simp only [okL]]
  rfl
theorem held_ent : ∀ x ∈ ents, ∀ y ∈ ents, joinF x (fun a => inS a y) ∈ ents := by decide +kernel
theorem need_ok : ∀ x ∈ ents, ∀ y ∈ ents, PySem.PyData.strOk (joinF x (fun a => !inS a y)) = true := by decide +kernel
theorem heldV_mem {nd : Node} (hp : ∀ x ∈ nd.1, x ∈ ents) (n d o : Int) : heldV nd n d o ∈ ents := by
  unfold heldV
  split
  · exact List.mem_cons_self
  · exact held_ent _ (plan_mem hp _) _ (plan_mem hp _)
theorem needV_ok {nd : Node} (hp : ∀ x ∈ nd.1, x ∈ ents) (n d o : Int) : PySem.PyData.strOk (needV nd n d o) = true := by
  unfold needV
  split
  · exact ents_ok _ List.mem_cons_self
  · exact need_ok _ (plan_mem hp _) _ (heldV_mem hp n d o)
theorem m_right {e : Edge} (hn : NodesOk ns) (he : EdgesOk ns es) (hs : Steady ns es s e) {q : St4} (ok : OkSt ns es q) : runF (Sg (k + 3)) 0 3 7 b_law_right [tTask ns es s, tSelf ns es s, tS q] = some (.bl true) := by
  have hl := hn.len
  have hle := he.len
  obtain ⟨nd, hm, hat, hd0⟩ : ∃ nd, nd ∈ ns ∧ (0 ≤ q.1 → atI ns q.1 = some nd) ∧ 0 ≤ q.2.2.1 := by
    rcases ok with ⟨h1, h2⟩ | ⟨nd, a1, a2, a3, a4⟩
    · refine ⟨ns[0], List.getElem_mem (by omega), fun h => ?_, by omega⟩
      rw [h1] at h
      exact absurd h (by decide)
    · refine ⟨nd, ?_, fun _ => a2, a4⟩
      unfold atI at a2
      rw [Option.bind_eq_some_iff] at a2
      obtain ⟨j, _, h⟩ := a2
      exact List.mem_of_getElem? h
  have hp := hn.ent nd hm
  let E (x3 x4 : SV) : List SV := [.sh (tTask ns es s), .sh (tSelf ns es s), .sh (tS q), x3, x4, .un, .un]
  let rg : List D := (List.range ns.length).map fun (i : Nat) => D.int (i : Int)
  let vs : List D := (List.range ns.length).map fun (i : Nat) => D.bl (alwI ns es q.1 q.2.1 i)
  have a1 : ∀ br x4, ev (Sg (k + 3)) br (.lc (.nm 5) (.ex (.var 3)) [] (.meth 2 (.var 1) [(.var 2), (.var 5)]) [("_law_node", 5)]) (E (.sh (.lst rg)) x4) = some (.lst vs) := fun br x4 =>
    lc_map (l := List.range ns.length) (g := fun (i : Nat) => D.int (i : Int)) (h := fun (i : Nat) => D.bl (alwI ns es q.1 q.2.1 i)) (i_lst (r_var rfl)) (by rw [List.length_range]; omega) fun i _ => turn_all rfl (r_meth rfl (r_var rfl) rfl rfl (r_cons (r_var rfl) (r_cons (r_var rfl) r_nil)) rfl (m_alw (k + 2) ns es s _ _ _ _ _ (by omega)))
  have a2 : ∀ br x4, ev (Sg (k + 3)) br (.lc (.nm 5) (.ex (.var 3)) [] (.call 7 [(.var 0), (.var 2), (.var 5)]) [("_law_node", 5)]) (E (.sh (.lst rg)) x4) = some (.lst vs) := fun br x4 =>
    lc_map (l := List.range ns.length) (g := fun (i : Nat) => D.int (i : Int)) (h := fun (i : Nat) => D.bl (alwI ns es q.1 q.2.1 i)) (i_lst (r_var rfl)) (by rw [List.length_range]; omega) fun i _ => turn_all rfl (r_call rfl (r_cons (r_var rfl) (r_cons (r_var rfl) (r_cons (r_var rfl) r_nil))) rfl (m_lalw (k + 2) ns es s _ _ _ _ _ (by omega)))
  have b1 : ∀ br x3 x4, ev (Sg (k + 3)) br (.meth 1 (.var 1) [(.var 2)]) (E x3 x4) = some (.bl (unfI nd q.1 q.2.2.1 q.2.2.2)) := fun br x3 x4 => r_meth rfl (r_var rfl) rfl rfl (r_cons (r_var rfl) r_nil) rfl (m_unf (k + 2) ns es s _ _ _ _ nd hat)
  have b2 : ∀ br x3 x4, ev (Sg (k + 3)) br (.call 6 [(.var 0), (.var 2)]) (E x3 x4) = some (.bl (unfI nd q.1 q.2.2.1 q.2.2.2)) := fun br x3 x4 => r_call rfl (r_cons (r_var rfl) (r_cons (r_var rfl) r_nil)) rfl (m_open (k + 2) ns es s _ _ _ _ nd hat)
  have c1 : ∀ br x3 x4, ev (Sg (k + 3)) br (.meth 3 (.var 1) [(.var 2)]) (E x3 x4) = some (.bl (s && (decide (q.1 < 0) || decide (q.2.1 = e.2.2)))) := fun br x3 x4 => r_meth rfl (r_var rfl) rfl rfl (r_cons (r_var rfl) r_nil) rfl (m_owes (k + 2) ns es s _ _ _ _ e fun z => (hs z).1)
  have c2 : ∀ br x3 x4, ev (Sg (k + 3)) br (.call 8 [(.var 0), (.var 2)]) (E x3 x4) = some (.bl (s && (decide (q.1 < 0) || decide (q.2.1 = e.2.2)))) := fun br x3 x4 => by
    rw [owes_same ns es s hs ok]
    exact r_call rfl (r_cons (r_var rfl) (r_cons (r_var rfl) r_nil)) rfl (m_lowes (k + 2) ns es s _ _ _ _ e fun z => (hs z).1)
  have d1 : ∀ br x3 x4, ev (Sg (k + 3)) br (.meth 4 (.var 1) [(.var 2)]) (E x3 x4) = some (.str (heldV nd q.1 q.2.2.1 q.2.2.2)) := fun br x3 x4 => r_meth rfl (r_var rfl) rfl rfl (r_cons (r_var rfl) r_nil) rfl (m_held (k + 1) ns es s _ _ _ _ nd hat hp hd0)
  have d2 : ∀ br x3 x4, ev (Sg (k + 3)) br (.call 9 [(.var 0), (.var 2)]) (E x3 x4) = some (.str (heldV nd q.1 q.2.2.1 q.2.2.2)) := fun br x3 x4 => r_call rfl (r_cons (r_var rfl) (r_cons (r_var rfl) r_nil)) rfl (m_lheld (k + 1) ns es s _ _ _ _ nd hat hp hd0)
  have f1 : ∀ br x3 x4, ev (Sg (k + 3)) br (.meth 5 (.var 1) [(.var 2)]) (E x3 x4) = some (.str (needV nd q.1 q.2.2.1 q.2.2.2)) := fun br x3 x4 => r_meth rfl (r_var rfl) rfl rfl (r_cons (r_var rfl) r_nil) rfl (m_need k ns es s _ _ _ _ nd hat hp hd0)
  have f2 : ∀ br x3 x4, ev (Sg (k + 3)) br (.call 10 [(.var 0), (.var 2)]) (E x3 x4) = some (.str (needV nd q.1 q.2.2.1 q.2.2.2)) := fun br x3 x4 => r_call rfl (r_cons (r_var rfl) (r_cons (r_var rfl) r_nil)) rfl (m_lneed k ns es s _ _ _ _ nd hat hp hd0)
  have nb : ∀ b : Bool, cmpD .NotEq (.bl b) (.bl b) = some false := fun b => ne_self 1 (by simp only [okL]) (by decide)
  have nstr : ∀ z : Str, PySem.PyData.strOk z = true → cmpD .NotEq (.str z) (.str z) = some false := fun z h => ne_self 1 (by simpa only [okL] using h) (by decide)
  have s0 : ex (Sg (k + 3)) 0 (.asg 3 (.lrg (.bi .len [(.idx (.var 0) (.int 0))]))) (E .un .un) = some (.nx (E (.sh (.lst rg)) .un)) := by
    have z := r_lrg (S := Sg (k + 3)) (br := false) (env := E .un .un) (a := .bi .len [(.idx (.var 0) (.int 0))]) (j := (ns.length : Int)) (by
      rw [← len_nodes ns]
      exact r_bi (r_cons (r_idx (r_var rfl) r_int (tk_0 ns es s)) r_nil) len_l) (by omega)
    rw [Int.toNat_natCast] at z
    exact s_asg z (by simp [E])
  have s1 : ex (Sg (k + 3)) 0 (.asg 4 (.bin .Add (.lc (.nm 5) (.ex (.var 3)) [] (.meth 2 (.var 1) [(.var 2), (.var 5)]) [("_law_node", 5)]) (.lst [(.meth 1 (.var 1) [(.var 2)]), (.meth 3 (.var 1) [(.var 2)])]))) (E (.sh (.lst rg)) .un) = some (.nx (E (.sh (.lst rg)) (.sh (.lst (vs ++ [.bl (unfI nd q.1 q.2.2.1 q.2.2.2), .bl (s && (decide (q.1 < 0) || decide (q.2.1 = e.2.2)))]))))) := by
    refine s_asg (r_bin (a1 _ _) (r_lst (r_cons (b1 _ _ _) (r_cons (c1 _ _ _) r_nil)) (by simp)) ?_) (by simp [E])
    show (if _ then _ else none) = _
    rw [if_pos]
    show ((List.range ns.length).map fun (i : Nat) => D.bl (alwI ns es q.1 q.2.1 i)).length + 2 ≤ 100000
    rw [List.length_map, List.length_range]
    omega
  have hv : ∃ w : List Bool, vs ++ [.bl (unfI nd q.1 q.2.2.1 q.2.2.2), .bl (s && (decide (q.1 < 0) || decide (q.2.1 = e.2.2)))] = w.map .bl ∧ w.length ≤ 10 := by
    refine ⟨((List.range ns.length).map fun (i : Nat) => alwI ns es q.1 q.2.1 i) ++ [unfI nd q.1 q.2.2.1 q.2.2.2, s && (decide (q.1 < 0) || decide (q.2.1 = e.2.2))], ?_, ?_⟩
    · rw [List.map_append, List.map_map]
      rfl
    · rw [List.length_append, List.length_map, List.length_range]
      show ns.length + 2 ≤ 10
      omega
  obtain ⟨w, hw, hwl⟩ := hv
  rw [hw] at s1
  have r1 : ev (Sg (k + 3)) false (.bi .all [(.lc (.nm 6) (.ex (.var 4)) [] (.isi .isBool (.var 6)) [("_law_word", 6)])]) (E (.sh (.lst rg)) (.sh (.lst (w.map .bl)))) = some (.bl true) := by
    refine r_bi (r_cons (lc_map (l := w) (g := .bl) (h := fun _ => .bl true) (i_lst (r_var rfl)) (by omega) fun x _ => turn_all rfl (r_isi (r_var rfl) rfl)) r_nil) ?_
    rw [all_l, bls_map (fun _ => true)]
    simp
  have all : exs (Sg (k + 3)) 0 b_law_right (E .un .un) = some (.rt (.bl true)) := by
    refine x_cons s0 (x_cons (s_if (p := false) (t_cmp (a1 _ _) (a2 _ _) (ne_self 2 (bls_ok _ _) (by decide))) (fun z => by cases z) (fun _ => x_nil)) (x_cons (s_if (p := false) (t_or (p := false) (t_cmp (b1 _ _ _) (b2 _ _ _) (nb _)) fun _ => t_one (t_cmp (c1 _ _ _) (c2 _ _ _) (nb _))) (fun z => by cases z) (fun _ => x_nil)) (x_cons (s_if (p := false) (t_or (p := false) (t_cmp (d1 _ _ _) (d2 _ _ _) (nstr _ (ents_ok _ (heldV_mem hp _ _ _)))) fun _ => t_one (t_cmp (f1 _ _ _) (f2 _ _ _) (nstr _ (needV_ok hp _ _ _)))) (fun z => by cases z) (fun _ => x_nil)) (x_cons s1 (x_ret (s_ret r1))))))
  show (exs (Sg (k + 3)) 0 b_law_right (E .un .un)).bind _ = _
  rw [all]
  rfl
end
end K

set_option Elab.async false
set_option linter.all false
set_option maxRecDepth 100000
set_option maxHeartbeats 4000000
/-! the law -/
namespace EL
open PySem L2
theorem r_mkk {S : Sig} {br : Bool} {env : List SV} {k : Nat} {es : List IE} {z : IE} {m : MkE} {ds : List D} {dz : D} {fs : List (Str × D)} (h0 : S.mks[k]? = some m) (h1 : evs S false es env = some ds) (h2 : ev S false z env = some dz) (hl : (ds ++ [dz]).length = m.ar) (h3 : m.sem (ds ++ [dz]) = some (.obj m.cls fs)) :
    ev S br (.mkk k es z) env = some (.obj m.cls fs) := by
  unfold ev
  rw [h0]
  show (evs S false es env).bind _ = _
  rw [h1, Option.bind_some, h2, Option.bind_some, if_pos hl, h3]
  show (if m.cls = m.cls then _ else none) = _
  rw [if_pos rfl]
theorem shaped_str {s : Str} (h : PySem.PyData.strOk s = true) : SeqAt.shaped (.str s) = true := by
  unfold SeqAt.shaped
  simp only [PyData.canLay0, PyData.depth, h]
  rfl
end EL
namespace K
open PySem L2 EL
theorem steady_of (xs : List Int) : Steady ((List.range (cntF xs)).map (nodeF xs)) (edgesF xs (stF xs) (cntF xs) (cntF xs)) (stF xs) (0, 0, gapF xs 0 0) := fun h => by
  have hc : cntF xs = 1 := by
    unfold cntF
    rw [if_pos h]
  rw [hc, h]
  refine ⟨rfl, rfl, rfl, fun nd hnd => ?_⟩
  have e : nd = nodeF xs 0 := by simpa using hnd
  subst e
  exact (gap_bd xs 0 0).1
theorem emp_all : ∀ p : List Str, (p.map fun x => decide (x = ("" : Str))).all id = decide (p = List.replicate p.length ("" : Str))
  | [] => rfl
  | x :: p => by
    rw [List.map_cons, List.all_cons, emp_all p, List.length_cons, List.replicate_succ]
    by_cases h : x = ""
    · simp [h]
    · simp [h]
theorem ev_law (ns0 : List Int) (hl0 : ns0.length ≤ 63) : runF (Sg 5) 0 1 10 b_law [.lst (ns0.map .int)] = some (.bl true) := by
  obtain ⟨xs, hd, hx, hb⟩ := m_draws 3 ns0 hl0
  have hw := m_wide 3 hx hb
  have hn := nodes_ok (xs := xs)
  have he := edges_ok (xs := xs) (st := stF xs)
  have hso := edges_sorted xs (stF xs) (cntF xs) (cnt_bd xs).2
  have hs := steady_of xs
  generalize hns : (List.range (cntF xs)).map (nodeF xs) = ns at hw hn he hs
  generalize hes : edgesF xs (stF xs) (cntF xs) (cntF xs) = es at hw he hs hso
  generalize hst : stF xs = s at hw hs
  generalize hed : ((0, 0, gapF xs 0 0) : Edge) = e at hs
  have hl := hn.len
  have hle := he.len
  obtain ⟨nd, r, hnr⟩ : ∃ nd r, ns = nd :: r := by
    cases ns with
    | nil => simp at hl
    | cons a b => exact ⟨a, b, rfl⟩
  have hs1 : s = true → ns.length = 1 ∧ es.length = 1 := fun z => by
    obtain ⟨h1, _, h2, _⟩ := hs z
    rw [h1]
    exact ⟨h2, rfl⟩
  obtain ⟨l, hst1, hst2, hst3⟩ := m_statuses 3 ns es s hn he
  let E (x5 x6 : SV) : List SV := [.sh (.lst (ns0.map .int)), .sh (tTask ns es s), .sh (.lst (ns.map tNode)), .sh (.lst (es.map tEdge)), .sh (.bl s), x5, x6, .un, .un, .un]
  have h0 : ∀ nd ∈ ns, 0 ≤ nd.2 := fun nd h => by
    have := hn.due nd h
    omega
  have hsort : bsem .sorted [.lst (es.map tEdge)] = some (.lst (es.map tEdge)) := by
    show ((toTups (es.map tEdge)).bind fun ns => if decide (ns.length < 64) && evenL ns then some (D.lst ((sortL ns).map ofTup)) else none) = _
    rw [tE_of, toTups_map, Option.bind_some, even_e ns es he h0 hl.2, hso, if_pos]
    rw [decide_eq_true (by rw [List.length_map]; omega)]
    rfl
  have s0 : ex (Sg 5) 0 (.asg 1 (.call 12 [(.call 4 [(.var 0), (.int 0), (.int 24)])])) [.sh (.lst (ns0.map .int)), .un, .un, .un, .un, .un, .un, .un, .un, .un] = some (.nx [.sh (.lst (ns0.map .int)), .sh (tTask ns es s), .un, .un, .un, .un, .un, .un, .un, .un]) :=
    s_asg (r_call rfl (r_cons (r_call rfl (r_cons (r_var rfl) (r_cons r_int (r_cons r_int r_nil))) rfl hd) r_nil) rfl hw) (by simp)
  have s1 : ex (Sg 5) 0 (.unp (.tp [(.nm 2), (.nm 3), (.nm 4)]) (.var 1)) [.sh (.lst (ns0.map .int)), .sh (tTask ns es s), .un, .un, .un, .un, .un, .un, .un, .un] = some (.nx (E .un .un)) :=
    s_unp (r_var rfl) rfl
  have s2 : ex (Sg 5) 0 (.asg 5 (.mkk 0 [(.bi .list [(.var 2)]), (.bi .list [(.var 3)])] (.var 4))) (E .un .un) = some (.nx (E (.sh (tSelf ns es s)) .un)) :=
    s_asg (r_mkk (m := ⟨"Task", 0, 3, ["steady"], runI (Sg 4) 0 3 9 0 b_Task_init⟩) rfl (r_cons (r_bi (r_cons (r_var rfl) r_nil) lst_l) (r_cons (r_bi (r_cons (r_var rfl) r_nil) lst_l) r_nil)) (r_var rfl) rfl (m_init 2 ns es s hn he hso hs1)) (by simp [E])
  have okN : okL (.tup (ns.map tNode)) 3 = true := by
    simp only [okL]
    rw [ok_nodes hn.ent]
    rfl
  have okE : okL (.tup (es.map tEdge)) 3 = true := by
    simp only [okL]
    rw [ok_edges]
    rfl
  have t3 : evT (Sg 5) (.or (.cmp .NotEq (.fld (.var 5) 0) (.bi .tuple [(.var 2)])) (.or (.cmp .NotEq (.fld (.var 5) 1) (.bi .tuple [(.bi .sorted [(.var 3)])])) (.one (.cmp .NotEq (.fld (.var 5) 2) (.var 4))))) (E (.sh (tSelf ns es s)) .un) = some (false || (false || false)) :=
    t_or (t_cmp (r_fld (r_var rfl) (fls0 5) fl_n) (r_bi (r_cons (r_var rfl) r_nil) tup_l) (ne_self 3 okN (by decide))) fun _ => t_or (t_cmp (r_fld (r_var rfl) (fls1 5) fl_e) (r_bi (r_cons (r_bi (r_cons (r_var rfl) r_nil) hsort) r_nil) tup_l) (ne_self 3 okE (by decide))) fun _ => t_one (t_cmp (r_fld (r_var rfl) (fls2 5) fl_s) (r_var rfl) (ne_self 1 (by simp only [okL]) (by decide)))
  let cs : List D := (List.range ns.length).map fun (i : Nat) => D.int (capI ns es i (((ns[i]?).map (·.2)).getD 0))
  have hcs : ∀ i : Nat, i < ns.length → ∃ nd, atI ns (i : Int) = some nd ∧ capI ns es i nd.2 = capI ns es i (((ns[i]?).map (·.2)).getD 0) := fun i hi => by
    refine ⟨ns[i], atI_nat (List.getElem?_eq_getElem hi), ?_⟩
    rw [List.getElem?_eq_getElem hi]
    rfl
  have irng : ∀ x6, evI (Sg 5) true (.rng1 (.bi .len [(.var 2)])) (E (.sh (tSelf ns es s)) x6) = some ((List.range ns.length).map fun (i : Nat) => D.int (i : Int)) := fun x6 => by
    have z := i_rng1 (S := Sg 5) (br := true) (env := E (.sh (tSelf ns es s)) x6) (a := .bi .len [(.var 2)]) (n := (ns.length : Int)) (by
      rw [← len_nodes ns]
      exact r_bi (r_cons (r_var rfl) r_nil) len_l) (by omega)
    rw [Int.toNat_natCast] at z
    exact z
  have c1 : ev (Sg 5) true (.lc (.nm 9) (.rng1 (.bi .len [(.var 2)])) [] (.meth 0 (.var 5) [(.var 9)]) [("_law_k", 9)]) (E (.sh (tSelf ns es s)) .un) = some (.lst cs) :=
    lc_map (irng _) (by rw [List.length_range]; omega) fun i hi => by
      obtain ⟨nd', h1, h2⟩ := hcs i (List.mem_range.mp hi)
      rw [← h2]
      exact turn_all rfl (r_meth rfl (r_var rfl) rfl rfl (r_cons (r_var rfl) r_nil) rfl (m_tcap 4 ns es s i nd' h1 (by omega)))
  have c2 : ev (Sg 5) true (.lc (.nm 9) (.rng1 (.bi .len [(.var 2)])) [] (.call 5 [(.var 1), (.var 9)]) [("_law_k", 9)]) (E (.sh (tSelf ns es s)) .un) = some (.lst cs) :=
    lc_map (irng _) (by rw [List.length_range]; omega) fun i hi => by
      obtain ⟨nd', h1, h2⟩ := hcs i (List.mem_range.mp hi)
      rw [← h2]
      exact turn_all rfl (r_call rfl (r_cons (r_var rfl) (r_cons (r_var rfl) r_nil)) rfl (m_cap 4 ns es s i nd' h1 (by omega)))
  have okC : okL (.lst cs) 2 = true := by
    simp only [okL]
    rw [okLs_map fun x _ => by simp only [okL]]
    rfl
  have t4 : evT (Sg 5) (.or (.cmp .NotEq (.con 0) (.tup [(.neg (.int 1)), (.int 0), (.int 0), (.int 0)])) (.one (.cmp .NotEq (.lc (.nm 9) (.rng1 (.bi .len [(.var 2)])) [] (.meth 0 (.var 5) [(.var 9)]) [("_law_k", 9)]) (.lc (.nm 9) (.rng1 (.bi .len [(.var 2)])) [] (.call 5 [(.var 1), (.var 9)]) [("_law_k", 9)])))) (E (.sh (tSelf ns es s)) .un) = some (false || false) :=
    t_or (t_cmp (r_con (x := "NONE") (d := .tup [.int (-1), .int 0, .int 0, .int 0]) rfl) (r_tup (r_cons (r_neg r_int) (r_cons r_int (r_cons r_int (r_cons r_int r_nil)))) (by simp)) (ne_self 2 (by simp only [okL, okLs]; rfl) (by decide))) fun _ => t_one (t_cmp c1 c2 (ne_self 2 okC (by decide)))
  have hmem : nd ∈ ns := by rw [hnr]; exact List.mem_cons_self
  have hent := hn.ent nd hmem
  have s5 : ex (Sg 5) 0 (.asg 6 (.bi .all [(.lc (.nm 7) (.ex (.idx (.idx (.var 2) (.int 0)) (.int 0))) [] (.cmp .Eq (.var 7) (.str "")) [("_law_entry_here", 7)])])) (E (.sh (tSelf ns es s)) .un) = some (.nx (E (.sh (tSelf ns es s)) (.sh (.bl (decide (nd.1 = List.replicate nd.1.length ("" : Str))))))) := by
    have hp := hn.pl nd hmem
    refine s_asg (r_bi (r_cons (lc_map (l := nd.1) (g := .str) (h := fun x => .bl (decide (x = ("" : Str)))) (i_tup (r_idx (r_idx (r_var rfl) r_int (z := tNode nd) (by rw [hnr]; exact at_ln0 nd r)) r_int (nd_0 nd))) (by omega) fun x hx => turn_all rfl (r_cmp (r_var rfl) r_str (eq_s (shaped_str (ents_ok x (hent x hx))) (shaped_str (ents_ok _ List.mem_cons_self))))) r_nil) ?_) (by simp [E])
    rw [all_l, bls_map]
    show some (D.bl _) = _
    rw [emp_all]
  have t6 : evT (Sg 5) (.cmp .NotEq (.prp (.var 5) 0) (.and (.var 4) (.and (.var 6) (.one (.cmp .Eq (.idx (.idx (.var 2) (.int 0)) (.int 1)) (.idx (.idx (.var 3) (.int 0)) (.int 2))))))) (E (.sh (tSelf ns es s)) (.sh (.bl (decide (nd.1 = List.replicate nd.1.length ("" : Str)))))) = some false := by
    have p1 : ev (Sg 5) true (.prp (.var 5) 0) (E (.sh (tSelf ns es s)) (.sh (.bl (decide (nd.1 = List.replicate nd.1.length ("" : Str)))))) = some (.bl (servI nd es s e)) := by
      have z := m_server 4 es s nd r e (by rw [← hnr]; exact hn) (fun z => (hs z).1)
      rw [← hnr] at z
      exact r_prp (r_var rfl) rfl rfl rfl rfl z
    refine t_cmp p1 (y := .bl (servI nd es s e)) (r_and (r_var rfl) fun z => ?_) (ne_self 1 (by simp only [okL]) (by decide))
    have ee := (hs z).1
    refine r_and (r_var rfl) fun _ => r_one (r_cmp (r_idx (r_idx (r_var rfl) r_int (z := tNode nd) (by rw [hnr]; exact at_ln0 nd r)) r_int (nd_1 nd)) (r_idx (r_idx (r_var rfl) r_int (z := tEdge e) (by rw [ee]; exact e0_l e)) r_int ed_2) eq_i)
  have q2 : runF (Sg 4) 0 1 6 b_law_statuses [tTask ns es s] = some (.lst (l.map tS)) := hst1
  have hcall : ∀ x6, ev (Sg 5) true (.call 13 [(.var 1)]) (E (.sh (tSelf ns es s)) x6) = some (.lst (l.map tS)) := fun x6 => by
    refine r_call (f := ⟨"_law_statuses", 1, runF (Sg 4) 0 1 6 b_law_statuses⟩) (ds := [tTask ns es s]) (by rfl) (r_cons (r_var rfl) r_nil) (by rfl) ?_
    dsimp only
    exact q2
  have r7 : ev (Sg 5) false (.bi .all [(.lc (.nm 8) (.ex (.call 13 [(.var 1)])) [] (.call 14 [(.var 1), (.var 5), (.var 8)]) [("_law_status", 8)])]) (E (.sh (tSelf ns es s)) (.sh (.bl (decide (nd.1 = List.replicate nd.1.length ("" : Str)))))) = some (.bl true) := by
    refine r_bi (r_cons (lc_map (l := l) (g := tS) (h := fun _ => .bl true) (i_lst (hcall _)) (by omega) fun q hq => turn_all rfl (r_call (f := ⟨"_law_right", 3, runF (Sg 4) 0 3 7 b_law_right⟩) (ds := [tTask ns es s, tSelf ns es s, tS q]) rfl (r_cons (r_var rfl) (r_cons (r_var rfl) (r_cons (r_var rfl) r_nil))) rfl (by dsimp only; exact m_right 1 ns es s hn he hs (hst3 q hq)))) r_nil) ?_
    rw [all_l, bls_map (fun _ => true)]
    simp
  have all : exs (Sg 5) 0 b_law [.sh (.lst (ns0.map .int)), .un, .un, .un, .un, .un, .un, .un, .un, .un] = some (.rt (.bl true)) :=
    x_cons s0 (x_cons s1 (x_cons s2 (x_cons (s_if t3 (fun z => by cases z) (fun _ => x_nil)) (x_cons (s_if t4 (fun z => by cases z) (fun _ => x_nil)) (x_cons s5 (x_cons (s_if t6 (fun z => by cases z) (fun _ => x_nil)) (x_ret (s_ret r7))))))))
  show (exs (Sg 5) 0 b_law [.sh (.lst (ns0.map .int)), .un, .un, .un, .un, .un, .un, .un, .un, .un]).bind _ = _
  rw [all]
  rfl
end K

set_option Elab.async false
set_option linter.all false
set_option maxRecDepth 100000
set_option maxHeartbeats 4000000
namespace K
open PySem L2 EL
theorem ints_list {G : Gl0} {F : Hp} : ∀ ns : List Int, RepL G F (ns.map V.int) (ns.map D.int)
  | [] => .nil
  | n :: ns => .cons (.int n) (ints_list ns)
theorem law_true (ns : List Int) (hl : ns.length ≤ 63) : runF (Sg 5) 0 1 N_law.length b_law [.lst (ns.map .int)] = some (.bl true) := ev_law ns hl
def spLaw (K : PySem.W.Frag) : Sp := fun vs H Q _ => ∃ (a : Addr) (ns : List Int), vs = [.ref a] ∧ SqL K H a (ns.map V.int) ∧ ns.length ≤ 63 ∧ ∀ H', Q (.bl true) H'
theorem all_mk {l : PySem.W.OpenLaw} {w : World} {K : PySem.W.Frag} {h : Heap} {mg : Str → Option Value} {fa C0 f1 f2 f3 f4 f5 f6 f7 f8 f9 f10 f11 f12 f13 f14 f15 f16 f17 f18 f19 f20 f21 f22 f23 p24 f24 f25 T0 T1 : Addr} (X : K.In h) (Gn : h.Ns mainGlobals mg) (hfa : mg "law" = some (.ref fa))
    {od1 an1 od2 an2 od3 an3 od4 an4 od5 an5 od6 an6 od7 an7 od8 an8 od9 an9 od10 an10 od11 an11 od12 an12 od13 an13 od14 an14 od15 an15 od16 an16 od17 an17 od18 an18 od19 an19 od20 an20 od21 an21 od22 an22 od23 an23 od24 an24 od25 an25 od_0 od_1 : Option Addr} {sl1 sl2 sl3 sl4 sl5 sl6 sl7 sl8 sl9 sl10 sl11 sl12 sl13 sl14 sl15 sl16 sl17 sl18 sl19 sl20 sl21 sl22 sl23 sl24 sl25 sl_0 sl_1 : Array (Option Value)} {oc1 kV1 dc1 pm1 cd1 ct1 oc2 kV2 dc2 pm2 cd2 ct2 oc3 kV3 dc3 pm3 cd3 ct3 oc4 kV4 dc4 pm4 cd4 ct4 oc5 kV5 dc5 pm5 cd5 ct5 oc6 kV6 dc6 pm6 cd6 ct6 oc7 kV7 dc7 pm7 cd7 ct7 oc8 kV8 dc8 pm8 cd8 ct8 oc9 kV9 dc9 pm9 cd9 ct9 oc10 kV10 dc10 pm10 cd10 ct10 oc11 kV11 dc11 pm11 cd11 ct11 oc12 kV12 dc12 pm12 cd12 ct12 oc13 kV13 dc13 pm13 cd13 ct13 oc14 kV14 dc14 pm14 cd14 ct14 oc15 kV15 dc15 pm15 cd15 ct15 oc16 kV16 dc16 pm16 cd16 ct16 oc17 kV17 dc17 pm17 cd17 ct17 oc18 kV18 dc18 pm18 cd18 ct18 oc19 kV19 dc19 pm19 cd19 ct19 oc20 kV20 dc20 pm20 cd20 ct20 oc21 kV21 dc21 pm21 cd21 ct21 oc22 kV22 dc22 pm22 cd22 ct22 oc23 kV23 dc23 pm23 cd23 ct23 oc24 kV24 dc24 pm24 cd24 ct24 oc25 kV25 dc25 pm25 cd25 ct25 : Value}
    {t0_0 t0_1 t0_2 t0_3 t1_0 t1_1 t1_2 t2_0 t3_0 t4_0 : Tok}
    {n_0 n_1 : Nat}
    {rs24 : List Value}
    (aC0 : PySem.W.nsIn K mainGlobals "Task" = some (some (.ref C0)))
    (a1 : PySem.W.nsIn K mainGlobals "are_nodes" = some (some (.ref f1)))
    (l1 : K.lookup f1 = some ⟨oc1, od1, .func (PySem.W.fnOf "are_nodes" "are_nodes" (defArgs s_are_nodes) (defBody s_are_nodes) (defScope s_are_nodes) .none kV1 dc1 pm1 an1 cd1 ct1), sl1⟩)
    (c1 : PySem.W.codeIn K cd1 "are_nodes" = true)
    (k1 : PySem.W.keepIn K (.ref f1) = true)
    (a2 : PySem.W.nsIn K mainGlobals "is_entry" = some (some (.ref f2)))
    (l2 : K.lookup f2 = some ⟨oc2, od2, .func (PySem.W.fnOf "is_entry" "is_entry" (defArgs s_is_entry) (defBody s_is_entry) (defScope s_is_entry) .none kV2 dc2 pm2 an2 cd2 ct2), sl2⟩)
    (c2 : PySem.W.codeIn K cd2 "is_entry" = true)
    (k2 : PySem.W.keepIn K (.ref f2) = true)
    (a3 : PySem.W.nsIn K mainGlobals "are_edges" = some (some (.ref f3)))
    (l3 : K.lookup f3 = some ⟨oc3, od3, .func (PySem.W.fnOf "are_edges" "are_edges" (defArgs s_are_edges) (defBody s_are_edges) (defScope s_are_edges) .none kV3 dc3 pm3 an3 cd3 ct3), sl3⟩)
    (c3 : PySem.W.codeIn K cd3 "are_edges" = true)
    (k3 : PySem.W.keepIn K (.ref f3) = true)
    (a4 : PySem.W.nsIn K mainGlobals "_law_cell" = some (some (.ref f4)))
    (l4 : K.lookup f4 = some ⟨oc4, od4, .func (PySem.W.fnOf "_law_cell" "_law_cell" (defArgs s_law_cell) (defBody s_law_cell) (defScope s_law_cell) .none kV4 dc4 pm4 an4 cd4 ct4), sl4⟩)
    (c4 : PySem.W.codeIn K cd4 "_law_cell" = true)
    (k4 : PySem.W.keepIn K (.ref f4) = true)
    (a5 : PySem.W.nsIn K mainGlobals "_law_draws" = some (some (.ref f5)))
    (l5 : K.lookup f5 = some ⟨oc5, od5, .func (PySem.W.fnOf "_law_draws" "_law_draws" (defArgs s_law_draws) (defBody s_law_draws) (defScope s_law_draws) .none kV5 dc5 pm5 an5 cd5 ct5), sl5⟩)
    (c5 : PySem.W.codeIn K cd5 "_law_draws" = true)
    (k5 : PySem.W.keepIn K (.ref f5) = true)
    (a6 : PySem.W.nsIn K mainGlobals "_law_cap" = some (some (.ref f6)))
    (l6 : K.lookup f6 = some ⟨oc6, od6, .func (PySem.W.fnOf "_law_cap" "_law_cap" (defArgs s_law_cap) (defBody s_law_cap) (defScope s_law_cap) .none kV6 dc6 pm6 an6 cd6 ct6), sl6⟩)
    (c6 : PySem.W.codeIn K cd6 "_law_cap" = true)
    (k6 : PySem.W.keepIn K (.ref f6) = true)
    (a7 : PySem.W.nsIn K mainGlobals "_law_open" = some (some (.ref f7)))
    (l7 : K.lookup f7 = some ⟨oc7, od7, .func (PySem.W.fnOf "_law_open" "_law_open" (defArgs s_law_open) (defBody s_law_open) (defScope s_law_open) .none kV7 dc7 pm7 an7 cd7 ct7), sl7⟩)
    (c7 : PySem.W.codeIn K cd7 "_law_open" = true)
    (k7 : PySem.W.keepIn K (.ref f7) = true)
    (a8 : PySem.W.nsIn K mainGlobals "_law_allows" = some (some (.ref f8)))
    (l8 : K.lookup f8 = some ⟨oc8, od8, .func (PySem.W.fnOf "_law_allows" "_law_allows" (defArgs s_law_allows) (defBody s_law_allows) (defScope s_law_allows) .none kV8 dc8 pm8 an8 cd8 ct8), sl8⟩)
    (c8 : PySem.W.codeIn K cd8 "_law_allows" = true)
    (k8 : PySem.W.keepIn K (.ref f8) = true)
    (a9 : PySem.W.nsIn K mainGlobals "_law_owes" = some (some (.ref f9)))
    (l9 : K.lookup f9 = some ⟨oc9, od9, .func (PySem.W.fnOf "_law_owes" "_law_owes" (defArgs s_law_owes) (defBody s_law_owes) (defScope s_law_owes) .none kV9 dc9 pm9 an9 cd9 ct9), sl9⟩)
    (c9 : PySem.W.codeIn K cd9 "_law_owes" = true)
    (k9 : PySem.W.keepIn K (.ref f9) = true)
    (a10 : PySem.W.nsIn K mainGlobals "_law_held" = some (some (.ref f10)))
    (l10 : K.lookup f10 = some ⟨oc10, od10, .func (PySem.W.fnOf "_law_held" "_law_held" (defArgs s_law_held) (defBody s_law_held) (defScope s_law_held) .none kV10 dc10 pm10 an10 cd10 ct10), sl10⟩)
    (c10 : PySem.W.codeIn K cd10 "_law_held" = true)
    (k10 : PySem.W.keepIn K (.ref f10) = true)
    (a11 : PySem.W.nsIn K mainGlobals "_law_needed" = some (some (.ref f11)))
    (l11 : K.lookup f11 = some ⟨oc11, od11, .func (PySem.W.fnOf "_law_needed" "_law_needed" (defArgs s_law_needed) (defBody s_law_needed) (defScope s_law_needed) .none kV11 dc11 pm11 an11 cd11 ct11), sl11⟩)
    (c11 : PySem.W.codeIn K cd11 "_law_needed" = true)
    (k11 : PySem.W.keepIn K (.ref f11) = true)
    (a12 : PySem.W.nsIn K mainGlobals "_law_entry" = some (some (.ref f12)))
    (l12 : K.lookup f12 = some ⟨oc12, od12, .func (PySem.W.fnOf "_law_entry" "_law_entry" (defArgs s_law_entry) (defBody s_law_entry) (defScope s_law_entry) .none kV12 dc12 pm12 an12 cd12 ct12), sl12⟩)
    (c12 : PySem.W.codeIn K cd12 "_law_entry" = true)
    (k12 : PySem.W.keepIn K (.ref f12) = true)
    (a13 : PySem.W.nsIn K mainGlobals "_law_wide_task" = some (some (.ref f13)))
    (l13 : K.lookup f13 = some ⟨oc13, od13, .func (PySem.W.fnOf "_law_wide_task" "_law_wide_task" (defArgs s_law_wide_task) (defBody s_law_wide_task) (defScope s_law_wide_task) .none kV13 dc13 pm13 an13 cd13 ct13), sl13⟩)
    (c13 : PySem.W.codeIn K cd13 "_law_wide_task" = true)
    (k13 : PySem.W.keepIn K (.ref f13) = true)
    (a14 : PySem.W.nsIn K mainGlobals "_law_statuses" = some (some (.ref f14)))
    (l14 : K.lookup f14 = some ⟨oc14, od14, .func (PySem.W.fnOf "_law_statuses" "_law_statuses" (defArgs s_law_statuses) (defBody s_law_statuses) (defScope s_law_statuses) .none kV14 dc14 pm14 an14 cd14 ct14), sl14⟩)
    (c14 : PySem.W.codeIn K cd14 "_law_statuses" = true)
    (k14 : PySem.W.keepIn K (.ref f14) = true)
    (a15 : PySem.W.nsIn K mainGlobals "_law_right" = some (some (.ref f15)))
    (l15 : K.lookup f15 = some ⟨oc15, od15, .func (PySem.W.fnOf "_law_right" "_law_right" (defArgs s_law_right) (defBody s_law_right) (defScope s_law_right) .none kV15 dc15 pm15 an15 cd15 ct15), sl15⟩)
    (c15 : PySem.W.codeIn K cd15 "_law_right" = true)
    (k15 : PySem.W.keepIn K (.ref f15) = true)
    (a16 : PySem.W.nsIn K mainGlobals "law" = some (some (.ref f16)))
    (l16 : K.lookup f16 = some ⟨oc16, od16, .func (PySem.W.fnOf "law" "law" (defArgs s_law) (defBody s_law) (defScope s_law) .none kV16 dc16 pm16 an16 cd16 ct16), sl16⟩)
    (c16 : PySem.W.codeIn K cd16 "law" = true)
    (k16 : PySem.W.keepIn K (.ref f16) = true)
    (a17 : PySem.W.findIn K (.ref C0) "cap" = some (some (.ref f17)))
    (i17 : PySem.W.isFn K (.ref f17) = true)
    (l17 : K.lookup f17 = some ⟨oc17, od17, .func (PySem.W.fnOf "cap" "Task.cap" (defArgs s_Task_cap) (defBody s_Task_cap) (defScope s_Task_cap) .none kV17 dc17 pm17 an17 cd17 ct17), sl17⟩)
    (c17 : PySem.W.codeIn K cd17 "Task.cap" = true)
    (k17 : PySem.W.keepIn K (.ref f17) = true)
    (a18 : PySem.W.findIn K (.ref C0) "unfinished" = some (some (.ref f18)))
    (i18 : PySem.W.isFn K (.ref f18) = true)
    (l18 : K.lookup f18 = some ⟨oc18, od18, .func (PySem.W.fnOf "unfinished" "Task.unfinished" (defArgs s_Task_unfinished) (defBody s_Task_unfinished) (defScope s_Task_unfinished) .none kV18 dc18 pm18 an18 cd18 ct18), sl18⟩)
    (c18 : PySem.W.codeIn K cd18 "Task.unfinished" = true)
    (k18 : PySem.W.keepIn K (.ref f18) = true)
    (a19 : PySem.W.findIn K (.ref C0) "allows" = some (some (.ref f19)))
    (i19 : PySem.W.isFn K (.ref f19) = true)
    (l19 : K.lookup f19 = some ⟨oc19, od19, .func (PySem.W.fnOf "allows" "Task.allows" (defArgs s_Task_allows) (defBody s_Task_allows) (defScope s_Task_allows) .none kV19 dc19 pm19 an19 cd19 ct19), sl19⟩)
    (c19 : PySem.W.codeIn K cd19 "Task.allows" = true)
    (k19 : PySem.W.keepIn K (.ref f19) = true)
    (a20 : PySem.W.findIn K (.ref C0) "owes" = some (some (.ref f20)))
    (i20 : PySem.W.isFn K (.ref f20) = true)
    (l20 : K.lookup f20 = some ⟨oc20, od20, .func (PySem.W.fnOf "owes" "Task.owes" (defArgs s_Task_owes) (defBody s_Task_owes) (defScope s_Task_owes) .none kV20 dc20 pm20 an20 cd20 ct20), sl20⟩)
    (c20 : PySem.W.codeIn K cd20 "Task.owes" = true)
    (k20 : PySem.W.keepIn K (.ref f20) = true)
    (a21 : PySem.W.findIn K (.ref C0) "held" = some (some (.ref f21)))
    (i21 : PySem.W.isFn K (.ref f21) = true)
    (l21 : K.lookup f21 = some ⟨oc21, od21, .func (PySem.W.fnOf "held" "Task.held" (defArgs s_Task_held) (defBody s_Task_held) (defScope s_Task_held) .none kV21 dc21 pm21 an21 cd21 ct21), sl21⟩)
    (c21 : PySem.W.codeIn K cd21 "Task.held" = true)
    (k21 : PySem.W.keepIn K (.ref f21) = true)
    (a22 : PySem.W.findIn K (.ref C0) "needed" = some (some (.ref f22)))
    (i22 : PySem.W.isFn K (.ref f22) = true)
    (l22 : K.lookup f22 = some ⟨oc22, od22, .func (PySem.W.fnOf "needed" "Task.needed" (defArgs s_Task_needed) (defBody s_Task_needed) (defScope s_Task_needed) .none kV22 dc22 pm22 an22 cd22 ct22), sl22⟩)
    (c22 : PySem.W.codeIn K cd22 "Task.needed" = true)
    (k22 : PySem.W.keepIn K (.ref f22) = true)
    (a23 : PySem.W.findIn K (.ref C0) "come" = some (some (.ref f23)))
    (i23 : PySem.W.isFn K (.ref f23) = true)
    (l23 : K.lookup f23 = some ⟨oc23, od23, .func (PySem.W.fnOf "come" "Task.come" (defArgs s_Task_come) (defBody s_Task_come) (defScope s_Task_come) .none kV23 dc23 pm23 an23 cd23 ct23), sl23⟩)
    (c23 : PySem.W.codeIn K cd23 "Task.come" = true)
    (k23 : PySem.W.keepIn K (.ref f23) = true)
    (a24 : PySem.W.findIn K (.ref C0) "server" = some (some (.ref p24)))
    (g24 : PySem.W.specialIn K (.ref p24) "__get__" = some (some (.builtin "property.__get__")))
    (t24 : PySem.W.takesIn K (.ref p24) = some true)
    (r24 : PySem.W.recIn K p24 "property" = some (.ref f24 :: rs24))
    (l24 : K.lookup f24 = some ⟨oc24, od24, .func (PySem.W.fnOf "server" "Task.server" (defArgs s_Task_server) (defBody s_Task_server) (defScope s_Task_server) .none kV24 dc24 pm24 an24 cd24 ct24), sl24⟩)
    (c24 : PySem.W.codeIn K cd24 "Task.server" = true)
    (k24 : PySem.W.keepIn K (.ref f24) = true)
    (a25 : PySem.W.findIn K (.ref C0) "__init__" = some (some (.ref f25)))
    (i25 : PySem.W.isFn K (.ref f25) = true)
    (l25 : K.lookup f25 = some ⟨oc25, od25, .func (PySem.W.fnOf "__init__" "Task.__init__" (defArgs s_Task_init) (defBody s_Task_init) (defScope s_Task_init) .none kV25 dc25 pm25 an25 cd25 ct25), sl25⟩)
    (c25 : PySem.W.codeIn K cd25 "Task.__init__" = true)
    (k25 : PySem.W.keepIn K (.ref f25) = true)
    (pg0 : PySem.W.plainGet K C0 Str.empty = true)
    (hd0 : PySem.W.hasDictIn K C0 = true)
    (po0 : PySem.W.plainOver K C0 = true)
    (sa0 : PySem.W.findIn K (.ref C0) "__setattr__" = some (some (.builtin "object.__setattr__")))
    (mk0 : PySem.W.makesIn K C0 = true)
    (kc0 : PySem.W.keepIn K (.ref C0) = true)
    (n0 : PySem.W.findIn K (.ref C0) "nodes" = some none)
    (n1 : PySem.W.findIn K (.ref C0) "edges" = some none)
    (n2 : PySem.W.findIn K (.ref C0) "steady" = some none)
    (z0 : PySem.W.nsIn K mainGlobals "abs" = some none)
    (z1 : PySem.W.nsIn K mainGlobals "all" = some none)
    (z2 : PySem.W.nsIn K mainGlobals "any" = some none)
    (z3 : PySem.W.nsIn K mainGlobals "bool" = some none)
    (z4 : PySem.W.nsIn K mainGlobals "int" = some none)
    (z5 : PySem.W.nsIn K mainGlobals "isinstance" = some none)
    (z6 : PySem.W.nsIn K mainGlobals "len" = some none)
    (z7 : PySem.W.nsIn K mainGlobals "list" = some none)
    (z8 : PySem.W.nsIn K mainGlobals "max" = some none)
    (z9 : PySem.W.nsIn K mainGlobals "min" = some none)
    (z10 : PySem.W.nsIn K mainGlobals "range" = some none)
    (z11 : PySem.W.nsIn K mainGlobals "sorted" = some none)
    (z12 : PySem.W.nsIn K mainGlobals "tuple" = some none)
    (x0 : PySem.W.nsIn K mainGlobals "NONE" = some (some (.ref T0)))
    (y0 : K.lookup T0 = some ⟨.type "tuple", od_0, .seq #[.int (-1) t0_0, .int 0 t0_1, .int 0 t0_2, .int 0 t0_3] n_0, sl_0⟩)
    (x1 : PySem.W.nsIn K mainGlobals "LOCKS" = some (some (.ref T1)))
    (y1 : K.lookup T1 = some ⟨.type "tuple", od_1, .seq #[.str "a" t1_0, .str "b" t1_1, .str "c" t1_2] n_1, sl_1⟩)
    (x2 : PySem.W.nsIn K mainGlobals "MAX_NODES" = some (some (.int 2 t2_0)))
    (x3 : PySem.W.nsIn K mainGlobals "MAX_PLAN" = some (some (.int 4 t3_0)))
    (x4 : PySem.W.nsIn K mainGlobals "MAX_TICKS" = some (some (.int 8 t4_0)))
    : ∃ fd : FuncData, (∀ (s : Shared) (v : Value), BindsTo s fd ⟨[v], []⟩ [("_law_script", v)]) ∧ ∀ base : Heap, K.In base → base.Ns mainGlobals mg → FnOk l.prog w K mg base CX0 12 fa fd ["_law_script"] (spLaw K) := by
  have e := hfa.symm.trans (PySem.W.mg_of X Gn a16)
  cases e
  have F1 := fun_mk (st := s_are_nodes) l1 c1 k1
  have b1 := F1.binds (ps := ["nodes"]) fun _ _ _ _ _ _ us hl => match us, hl with | [_], _ => rfl
  have F2 := fun_mk (st := s_is_entry) l2 c2 k2
  have b2 := F2.binds (ps := ["entry"]) fun _ _ _ _ _ _ us hl => match us, hl with | [_], _ => rfl
  have F3 := fun_mk (st := s_are_edges) l3 c3 k3
  have b3 := F3.binds (ps := ["nodes", "edges"]) fun _ _ _ _ _ _ us hl => match us, hl with | [_, _], _ => rfl
  have F4 := fun_mk (st := s_law_cell) l4 c4 k4
  have b4 := F4.binds (ps := ["_law_script", "_law_at"]) fun _ _ _ _ _ _ us hl => match us, hl with | [_, _], _ => rfl
  have F5 := fun_mk (st := s_law_draws) l5 c5 k5
  have b5 := F5.binds (ps := ["_law_script", "_law_at", "_law_count"]) fun _ _ _ _ _ _ us hl => match us, hl with | [_, _, _], _ => rfl
  have F6 := fun_mk (st := s_law_cap) l6 c6 k6
  have b6 := F6.binds (ps := ["_law_task", "_law_node"]) fun _ _ _ _ _ _ us hl => match us, hl with | [_, _], _ => rfl
  have F7 := fun_mk (st := s_law_open) l7 c7 k7
  have b7 := F7.binds (ps := ["_law_task", "_law_status"]) fun _ _ _ _ _ _ us hl => match us, hl with | [_, _], _ => rfl
  have F8 := fun_mk (st := s_law_allows) l8 c8 k8
  have b8 := F8.binds (ps := ["_law_task", "_law_status", "_law_node"]) fun _ _ _ _ _ _ us hl => match us, hl with | [_, _, _], _ => rfl
  have F9 := fun_mk (st := s_law_owes) l9 c9 k9
  have b9 := F9.binds (ps := ["_law_task", "_law_status"]) fun _ _ _ _ _ _ us hl => match us, hl with | [_, _], _ => rfl
  have F10 := fun_mk (st := s_law_held) l10 c10 k10
  have b10 := F10.binds (ps := ["_law_task", "_law_status"]) fun _ _ _ _ _ _ us hl => match us, hl with | [_, _], _ => rfl
  have F11 := fun_mk (st := s_law_needed) l11 c11 k11
  have b11 := F11.binds (ps := ["_law_task", "_law_status"]) fun _ _ _ _ _ _ us hl => match us, hl with | [_, _], _ => rfl
  have F12 := fun_mk (st := s_law_entry) l12 c12 k12
  have b12 := F12.binds (ps := ["_law_number"]) fun _ _ _ _ _ _ us hl => match us, hl with | [_], _ => rfl
  have F13 := fun_mk (st := s_law_wide_task) l13 c13 k13
  have b13 := F13.binds (ps := ["_law_d"]) fun _ _ _ _ _ _ us hl => match us, hl with | [_], _ => rfl
  have F14 := fun_mk (st := s_law_statuses) l14 c14 k14
  have b14 := F14.binds (ps := ["_law_task"]) fun _ _ _ _ _ _ us hl => match us, hl with | [_], _ => rfl
  have F15 := fun_mk (st := s_law_right) l15 c15 k15
  have b15 := F15.binds (ps := ["_law_task", "_law_made", "_law_status"]) fun _ _ _ _ _ _ us hl => match us, hl with | [_, _, _], _ => rfl
  have F16 := fun_mk (st := s_law) l16 c16 k16
  have b16 := F16.binds (ps := ["_law_script"]) fun _ _ _ _ _ _ us hl => match us, hl with | [_], _ => rfl
  have F17 := fun_mk (st := s_Task_cap) l17 c17 k17
  have b17 := F17.binds (ps := ["self", "node"]) fun _ _ _ _ _ _ us hl => match us, hl with | [_, _], _ => rfl
  have F18 := fun_mk (st := s_Task_unfinished) l18 c18 k18
  have b18 := F18.binds (ps := ["self", "status"]) fun _ _ _ _ _ _ us hl => match us, hl with | [_, _], _ => rfl
  have F19 := fun_mk (st := s_Task_allows) l19 c19 k19
  have b19 := F19.binds (ps := ["self", "status", "node"]) fun _ _ _ _ _ _ us hl => match us, hl with | [_, _, _], _ => rfl
  have F20 := fun_mk (st := s_Task_owes) l20 c20 k20
  have b20 := F20.binds (ps := ["self", "status"]) fun _ _ _ _ _ _ us hl => match us, hl with | [_, _], _ => rfl
  have F21 := fun_mk (st := s_Task_held) l21 c21 k21
  have b21 := F21.binds (ps := ["self", "status"]) fun _ _ _ _ _ _ us hl => match us, hl with | [_, _], _ => rfl
  have F22 := fun_mk (st := s_Task_needed) l22 c22 k22
  have b22 := F22.binds (ps := ["self", "status"]) fun _ _ _ _ _ _ us hl => match us, hl with | [_, _], _ => rfl
  have F23 := fun_mk (st := s_Task_come) l23 c23 k23
  have b23 := F23.binds (ps := ["self", "status", "node", "door"]) fun _ _ _ _ _ _ us hl => match us, hl with | [_, _, _, _], _ => rfl
  have F24 := fun_mk (st := s_Task_server) l24 c24 k24
  have b24 := F24.binds (ps := ["self"]) fun _ _ _ _ _ _ us hl => match us, hl with | [_], _ => rfl
  have F25 := fun_mk (st := s_Task_init) l25 c25 k25
  have T : ∀ base : Heap, Txt ⟨l.prog, w, K, mg, base, fun c =>  C0⟩ := fun base => {
    cls0 := ⟨pg0, hd0, po0, sa0⟩
    na0 := n0
    na1 := n1
    na2 := n2
    con0 := ⟨_, .ref T0, PySem.W.mg_of X Gn x0, rfl, fun F => .tup (vs := [.int (-1), .int 0, .int 0, .int 0]) (.inr ⟨_, _, _, y0, rfl, rfl, Nat.le_of_lt (small1000 (n := 4) (by decide)), (.cons ⟨_, rfl⟩ (.cons ⟨_, rfl⟩ (.cons ⟨_, rfl⟩ (.cons ⟨_, rfl⟩ .nil))))⟩) (.cons (.int _) (.cons (.int _) (.cons (.int _) (.cons (.int _) .nil))))⟩
    con1 := ⟨_, .ref T1, PySem.W.mg_of X Gn x1, rfl, fun F => .tup (vs := [.str "a", .str "b", .str "c"]) (.inr ⟨_, _, _, y1, rfl, rfl, Nat.le_of_lt (small1000 (n := 3) (by decide)), (.cons ⟨_, rfl⟩ (.cons ⟨_, rfl⟩ (.cons ⟨_, rfl⟩ .nil)))⟩) (.cons (.str _) (.cons (.str _) (.cons (.str _) .nil)))⟩
    con2 := ⟨_, .int 2, PySem.W.mg_of X Gn x2, ⟨_, rfl⟩, fun F => .int _⟩
    con3 := ⟨_, .int 4, PySem.W.mg_of X Gn x3, ⟨_, rfl⟩, fun F => .int _⟩
    con4 := ⟨_, .int 8, PySem.W.mg_of X Gn x4, ⟨_, rfl⟩, fun F => .int _⟩
    blt0 := PySem.W.mg_none_of X Gn z0
    blt1 := PySem.W.mg_none_of X Gn z1
    blt2 := PySem.W.mg_none_of X Gn z2
    blt3 := PySem.W.mg_none_of X Gn z3
    blt4 := PySem.W.mg_none_of X Gn z4
    blt5 := PySem.W.mg_none_of X Gn z5
    blt6 := PySem.W.mg_none_of X Gn z6
    blt7 := PySem.W.mg_none_of X Gn z7
    blt8 := PySem.W.mg_none_of X Gn z8
    blt9 := PySem.W.mg_none_of X Gn z9
    blt10 := PySem.W.mg_none_of X Gn z10
    blt11 := PySem.W.mg_none_of X Gn z11
    blt12 := PySem.W.mg_none_of X Gn z12
    f_are_nodes := ⟨_, _, PySem.W.mg_of X Gn a1, F1, b1⟩
    f_is_entry := ⟨_, _, PySem.W.mg_of X Gn a2, F2, b2⟩
    f_are_edges := ⟨_, _, PySem.W.mg_of X Gn a3, F3, b3⟩
    f_law_cell := ⟨_, _, PySem.W.mg_of X Gn a4, F4, b4⟩
    f_law_draws := ⟨_, _, PySem.W.mg_of X Gn a5, F5, b5⟩
    f_law_cap := ⟨_, _, PySem.W.mg_of X Gn a6, F6, b6⟩
    f_law_open := ⟨_, _, PySem.W.mg_of X Gn a7, F7, b7⟩
    f_law_allows := ⟨_, _, PySem.W.mg_of X Gn a8, F8, b8⟩
    f_law_owes := ⟨_, _, PySem.W.mg_of X Gn a9, F9, b9⟩
    f_law_held := ⟨_, _, PySem.W.mg_of X Gn a10, F10, b10⟩
    f_law_needed := ⟨_, _, PySem.W.mg_of X Gn a11, F11, b11⟩
    f_law_entry := ⟨_, _, PySem.W.mg_of X Gn a12, F12, b12⟩
    f_law_wide_task := ⟨_, _, PySem.W.mg_of X Gn a13, F13, b13⟩
    f_law_statuses := ⟨_, _, PySem.W.mg_of X Gn a14, F14, b14⟩
    f_law_right := ⟨_, _, PySem.W.mg_of X Gn a15, F15, b15⟩
    f_law := ⟨_, _, PySem.W.mg_of X Gn a16, F16, b16⟩
    f_Task_cap := ⟨_, _, ⟨a17, i17, k17⟩, F17, b17⟩
    f_Task_unfinished := ⟨_, _, ⟨a18, i18, k18⟩, F18, b18⟩
    f_Task_allows := ⟨_, _, ⟨a19, i19, k19⟩, F19, b19⟩
    f_Task_owes := ⟨_, _, ⟨a20, i20, k20⟩, F20, b20⟩
    f_Task_held := ⟨_, _, ⟨a21, i21, k21⟩, F21, b21⟩
    f_Task_needed := ⟨_, _, ⟨a22, i22, k22⟩, F22, b22⟩
    f_Task_come := ⟨_, _, ⟨a23, i23, k23⟩, F23, b23⟩
    f_Task_server := ⟨_, _, _, ⟨a24, g24, t24, _, r24⟩, F24, b24⟩
    k0 := ⟨_, _, PySem.W.mg_of X Gn aC0, ⟨mk0, a25, i25, kc0⟩, F25, ⟨fun s us ws _ h1 h2 => match us, ws, h1, h2 with | [_, _, _], [_], _, _ => .of_eq rfl, fun r1 r2 => r1.append r2⟩⟩
  }
  refine ⟨PySem.W.fnOf "law" "law" (defArgs s_law) (defBody s_law) (defScope s_law) .none kV16 dc16 pm16 an16 cd16 ct16, fun s v => .of_eq rfl, fun base _ _ => ?_⟩
  have okL := fn_ok (n := 0) F16 sc_law (facts (T base) 5) (d_law 5)
  refine FnOk.imp okL fun vs H Q E hs => ?_
  obtain ⟨a, ns, rfl, hS, hlen, hQ⟩ := hs
  refine ⟨H, [.lst (ns.map .int)], .bl true, Le.refl H, .cons (.lst hS (ints_list ns)) .nil, rfl, law_true ns hlen, fun v F1 H1 _ r => ?_⟩
  cases r
  exact hQ H1
theorem walk {l : PySem.W.OpenLaw} {q : Program} {loose : List Str} {XP : (Str → Option Value) → Heap → Prop} {YP : World → Heap → Prop} {d : DefRec} {K : Params → PySem.W.Frag} (hn : l.most = some 63) (hdf : d.params.defaults = [])
    (hY : ∀ (w : World) (h : Heap), YP w h → (K w.params).In h)
    (F : ∀ (w : World) (mg : Str → Option Value) (fa : Addr) (h : Heap), (K w.params).In h → h.Ns mainGlobals mg → mg d.name = some (.ref fa) →
      ∃ fd : FuncData, (∀ (s : Shared) (u : Value), BindsTo s fd ⟨[u], []⟩ [("_law_script", u)]) ∧ ∀ base : Heap, (K w.params).In base → base.Ns mainGlobals mg → FnOk l.prog w (K w.params) mg base CX0 12 fa fd ["_law_script"] (spLaw (K w.params))) :
    PySem.W.WalkO q loose XP YP l.row.toRowW d [] (fun f vs => PySem.call f vs) :=
  L2.walk_of (n := 63) (k := 12) (x := "_law_script") (CX := fun _ => CX0) (sp := fun w => spLaw (K w.params)) hn (by decide) hdf ⟨rfl, by decide, by decide⟩ hY F (fun _ _ a ns hl _ hS => ⟨a, ns, rfl, hS, hl, fun _ => rfl⟩) fun _ _ _ _ _ z => z
end K
open PySem PySem.W PyProof.Rows in
set_option maxRecDepth 100000 in
set_option maxHeartbeats 0 in
theorem PySem.Challenge.cw_firstbreach_k04_statuses_holds : PySem.Challenge.rw_firstbreach_k04_statuses.Holds := by
  w_on; o_law; k_head; (case hw => w_witness2)
  k_fill
  refine K.walk (l := PySem.Challenge.rw_firstbreach_k04_statuses) rfl rfl (fun w h Y => PySem.W.kIn_of Y) ?F
  case F =>
    intro w mg fa h KX G hmg
    refine' K.all_mk KX G hmg ?aC0 ?a1 ?l1 ?c1 ?k1 ?a2 ?l2 ?c2 ?k2 ?a3 ?l3 ?c3 ?k3 ?a4 ?l4 ?c4 ?k4 ?a5 ?l5 ?c5 ?k5 ?a6 ?l6 ?c6 ?k6 ?a7 ?l7 ?c7 ?k7 ?a8 ?l8 ?c8 ?k8 ?a9 ?l9 ?c9 ?k9 ?a10 ?l10 ?c10 ?k10 ?a11 ?l11 ?c11 ?k11 ?a12 ?l12 ?c12 ?k12 ?a13 ?l13 ?c13 ?k13 ?a14 ?l14 ?c14 ?k14 ?a15 ?l15 ?c15 ?k15 ?a16 ?l16 ?c16 ?k16 ?a17 ?i17 ?l17 ?c17 ?k17 ?a18 ?i18 ?l18 ?c18 ?k18 ?a19 ?i19 ?l19 ?c19 ?k19 ?a20 ?i20 ?l20 ?c20 ?k20 ?a21 ?i21 ?l21 ?c21 ?k21 ?a22 ?i22 ?l22 ?c22 ?k22 ?a23 ?i23 ?l23 ?c23 ?k23 ?a24 ?g24 ?t24 ?r24 ?l24 ?c24 ?k24 ?a25 ?i25 ?l25 ?c25 ?k25 ?pg0 ?hd0 ?po0 ?sa0 ?mk0 ?kc0 ?n0 ?n1 ?n2 ?z0 ?z1 ?z2 ?z3 ?z4 ?z5 ?z6 ?z7 ?z8 ?z9 ?z10 ?z11 ?z12 ?x0 ?y0 ?x1 ?y1 ?x2 ?x3 ?x4
    (case aC0 => k_is)
    (case a1 => k_is)
    (case l1 => k_is)
    (case c1 => k_is)
    (case k1 => k_is)
    (case a2 => k_is)
    (case l2 => k_is)
    (case c2 => k_is)
    (case k2 => k_is)
    (case a3 => k_is)
    (case l3 => k_is)
    (case c3 => k_is)
    (case k3 => k_is)
    (case a4 => k_is)
    (case l4 => k_is)
    (case c4 => k_is)
    (case k4 => k_is)
    (case a5 => k_is)
    (case l5 => k_is)
    (case c5 => k_is)
    (case k5 => k_is)
    (case a6 => k_is)
    (case l6 => k_is)
    (case c6 => k_is)
    (case k6 => k_is)
    (case a7 => k_is)
    (case l7 => k_is)
    (case c7 => k_is)
    (case k7 => k_is)
    (case a8 => k_is)
    (case l8 => k_is)
    (case c8 => k_is)
    (case k8 => k_is)
    (case a9 => k_is)
    (case l9 => k_is)
    (case c9 => k_is)
    (case k9 => k_is)
    (case a10 => k_is)
    (case l10 => k_is)
    (case c10 => k_is)
    (case k10 => k_is)
    (case a11 => k_is)
    (case l11 => k_is)
    (case c11 => k_is)
    (case k11 => k_is)
    (case a12 => k_is)
    (case l12 => k_is)
    (case c12 => k_is)
    (case k12 => k_is)
    (case a13 => k_is)
    (case l13 => k_is)
    (case c13 => k_is)
    (case k13 => k_is)
    (case a14 => k_is)
    (case l14 => k_is)
    (case c14 => k_is)
    (case k14 => k_is)
    (case a15 => k_is)
    (case l15 => k_is)
    (case c15 => k_is)
    (case k15 => k_is)
    (case a16 => k_is)
    (case l16 => k_is)
    (case c16 => k_is)
    (case k16 => k_is)
    (case a17 => k_is)
    (case i17 => k_is)
    (case l17 => k_is)
    (case c17 => k_is)
    (case k17 => k_is)
    (case a18 => k_is)
    (case i18 => k_is)
    (case l18 => k_is)
    (case c18 => k_is)
    (case k18 => k_is)
    (case a19 => k_is)
    (case i19 => k_is)
    (case l19 => k_is)
    (case c19 => k_is)
    (case k19 => k_is)
    (case a20 => k_is)
    (case i20 => k_is)
    (case l20 => k_is)
    (case c20 => k_is)
    (case k20 => k_is)
    (case a21 => k_is)
    (case i21 => k_is)
    (case l21 => k_is)
    (case c21 => k_is)
    (case k21 => k_is)
    (case a22 => k_is)
    (case i22 => k_is)
    (case l22 => k_is)
    (case c22 => k_is)
    (case k22 => k_is)
    (case a23 => k_is)
    (case i23 => k_is)
    (case l23 => k_is)
    (case c23 => k_is)
    (case k23 => k_is)
    (case a24 => k_is)
    (case g24 => k_is)
    (case t24 => k_is)
    (case r24 => k_is)
    (case l24 => k_is)
    (case c24 => k_is)
    (case k24 => k_is)
    (case a25 => k_is)
    (case i25 => k_is)
    (case l25 => k_is)
    (case c25 => k_is)
    (case k25 => k_is)
    (case pg0 => k_is)
    (case hd0 => k_is)
    (case po0 => k_is)
    (case sa0 => k_is)
    (case mk0 => k_is)
    (case kc0 => k_is)
    (case n0 => k_is)
    (case n1 => k_is)
    (case n2 => k_is)
    (case z0 => k_is)
    (case z1 => k_is)
    (case z2 => k_is)
    (case z3 => k_is)
    (case z4 => k_is)
    (case z5 => k_is)
    (case z6 => k_is)
    (case z7 => k_is)
    (case z8 => k_is)
    (case z9 => k_is)
    (case z10 => k_is)
    (case z11 => k_is)
    (case z12 => k_is)
    (case x0 => k_is)
    (case y0 => k_is)
    (case x1 => k_is)
    (case y1 => k_is)
    (case x2 => k_is)
    (case x3 => k_is)
    (case x4 => k_is)
