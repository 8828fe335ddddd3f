import PyProof.Rows.All
import Wide.All
import OpenK.AllK
import Wide.FinOn
import HandS.ForMost
import HandS.ExcValue
import HandS.TupAny
import HandS.Flow
import HandS.WideMore
import HandS.Small
import HandS.IsInst
import HandS.More
import KE.SortData
import HandS.Zip
import HandS.DictComp
import KE.GoesEnum
import HandS.NoneIn
import HandS.StrMore
import HandS.SortKw
import HandS.RevRange
import HandS.Conv
import KE.DataMinMax
import PyProof.TupleOfStr
import HandS.Style
import PyProof.CompUse
import HandS.Exc
import HandS.ExcOwn
import HandS.ExcIs
import HandS.WordsExc
import PySem.Challenge.RW_anylatency_k02_orders_or_not
import KE.OsSortAny
set_option Elab.async false
set_option linter.all false
set_option maxRecDepth 100000
set_option maxHeartbeats 2000000
set_option autoImplicit false
/-! Iv: mirrors of a program's text as plain functions over values, and what binds them to the text. -/
namespace Iv
open PySem L2

/-- the greatest length of what is made: never unfolded but by the kernel -/
@[irreducible] def lim : Nat := 100000
theorem lim_eq : lim = 100000 := by unfold lim; rfl
/-! ### values and objects of the mirror -/
inductive IV where
  | non | bl (b : Bool) | int (i : Int) | str (x : Str) | tup (xs : List IV) | fl (xs : List IV) | kl (xs : List IV) | ref (n : Nat) | exo
inductive IO where
  | lst (xs : List IV) | dic (kvs : List (Key × IV)) | fdc (kvs : List (Key × IV))
abbrev IH := List IO
structure Exn where
  cls : Str
  args : List (Str × IV)
inductive Out (α : Type) where
  | ok (a : α) | ex (e : Exn)
def M (α : Type) := IH → Option (Out α × IH)
def M.pure {α : Type} (a : α) : M α := fun h => some (.ok a, h)
def M.bind {α β : Type} (m : M α) (k : α → M β) : M β := fun h => match m h with
  | none => none
  | some (.ok a, h1) => k a h1
  | some (.ex e, h1) => some (.ex e, h1)
instance : Monad M where
  pure := M.pure
  bind := M.bind
def stuck {α : Type} : M α := fun _ => none
theorem bind_eq {α β : Type} (m : M α) (k : α → M β) : (m >>= k) = M.bind m k := rfl
theorem pure_eq {α : Type} (a : α) : (Pure.pure a : M α) = M.pure a := rfl
abbrev Env := List (Option IV)

/-! ### what stands for what -/
/-- which lists of the written part may be read, whatever the heap -/
class KL where
  p : Addr → List V → Prop
  /-- own classes of errors, of which objects may be values -/
  ex : Addr → Prop
variable [KL]
mutual
inductive RV (ι : List Addr) (H : Hp) : V → IV → Prop where
  | non : RV ι H .non .non
  | bl (b : Bool) : RV ι H (.bl b) (.bl b)
  | int (i : Int) : RV ι H (.int i) (.int i)
  | str (x : Str) : RV ι H (.str x) (.str x)
  | tup {a : Addr} {vs : List V} {xs : List IV} : H a = some (.tup vs) → RVs ι H vs xs → RV ι H (.ref a) (.tup xs)
  | fl {a : Addr} {o : Obj} {vs : List V} {xs : List IV} : H a = some (.frz o (.lst vs)) → a ∉ ι → RVs ι H vs xs → RV ι H (.ref a) (.fl xs)
  | kl {a : Addr} {vs : List V} {xs : List IV} : KL.p a vs → RVs ι H vs xs → RV ι H (.ref a) (.kl xs)
  | ref {n : Nat} {a : Addr} : ι[n]? = some a → RV ι H (.ref a) (.ref n)
  | exo {a C : Addr} : H a = some (ExO (.ref C) a) → a ∉ ι → KL.ex C → RV ι H (.ref a) .exo
inductive RVs (ι : List Addr) (H : Hp) : List V → List IV → Prop where
  | nil : RVs ι H [] []
  | cons {v : V} {x : IV} {vs : List V} {xs : List IV} : RV ι H v x → RVs ι H vs xs → RVs ι H (v :: vs) (x :: xs)
end
inductive RKs (ι : List Addr) (H : Hp) : List (Key × V) → List (Key × IV) → Prop where
  | nil : RKs ι H [] []
  | cons {k : Key} {v : V} {x : IV} {vs : List (Key × V)} {xs : List (Key × IV)} : RV ι H v x → RKs ι H vs xs → RKs ι H ((k, v) :: vs) ((k, x) :: xs)
def RO (ι : List Addr) (H : Hp) (a : Addr) : IO → Prop
  | .lst xs => ∃ vs, H a = some (.lst vs) ∧ RVs ι H vs xs
  | .dic kvs => ∃ ks, H a = some (.dK ks) ∧ RKs ι H ks kvs
  | .fdc kvs => ∃ ob ks, H a = some (.frz ob (.dK ks)) ∧ RKs ι H ks kvs
structure Rel (ι : List Addr) (h : IH) (H : Hp) : Prop where
  len : ι.length = h.length
  nd : ι.Nodup
  obj : ∀ (n : Nat) (o : IO) (a : Addr), h[n]? = some o → ι[n]? = some a → RO ι H a o
structure Fk (ι : List Addr) (H : Hp) (ι' : List Addr) (H' : Hp) : Prop where
  pre : ι <+: ι'
  keep : ∀ a o, H a = some o → a ∉ ι → H' a = some o ∧ a ∉ ι'
/-- .. and what is locked stays as it is -/
structure Fr (ι : List Addr) (H : Hp) (ι' : List Addr) (H' : Hp) : Prop extends Fk ι H ι' H' where
  frz : ∀ a o u, H a = some (.frz o u) → H' a = some (.frz o u)
def NF (H : Hp) (a : Addr) : Prop := ∀ o u, H a ≠ some (.frz o u)
theorem nf_lst {H : Hp} {a : Addr} {vs : List V} (e : H a = some (.lst vs)) : NF H a := fun o u z => by rw [e] at z; cases z
theorem nf_dk {H : Hp} {a : Addr} {vs : List (Key × V)} (e : H a = some (.dK vs)) : NF H a := fun o u z => by rw [e] at z; cases z

section
variable {ι ι' ι2 : List Addr} {h h' : IH} {H H' H2 : Hp}
theorem Fr.refl (ι : List Addr) (H : Hp) : Fr ι H ι H := ⟨⟨List.prefix_refl _, fun _ _ e n => ⟨e, n⟩⟩, fun _ _ _ e => e⟩
theorem Fr.trans (a : Fr ι H ι' H') (b : Fr ι' H' ι2 H2) : Fr ι H ι2 H2 :=
  ⟨⟨a.pre.trans b.pre, fun c o e n => let ⟨e1, n1⟩ := a.keep c o e n; b.keep c o e1 n1⟩, fun c o u e => b.frz c o u (a.frz c o u e)⟩
theorem Rel.at (R : Rel ι h H) {a : Addr} (ha : a ∈ ι) : ∃ (n : Nat) (o : IO), ι[n]? = some a ∧ h[n]? = some o ∧ RO ι H a o := by
  obtain ⟨n, hn⟩ := List.getElem?_of_mem ha
  have hl : n < ι.length := (List.getElem?_eq_some_iff.mp hn).1
  have hl' : n < h.length := by rw [← R.len]; exact hl
  have hh : h[n]? = some h[n] := by simp [hl']
  exact ⟨n, _, hn, hh, R.obj n _ a hh hn⟩
theorem Rel.tup_out (R : Rel ι h H) {a : Addr} {vs : List V} (e : H a = some (.tup vs)) : a ∉ ι := fun ha => by
  obtain ⟨n, o, _, _, r⟩ := R.at ha
  cases o with
  | lst xs => obtain ⟨_, e2, _⟩ := r; rw [e] at e2; cases e2
  | dic kvs => obtain ⟨_, e2, _⟩ := r; rw [e] at e2; cases e2
  | fdc kvs => obtain ⟨_, _, e2, _⟩ := r; rw [e] at e2; cases e2
theorem Rel.fresh_out (R : Rel ι h H) {a : Addr} (e : H a = none) : a ∉ ι := fun ha => by
  obtain ⟨n, o, _, _, r⟩ := R.at ha
  cases o with
  | lst xs => obtain ⟨_, e2, _⟩ := r; rw [e] at e2; cases e2
  | dic kvs => obtain ⟨_, e2, _⟩ := r; rw [e] at e2; cases e2
  | fdc kvs => obtain ⟨_, _, e2, _⟩ := r; rw [e] at e2; cases e2
theorem pre_get {α : Type} {l l' : List α} (p : l <+: l') {n : Nat} {a : α} (h : l[n]? = some a) : l'[n]? = some a := by
  obtain ⟨t, rfl⟩ := p
  have hl : n < l.length := (List.getElem?_eq_some_iff.mp h).1
  rw [List.getElem?_append_left hl]; exact h
mutual
theorem RV.monok (T : ∀ a vs, H a = some (.tup vs) → a ∉ ι) (F : Fk ι H ι' H') : ∀ {x : IV} {v : V}, RV ι H v x → RV ι' H' v x
  | .non, _, .non => .non
  | .bl _, _, .bl b => .bl b
  | .int _, _, .int i => .int i
  | .str _, _, .str x => .str x
  | .tup _, _, .tup e r => .tup (F.keep _ _ e (T _ _ e)).1 (RVs.monok T F r)
  | .fl _, _, .fl e n r => .fl (F.keep _ _ e n).1 (F.keep _ _ e n).2 (RVs.monok T F r)
  | .kl _, _, .kl e r => .kl e (RVs.monok T F r)
  | .ref _, _, .ref e => .ref (pre_get F.pre e)
  | .exo, _, .exo e n k => .exo (F.keep _ _ e n).1 (F.keep _ _ e n).2 k
theorem RVs.monok (T : ∀ a vs, H a = some (.tup vs) → a ∉ ι) (F : Fk ι H ι' H') : ∀ {xs : List IV} {vs : List V}, RVs ι H vs xs → RVs ι' H' vs xs
  | [], _, .nil => .nil
  | _ :: _, _, .cons a r => .cons (RV.monok T F a) (RVs.monok T F r)
end
theorem Rel.monok {x : IV} {v : V} (R : Rel ι h H) (F : Fk ι H ι' H') (r : RV ι H v x) : RV ι' H' v x := RV.monok (fun _ _ e => R.tup_out e) F r
theorem Rel.monosk {x : List IV} {v : List V} (R : Rel ι h H) (F : Fk ι H ι' H') (r : RVs ι H v x) : RVs ι' H' v x := RVs.monok (fun _ _ e => R.tup_out e) F r
theorem RKs.monok (R : Rel ι h H) (F : Fk ι H ι' H') {x : List (Key × IV)} {v : List (Key × V)} (r : RKs ι H v x) : RKs ι' H' v x := by
  induction r with
  | nil => exact .nil
  | cons a _ ih => exact .cons (R.monok F a) ih
theorem RO.monok (R : Rel ι h H) (F : Fk ι H ι' H') {a : Addr} {o : IO} (e : H' a = H a) (r : RO ι H a o) : RO ι' H' a o := by
  cases o with
  | lst xs => obtain ⟨vs, e1, r⟩ := r; exact ⟨vs, e.trans e1, R.monosk F r⟩
  | dic kvs => obtain ⟨vs, e1, r⟩ := r; exact ⟨vs, e.trans e1, RKs.monok R F r⟩
  | fdc kvs => obtain ⟨ob, vs, e1, r⟩ := r; exact ⟨ob, vs, e.trans e1, RKs.monok R F r⟩
theorem Rel.mono {x : IV} {v : V} (R : Rel ι h H) (F : Fr ι H ι' H') (r : RV ι H v x) : RV ι' H' v x := R.monok F.toFk r
theorem Rel.monos {x : List IV} {v : List V} (R : Rel ι h H) (F : Fr ι H ι' H') (r : RVs ι H v x) : RVs ι' H' v x := R.monosk F.toFk r
theorem RKs.mono (R : Rel ι h H) (F : Fr ι H ι' H') {x : List (Key × IV)} {v : List (Key × V)} (r : RKs ι H v x) : RKs ι' H' v x := RKs.monok R F.toFk r
theorem RO.mono (R : Rel ι h H) (F : Fr ι H ι' H') {a : Addr} {o : IO} (e : H' a = H a) (r : RO ι H a o) : RO ι' H' a o := RO.monok R F.toFk e r
theorem Rel.lt (R : Rel ι h H) {n : Nat} {o : IO} (e : h[n]? = some o) : ∃ a, ι[n]? = some a := by
  have hl : n < h.length := (List.getElem?_eq_some_iff.mp e).1
  exact ⟨ι[n]'(by rw [R.len]; exact hl), by simp [R.len, hl]⟩
theorem Rel.inj (R : Rel ι h H) {n m : Nat} {a : Addr} (e1 : ι[n]? = some a) (e2 : ι[m]? = some a) : n = m := by
  obtain ⟨h1, e1⟩ := List.getElem?_eq_some_iff.mp e1
  obtain ⟨h2, e2⟩ := List.getElem?_eq_some_iff.mp e2
  exact (List.getElem_inj R.nd).mp (e1.trans e2.symm)

/-- an immutable object is made -/
theorem fr_new {p : Addr} {o : HO} (hp : H p = none) : Fr ι H ι (upd H p o) := ⟨⟨List.prefix_refl _, fun a u e n => ⟨by rw [upd_ne (ne_of_none e hp)]; exact e, n⟩⟩, fun a o u e => by rw [upd_ne (ne_of_none e hp)]; exact e⟩
theorem Rel.new (R : Rel ι h H) {p : Addr} {o : HO} (hp : H p = none) : Rel ι h (upd H p o) := ⟨R.len, R.nd, fun n u a e1 e2 => by
  refine RO.mono R (fr_new hp) ?_ (R.obj n u a e1 e2)
  refine upd_ne fun z => ?_
  subst z
  exact R.fresh_out hp (List.mem_of_getElem? e2)⟩
theorem fr_push {p : Addr} {o : HO} (hp : H p = none) : Fr ι H (ι ++ [p]) (upd H p o) := ⟨⟨List.prefix_append _ _, fun a u e n => ⟨by rw [upd_ne (ne_of_none e hp)]; exact e, fun z => by
  rcases List.mem_append.mp z with z | z
  · exact n z
  · exact ne_of_none e hp (List.mem_singleton.mp z)⟩⟩, fun a o u e => by rw [upd_ne (ne_of_none e hp)]; exact e⟩
/-- an object of the mirror is made -/
theorem Rel.push (R : Rel ι h H) {p : Addr} {o : HO} {u : IO} (hp : H p = none) (new : RO (ι ++ [p]) (upd H p o) p u) : Rel (ι ++ [p]) (h ++ [u]) (upd H p o) := by
  have hn := R.fresh_out hp
  refine ⟨by simp [R.len], by rw [List.nodup_append]; exact ⟨R.nd, by simp, fun a ha b hb e => hn (by rw [List.mem_singleton.mp hb] at e; subst e; exact ha)⟩, fun n w a e1 e2 => ?_⟩
  by_cases hl : n < h.length
  · rw [List.getElem?_append_left hl] at e1
    rw [List.getElem?_append_left (by rw [R.len]; exact hl)] at e2
    exact RO.mono R (fr_push hp) (upd_ne fun z => hn (by rw [← z]; exact List.mem_of_getElem? e2)) (R.obj n w a e1 e2)
  · have hl2 : n < (h ++ [u]).length := (List.getElem?_eq_some_iff.mp e1).1
    have en : n = h.length := by rw [List.length_append, List.length_singleton] at hl2; omega
    subst en
    rw [List.getElem?_append_right (Nat.le_refl _), Nat.sub_self] at e1
    rw [← R.len, List.getElem?_append_right (Nat.le_refl _), Nat.sub_self] at e2
    cases e1; cases e2
    exact new
theorem fk_set {a : Addr} {o : HO} (ha : a ∈ ι) : Fk ι H ι (upd H a o) := ⟨List.prefix_refl _, fun b u e n => ⟨by rw [upd_ne (fun z => n (by rw [z]; exact ha))]; exact e, n⟩⟩
theorem fr_set {a : Addr} {o : HO} (ha : a ∈ ι) (nf : NF H a) : Fr ι H ι (upd H a o) := ⟨fk_set ha, fun b u w e => by rw [upd_ne (fun z => nf u w (by rw [← z]; exact e))]; exact e⟩
/-- an object of the mirror is changed -/
theorem Rel.set (R : Rel ι h H) {n : Nat} {a : Addr} {o : HO} {u : IO} (ha : ι[n]? = some a) (new : RO ι (upd H a o) a u) : Rel ι (h.set n u) (upd H a o) := by
  have hm := List.mem_of_getElem? ha
  refine ⟨by simp [R.len], R.nd, fun m w b e1 e2 => ?_⟩
  by_cases hmn : n = m
  · subst hmn
    rw [ha] at e2; cases e2
    have hl : n < h.length := by
      have := (List.getElem?_eq_some_iff.mp e1).1; rwa [List.length_set] at this
    rw [List.getElem?_set_self hl] at e1; cases e1
    exact new
  · rw [List.getElem?_set_ne hmn] at e1
    refine RO.monok R (fk_set hm) (upd_ne fun z => ?_) (R.obj m w b e1 e2)
    subst z
    exact hmn (R.inj ha e2)
end

/-! ### the environment -/
def RSt (ι : List Addr) (H : Hp) (σ : L2.St) (env : Env) : Prop := σ.length = env.length ∧ ∀ (i : Nat) (x : IV), env[i]? = some (some x) → ∃ v, σ[i]? = some (some v) ∧ RV ι H v x
section
variable {ι ι' : List Addr} {h : IH} {H H' : Hp} {σ : L2.St} {env : Env}
theorem RSt.monok (S : RSt ι H σ env) (R : Rel ι h H) (F : Fk ι H ι' H') : RSt ι' H' σ env := ⟨S.1, fun i x e => let ⟨v, e1, r⟩ := S.2 i x e; ⟨v, e1, R.monok F r⟩⟩
theorem RSt.mono (S : RSt ι H σ env) (R : Rel ι h H) (F : Fr ι H ι' H') : RSt ι' H' σ env := S.monok R F.toFk
theorem RSt.set (S : RSt ι H σ env) {i : Nat} {v : V} {x : IV} (r : RV ι H v x) : RSt ι H (σ.set i (some v)) (env.set i (some x)) := by
  refine ⟨by simp [S.1], fun j y e => ?_⟩
  by_cases hij : i = j
  · subst hij
    have hl : i < env.length := by have := (List.getElem?_eq_some_iff.mp e).1; rwa [List.length_set] at this
    rw [List.getElem?_set_self hl] at e; cases e
    exact ⟨v, List.getElem?_set_self (by rw [S.1]; exact hl), r⟩
  · rw [List.getElem?_set_ne hij] at e
    obtain ⟨w, e1, r1⟩ := S.2 j y e
    exact ⟨w, by rw [List.getElem?_set_ne hij]; exact e1, r1⟩
end

/-! ### runs -/
abbrev ExW := Exn → List Addr → IH → Hp → Prop
def Run {α β : Type} (W : ExW) (rel : List Addr → Hp → β → α → Prop) (o : Option (Out α × IH)) (ι : List Addr) (H : Hp) (Q : β → Hp → Prop) : Prop :=
  match o with
  | none => False
  | some (.ok x, h') => ∀ ι' H' v, Rel ι' h' H' → Fr ι H ι' H' → rel ι' H' v x → Q v H'
  | some (.ex e, h') => ∀ ι' H', Rel ι' h' H' → Fr ι H ι' H' → W e ι' h' H'
section
variable {α β γ δ : Type} {W : ExW} {rel1 : List Addr → Hp → β → α → Prop} {rel2 : List Addr → Hp → δ → γ → Prop} {ι : List Addr} {h : IH} {H : Hp}
theorem Run.mono {o : Option (Out α × IH)} {Q Q' : β → Hp → Prop} (r : Run W rel1 o ι H Q) (k : ∀ v H', Q v H' → Q' v H') : Run W rel1 o ι H Q' := by
  unfold Run at r ⊢
  split <;> rename_i e
  · exact r
  · exact fun ι' H' v R F z => k v H' (r ι' H' v R F z)
  · exact r
theorem run_bind {m : M α} {k : α → M γ} {Q : δ → Hp → Prop} (r : Run W rel2 (M.bind m k h) ι H Q) :
    Run W rel1 (m h) ι H fun v H1 => ∃ ι1 h1 x, Rel ι1 h1 H1 ∧ Fr ι H ι1 H1 ∧ rel1 ι1 H1 v x ∧ Run W rel2 (k x h1) ι1 H1 Q := by
  unfold M.bind at r
  unfold Run
  generalize hm : m h = o at r ⊢
  match o, r with
  | none, r => exact r
  | some (.ok x, h1), r =>
    intro ι1 H1 v R1 F1 z
    refine ⟨ι1, h1, x, R1, F1, z, ?_⟩
    show Run W rel2 (k x h1) ι1 H1 Q
    have r : Run W rel2 (k x h1) ι H Q := r
    unfold Run at r ⊢
    split <;> rename_i e <;> simp only [e] at r
    · exact fun ι' H' v R F z => r ι' H' v R (F1.trans F) z
    · exact fun ι' H' R F => r ι' H' R (F1.trans F)
  | some (.ex e, h1), r => exact r
theorem run_pure {x : α} {Q : β → Hp → Prop} (r : Run W rel1 (M.pure x h) ι H Q) {v : β} (R : Rel ι h H) (z : rel1 ι H v x) : Q v H := r ι H v R (Fr.refl _ _) z
end

/-! ### readings -/
def tI (W : ExW) (m : Env → M IV) : TE := fun σ H Q => ∃ ι h env, Rel ι h H ∧ RSt ι H σ env ∧ Run W RV (m env h) ι H Q
def tIA (W : ExW) (m : Env → M (List IV)) : TA := fun σ H Q => ∃ ι h env, Rel ι h H ∧ RSt ι H σ env ∧ Run W RVs (m env h) ι H Q
def RB (_ : List Addr) (_ : Hp) (b c : Bool) : Prop := b = c
def tIT (W : ExW) (m : Env → M Bool) : TT := fun σ H Q => ∃ ι h env, Rel ι h H ∧ RSt ι H σ env ∧ Run W RB (m env h) ι H Q
def PEI (X : Cx) (W : ExW) (e : Expr) (m : Env → M IV) : Prop := PE X e (tI W m)
def PAI (X : Cx) (W : ExW) (es : List Expr) (m : Env → M (List IV)) : Prop := PA X es (tIA W m)
def PTI (X : Cx) (W : ExW) (e : Expr) (m : Env → M Bool) : Prop := PT X e (tIT W m)
section
variable {X : Cx}
theorem PE.weak {e : Expr} {t t' : TE} (h : PE X e t) (k : ∀ σ H Q, t' σ H Q → t σ H Q) : PE X e t' := ⟨fun pins s σ H Q I q => h.run pins s σ H Q I (k σ H Q q)⟩
theorem PT.weak {e : Expr} {t t' : TT} (h : PT X e t) (k : ∀ σ H Q, t' σ H Q → t σ H Q) : PT X e t' := ⟨fun pins s σ H Q I q => h.run pins s σ H Q I (k σ H Q q)⟩
theorem PW.weak {e : Expr} {t t' : TT} (h : PW X e t) (k : ∀ σ H Q, t' σ H Q → t σ H Q) : PW X e t' := ⟨fun whole pins s σ H Q I q => h.run whole pins s σ H Q I (k σ H Q q)⟩
theorem PA.weak {e : List Expr} {t t' : TA} (h : PA X e t) (k : ∀ σ H Q, t' σ H Q → t σ H Q) : PA X e t' := ⟨fun pos pins s σ H Q I q => h.run pos pins s σ H Q I (k σ H Q q)⟩
theorem PS.weak {e : Stmt} {t t' : TS} (h : PS X e t) (k : ∀ D σ H, t' D σ H → t D σ H) : PS X e t' := ⟨fun pins s σ H D I q => h.run pins s σ H D I (k D σ H q)⟩
theorem PSs.weak {e : List Stmt} {t t' : TS} (h : PSs X e t) (k : ∀ D σ H, t' D σ H → t D σ H) : PSs X e t' := ⟨fun pins s σ H D I q => h.run pins s σ H D I (k D σ H q)⟩
theorem PI.weak {tg e : Expr} {t t' : TI} (h : PI X tg e t) (k : ∀ σ H Q, t' σ H Q → t σ H Q) : PI X tg e t' := ⟨fun pins s σ H Q I q => h.run pins s σ H Q I (k σ H Q q)⟩
theorem PE.or {e : Expr} {t t' : TE} (h : PE X e t) (h' : PE X e t') : PE X e (fun σ H Q => t σ H Q ∨ t' σ H Q) := ⟨fun pins s σ H Q I q => q.elim (h.run pins s σ H Q I) (h'.run pins s σ H Q I)⟩
theorem PI.or {tg e : Expr} {t t' : TI} (h : PI X tg e t) (h' : PI X tg e t') : PI X tg e (fun σ H Q => t σ H Q ∨ t' σ H Q) := ⟨fun pins s σ H Q I q => q.elim (h.run pins s σ H Q I) (h'.run pins s σ H Q I)⟩
theorem OpR.or {f : Value → Value → Sem Value} {r r' : R2} (h : OpR X f r) (h' : OpR X f r') : OpR X f (fun x y H Q => r x y H Q ∨ r' x y H Q) :=
  fun pins s σ H x y v u Q I r1 r2 q => q.elim (h pins s σ H x y v u Q I r1 r2) (h' pins s σ H x y v u Q I r1 r2)
theorem CallR.or {f : Value} {r r' : List V → Hp → VK → Prop} (h : CallR X f r) (h' : CallR X f r') : CallR X f (fun x H Q => r x H Q ∨ r' x H Q) :=
  fun pins s σ H x v Q I r1 q => q.elim (h pins s σ H x v Q I r1) (h' pins s σ H x v Q I r1)
end

/-! ### expressions -/
def Var (i : Nat) : Env → M IV := fun env => match env[i]? with
  | some (some x) => M.pure x
  | _ => stuck
def Cst (x : IV) : Env → M IV := fun _ => M.pure x
def Bin (g : IV → IV → M IV) (a b : Env → M IV) : Env → M IV := fun env => M.bind (a env) fun x => M.bind (b env) fun y => g x y
def Un (g : IV → M IV) (a : Env → M IV) : Env → M IV := fun env => M.bind (a env) g
/-- an operation on two values keeps to its mirror -/
def RI2 (W : ExW) (r : R2) (g : IV → IV → M IV) : Prop := ∀ ι h H v w x y Q, Rel ι h H → RV ι H v x → RV ι H w y → Run W RV (g x y h) ι H Q → r v w H Q
def RI1 (W : ExW) (r : V → Hp → VK → Prop) (g : IV → M IV) : Prop := ∀ ι h H v x Q, Rel ι h H → RV ι H v x → Run W RV (g x h) ι H Q → r v H Q
def RIL (W : ExW) (r : List V → Hp → VK → Prop) (g : List IV → M IV) : Prop := ∀ ι h H v x Q, Rel ι h H → RVs ι H v x → Run W RV (g x h) ι H Q → r v H Q
section
variable {X : Cx} {W : ExW} {e a b : Expr} {ma mb mc : Env → M IV} {pos : Pos}
theorem pei_var (i : Nat) {x : Str} (hN : X.N[i]? = some x := by rfl) (hv : Vis X.env.scope x := by first | exact Or.inl rfl | exact Or.inr (Or.inl rfl) | exact Or.inr (Or.inr rfl)) (hd : (x == ("__debug__" : Str)) = false := by decide)
    (hcd : (x == ("__classdict__" : Str)) = false := by decide) : PEI X W (.Name x pos) (Var i) := PE.weak (pe_var hN hv hd hcd) fun σ H Q ⟨ι, h, env, R, S, r⟩ => by
  unfold Var at r
  generalize he : env[i]? = o at r
  match o, he, r with
  | some (some y), he, r =>
    obtain ⟨v, e1, rv⟩ := S.2 _ _ he
    exact ⟨v, e1, run_pure r R rv⟩
  | some none, _, r => exact False.elim r
  | none, _, r => exact False.elim r
theorem pei_int {i j} : PEI X W (.Constant (.int i) j pos) (Cst (.int i)) := PE.weak pe_int fun σ H Q ⟨ι, h, env, R, S, r⟩ => run_pure r R (.int i)
theorem pei_bl {b j} : PEI X W (.Constant (.bool b) j pos) (Cst (.bl b)) := PE.weak pe_bl fun σ H Q ⟨ι, h, env, R, S, r⟩ => run_pure r R (.bl b)
theorem pei_non {j} : PEI X W (.Constant .none j pos) (Cst .non) := PE.weak pe_non fun σ H Q ⟨ι, h, env, R, S, r⟩ => run_pure r R .non
theorem pei_str {x j} : PEI X W (.Constant (.str x) j pos) (Cst (.str x)) := PE.weak pe_str fun σ H Q ⟨ι, h, env, R, S, r⟩ => run_pure r R (.str x)
theorem tI_bin {g : IV → IV → M IV} {r : R2} (hr : RI2 W r g) {σ : L2.St} {H : Hp} {Q : VK} (t : tI W (Bin g ma mb) σ H Q) : tOp r (tI W ma) (tI W mb) σ H Q := by
  obtain ⟨ι, h, env, R, S, r⟩ := t
  refine ⟨ι, h, env, R, S, (run_bind (rel1 := RV) r).mono fun v H1 ⟨ι1, h1, x, R1, F1, rv, r1⟩ => ?_⟩
  refine ⟨ι1, h1, env, R1, S.mono R F1, (run_bind (rel1 := RV) r1).mono fun w H2 ⟨ι2, h2, y, R2, F2, rw, r2⟩ => ?_⟩
  exact hr ι2 h2 H2 v w x y Q R2 (R1.mono F2 rv) rw r2
theorem pei_op {op : Operator} {r : R2} {g : IV → IV → M IV} (hr : RI2 W r g) (ho : OpR X (binaryOp op) r) (ha : PEI X W a ma) (hb : PEI X W b mb) : PEI X W (.BinOp a op b pos) (Bin g ma mb) := PE.weak (pe_op ho ha hb) fun σ H Q t => tI_bin hr t
theorem pei_cmp {op : CmpOp} {r : R2} {g : IV → IV → M IV} (hr : RI2 W r g) (ho : OpR X (compareOp op) r) (ha : PEI X W a ma) (hb : PEI X W b mb) (hm : behindInMarks op b = false := by rfl) : PEI X W (.Compare a [op] [b] pos) (Bin g ma mb) := PE.weak (pe_cmpR ho ha hb hm) fun σ H Q t => tI_bin hr t
theorem pei_un {op : UnaryOp} {r : V → Hp → VK → Prop} {g : IV → M IV} (hr : RI1 W r g) (ho : UnR X (unaryOp op) r) (ha : PEI X W a ma) : PEI X W (.UnaryOp op a pos) (Un g ma) := PE.weak (pe_un ho ha) fun σ H Q ⟨ι, h, env, R, S, r⟩ =>
  ⟨ι, h, env, R, S, (run_bind (rel1 := RV) r).mono fun v H1 ⟨ι1, h1, x, R1, F1, rv, r1⟩ => hr ι1 h1 H1 v x Q R1 rv r1⟩

/-! arguments -/
def Nil : Env → M (List IV) := fun _ => M.pure []
def Cons (a : Env → M IV) (r : Env → M (List IV)) : Env → M (List IV) := fun env => M.bind (a env) fun x => M.bind (r env) fun xs => M.pure (x :: xs)
theorem pai_nil : PAI X W [] Nil := PA.weak pa_nil fun σ H Q ⟨ι, h, env, R, S, r⟩ => run_pure r R .nil
theorem pai_cons {es : List Expr} {mr : Env → M (List IV)} (ha : PEI X W e ma) (hr : PAI X W es mr) (hs : starEach (e :: es) X.env = (false, eval e X.env) :: starEach es X.env := by rfl) : PAI X W (e :: es) (Cons ma mr) := PA.weak (pa_cons ha hr hs) fun σ H Q ⟨ι, h, env, R, S, r⟩ =>
  ⟨ι, h, env, R, S, (run_bind (rel1 := RV) r).mono fun v H1 ⟨ι1, h1, x, R1, F1, rv, r1⟩ => ⟨ι1, h1, env, R1, S.mono R F1, (run_bind (rel1 := RVs) r1).mono fun w H2 ⟨ι2, h2, y, R2, F2, rw, r2⟩ => run_pure r2 R2 (.cons (R1.mono F2 rv) rw)⟩⟩
theorem RVs.length {ι : List Addr} {H : Hp} {vs : List V} {xs : List IV} (r : RVs ι H vs xs) : vs.length = xs.length := by
  induction xs generalizing vs with
  | nil => cases r; rfl
  | cons x xs ih => cases r with | cons _ r => simp [ih r]
/-- displays -/
def Tup (r : Env → M (List IV)) : Env → M IV := fun env => M.bind (r env) fun xs => if xs.length ≤ lim then M.pure (.tup xs) else stuck
def mkL (xs : List IV) : M IV := fun h => if xs.length ≤ lim then some (.ok (.ref h.length), h ++ [.lst xs]) else none
def Lst (r : Env → M (List IV)) : Env → M IV := fun env => M.bind (r env) mkL
theorem sz_of {n : Nat} (h : n ≤ lim) : n ≤ sizeLine := Nat.le_trans h (by rw [lim_eq]; decide)
theorem sz_lt {n : Nat} (h : n < lim) : n < sizeLine := Nat.lt_of_lt_of_le h (by rw [lim_eq]; decide)
theorem pei_tup {es : List Expr} {m : Env → M (List IV)} {x1} (h : PAI X W es m) : PEI X W (.Tuple es x1 pos) (Tup m) := PE.weak (pe_tup h) fun σ H Q ⟨ι, h, env, R, S, r⟩ =>
  ⟨ι, h, env, R, S, (run_bind (rel1 := RVs) r).mono fun vs H1 ⟨ι1, h1, xs, R1, F1, rv, r1⟩ => by
    split at r1
    · rename_i hl
      refine ⟨sz_of (by rw [rv.length]; exact hl), fun p hp => ?_⟩
      exact r1 ι1 _ _ (R1.new hp) (fr_new hp) (.tup upd_same (R1.monos (fr_new hp) rv))
    · exact False.elim r1⟩
/-- a new list of the mirror -/
theorem new_lst {ι : List Addr} {h : IH} {H : Hp} {vs : List V} {xs : List IV} {Q : VK} (R : Rel ι h H) (rv : RVs ι H vs xs) (r : Run W RV (mkL xs h) ι H Q) : vs.length ≤ lim ∧ ∀ p, H p = none → Q (.ref p) (upd H p (.lst vs)) := by
  unfold mkL at r
  split at r
  · rename_i hl
    refine ⟨by rw [rv.length]; exact hl, fun p hp => ?_⟩
    refine r (ι ++ [p]) _ _ (R.push hp ⟨vs, upd_same, R.monos (fr_push hp) rv⟩) (fr_push hp) (.ref ?_)
    rw [← R.len, List.getElem?_append_right (Nat.le_refl _), Nat.sub_self]
    rfl
  · exact False.elim r
theorem pei_lst {es : List Expr} {m : Env → M (List IV)} (h : PAI X W es m) : PEI X W (.List es pos) (Lst m) := PE.weak (pe_lst h) fun σ H Q ⟨ι, h, env, R, S, r⟩ =>
  ⟨ι, h, env, R, S, (run_bind (rel1 := RVs) r).mono fun vs H1 ⟨ι1, h1, xs, R1, F1, rv, r1⟩ => let ⟨hl, k⟩ := new_lst R1 rv r1; ⟨sz_of hl, k⟩⟩
end
end Iv
set_option Elab.async false
set_option linter.all false
set_option maxRecDepth 100000
set_option maxHeartbeats 2000000
set_option autoImplicit false
namespace Iv
open PySem L2
variable [KL]

/-! ### lists of values -/
section
variable {ι : List Addr} {h : IH} {H : Hp}
theorem RVs.get {vs : List V} {xs : List IV} (r : RVs ι H vs xs) {i : Nat} {x : IV} (e : xs[i]? = some x) : ∃ v, vs[i]? = some v ∧ RV ι H v x := by
  induction xs generalizing vs i with
  | nil => simp at e
  | cons y ys ih =>
    cases r with
    | cons a r =>
      cases i with
      | zero => simp at e; subst e; exact ⟨_, by simp, a⟩
      | succ i => obtain ⟨v, e1, r1⟩ := ih r (by simpa using e); exact ⟨v, by simpa using e1, r1⟩
theorem RVs.append {vs ws : List V} {xs ys : List IV} (r : RVs ι H vs xs) (r2 : RVs ι H ws ys) : RVs ι H (vs ++ ws) (xs ++ ys) := by
  induction xs generalizing vs with
  | nil => cases r; exact r2
  | cons y ys ih => cases r with | cons a r => exact .cons a (ih r)
theorem RVs.take {vs : List V} {xs : List IV} (n : Nat) (r : RVs ι H vs xs) : RVs ι H (vs.take n) (xs.take n) := by
  induction n generalizing vs xs with
  | zero => exact .nil
  | succ n ih => cases r with
    | nil => exact .nil
    | cons a r => exact .cons a (ih r)
theorem RVs.drop {vs : List V} {xs : List IV} (n : Nat) (r : RVs ι H vs xs) : RVs ι H (vs.drop n) (xs.drop n) := by
  induction n generalizing vs xs with
  | zero => exact r
  | succ n ih => cases r with
    | nil => exact .nil
    | cons a r => exact ih r
theorem RVs.set {vs : List V} {xs : List IV} (r : RVs ι H vs xs) (n : Nat) {v : V} {x : IV} (a : RV ι H v x) : RVs ι H (vs.set n v) (xs.set n x) := by
  induction n generalizing vs xs with
  | zero => cases r with
    | nil => exact .nil
    | cons b r => exact .cons a r
  | succ n ih => cases r with
    | nil => exact .nil
    | cons b r => exact .cons b (ih r)
theorem RVs.eraseIdx {vs : List V} {xs : List IV} (r : RVs ι H vs xs) (n : Nat) : RVs ι H (vs.eraseIdx n) (xs.eraseIdx n) := by
  induction n generalizing vs xs with
  | zero => cases r with
    | nil => exact .nil
    | cons b r => exact r
  | succ n ih => cases r with
    | nil => exact .nil
    | cons b r => exact .cons b (ih r)
theorem RVs.dropLast {vs : List V} {xs : List IV} (r : RVs ι H vs xs) : RVs ι H vs.dropLast xs.dropLast := by
  rw [List.dropLast_eq_take, List.dropLast_eq_take, r.length]
  exact r.take _
theorem RVs.ints {vs : List V} {ns : List Int} (r : RVs ι H vs (ns.map IV.int)) : vs = ns.map V.int := by
  induction ns generalizing vs with
  | nil => cases r; rfl
  | cons n ns ih => cases r with | cons a r => cases a; rw [ih r]; rfl
theorem RVs.bools {vs : List V} {ns : List Bool} (r : RVs ι H vs (ns.map IV.bl)) : vs = ns.map V.bl := by
  induction ns generalizing vs with
  | nil => cases r; rfl
  | cons n ns ih => cases r with | cons a r => cases a; rw [ih r]; rfl
theorem RVs.strs {vs : List V} {ns : List Str} (r : RVs ι H vs (ns.map IV.str)) : vs = ns.map V.str := by
  induction ns generalizing vs with
  | nil => cases r; rfl
  | cons n ns ih => cases r with | cons a r => cases a; rw [ih r]; rfl
theorem RVs.of_ints (ns : List Int) : RVs ι H (ns.map V.int) (ns.map IV.int) := by
  induction ns with
  | nil => exact .nil
  | cons n ns ih => exact .cons (.int n) ih
theorem RVs.of_strs (ns : List Str) : RVs ι H (ns.map V.str) (ns.map IV.str) := by
  induction ns with
  | nil => exact .nil
  | cons n ns ih => exact .cons (.str n) ih
/-- all of a list are of one sort -/
def ints? : List IV → Option (List Int)
  | [] => some []
  | .int i :: r => (ints? r).map (i :: ·)
  | _ => none
def bools? : List IV → Option (List Bool)
  | [] => some []
  | .bl i :: r => (bools? r).map (i :: ·)
  | _ => none
def strs? : List IV → Option (List Str)
  | [] => some []
  | .str i :: r => (strs? r).map (i :: ·)
  | _ => none
theorem ints?_eq : ∀ {xs : List IV} {ns : List Int}, ints? xs = some ns → xs = ns.map IV.int
  | [], _, e => by cases e; rfl
  | .int i :: r, ns, e => by
    unfold ints? at e
    cases q : ints? r with
    | none => rw [q] at e; cases e
    | some ms => rw [q] at e; cases e; rw [ints?_eq q]; rfl
  | .non :: _, _, e => by cases e
  | .bl _ :: _, _, e => by cases e
  | .str _ :: _, _, e => by cases e
  | .tup _ :: _, _, e => by cases e
  | .fl _ :: _, _, e => by cases e
  | .kl _ :: _, _, e => by cases e
  | .exo :: _, _, e => by cases e
  | .ref _ :: _, _, e => by cases e
theorem bools?_eq : ∀ {xs : List IV} {ns : List Bool}, bools? xs = some ns → xs = ns.map IV.bl
  | [], _, e => by cases e; rfl
  | .bl i :: r, ns, e => by
    unfold bools? at e
    cases q : bools? r with
    | none => rw [q] at e; cases e
    | some ms => rw [q] at e; cases e; rw [bools?_eq q]; rfl
  | .non :: _, _, e => by cases e
  | .int _ :: _, _, e => by cases e
  | .str _ :: _, _, e => by cases e
  | .tup _ :: _, _, e => by cases e
  | .fl _ :: _, _, e => by cases e
  | .kl _ :: _, _, e => by cases e
  | .exo :: _, _, e => by cases e
  | .ref _ :: _, _, e => by cases e
theorem strs?_eq : ∀ {xs : List IV} {ns : List Str}, strs? xs = some ns → xs = ns.map IV.str
  | [], _, e => by cases e; rfl
  | .str i :: r, ns, e => by
    unfold strs? at e
    cases q : strs? r with
    | none => rw [q] at e; cases e
    | some ms => rw [q] at e; cases e; rw [strs?_eq q]; rfl
  | .non :: _, _, e => by cases e
  | .int _ :: _, _, e => by cases e
  | .bl _ :: _, _, e => by cases e
  | .tup _ :: _, _, e => by cases e
  | .fl _ :: _, _, e => by cases e
  | .kl _ :: _, _, e => by cases e
  | .exo :: _, _, e => by cases e
  | .ref _ :: _, _, e => by cases e

theorem Rel.lst (R : Rel ι h H) {v : V} {n : Nat} {xs : List IV} (rv : RV ι H v (.ref n)) (e : h[n]? = some (.lst xs)) : ∃ a vs, v = .ref a ∧ ι[n]? = some a ∧ H a = some (.lst vs) ∧ RVs ι H vs xs := by
  cases rv with
  | ref ea => obtain ⟨vs, h1, r⟩ := R.obj n _ _ e ea; exact ⟨_, vs, rfl, ea, h1, r⟩
theorem Rel.dic (R : Rel ι h H) {v : V} {n : Nat} {xs : List (Key × IV)} (rv : RV ι H v (.ref n)) (e : h[n]? = some (.dic xs)) : ∃ a vs, v = .ref a ∧ ι[n]? = some a ∧ H a = some (.dK vs) ∧ RKs ι H vs xs := by
  cases rv with
  | ref ea => obtain ⟨vs, h1, r⟩ := R.obj n _ _ e ea; exact ⟨_, vs, rfl, ea, h1, r⟩
theorem Rel.fdc (R : Rel ι h H) {v : V} {n : Nat} {xs : List (Key × IV)} (rv : RV ι H v (.ref n)) (e : h[n]? = some (.fdc xs)) : ∃ a ob vs, v = .ref a ∧ ι[n]? = some a ∧ H a = some (.frz ob (.dK vs)) ∧ RKs ι H vs xs := by
  cases rv with
  | ref ea => obtain ⟨ob, vs, h1, r⟩ := R.obj n _ _ e ea; exact ⟨_, ob, vs, rfl, ea, h1, r⟩
theorem sq_of {K : PySem.W.Frag} {H : Hp} {a : Addr} {xs : List V} (h : H a = some (.lst xs)) : SqL K H a xs := .inl (.inl h)
theorem st_of {K : PySem.W.Frag} {H : Hp} {a : Addr} {xs : List V} (h : H a = some (.tup xs)) : SqT K H a xs := .inl (.inl h)
theorem sf_of {K : PySem.W.Frag} {H : Hp} {a : Addr} {o : Obj} {xs : List V} (h : H a = some (.frz o (.lst xs))) : SqL K H a xs := .inl (.inr ⟨o, h⟩)
/-- what a list, a tuple holds -/
def seqI (h : IH) : IV → Option (List IV)
  | .tup xs => some xs
  | .fl xs => some xs
  | .ref n => match h[n]? with
    | some (.lst xs) => some xs
    | _ => none
  | _ => none
theorem seq_ok {K : PySem.W.Frag} (R : Rel ι h H) {v : V} {x : IV} {xs : List IV} (rv : RV ι H v x) (e : seqI h x = some xs) : ∃ a vs, v = .ref a ∧ RVs ι H vs xs ∧ (SqL K H a vs ∨ SqT K H a vs) := by
  cases rv with
  | non => cases e
  | bl => cases e
  | int => cases e
  | str => cases e
  | tup e1 r => cases e; exact ⟨_, _, rfl, r, .inr (st_of e1)⟩
  | fl e1 _ r => cases e; exact ⟨_, _, rfl, r, .inl (sf_of e1)⟩
  | kl _ _ => cases e
  | exo _ _ _ => cases e
  | @ref n a ea =>
    unfold seqI at e
    simp only at e
    split at e
    · rename_i ys e2
      cases e
      obtain ⟨a', vs, e3, _, e4, r⟩ := R.lst (.ref ea) e2
      exact ⟨a', vs, e3, r, .inl (sq_of e4)⟩
    · cases e
end

/-! ### data -/
def encH (h : IH) : Nat → IV → Option PyData
  | 0, _ => none
  | _ + 1, .non => some .none
  | _ + 1, .bl b => some (.bool b)
  | _ + 1, .int i => some (.int i)
  | _ + 1, .str s => some (.str s)
  | k + 1, .tup xs => (xs.mapM (encH h k)).map .tuple
  | k + 1, .fl xs => (xs.mapM (encH h k)).map .list
  | _ + 1, .kl _ => none
  | _ + 1, .exo => none
  | k + 1, .ref n => match h[n]? with
    | some (.lst xs) => (xs.mapM (encH h k)).map .list
    | _ => none
theorem encH_dp {K : PySem.W.Frag} {ι : List Addr} {h : IH} {H : Hp} (R : Rel ι h H) : ∀ (k : Nat) (x : IV) (v : V) (d : PyData), RV ι H v x → encH h k x = some d → Dp K H v d
  | 0, _, _, _, _, e => by cases e
  | k + 1, x, v, d, r, e => by
    have all : ∀ (xs : List IV) (vs : List V) (ds : List PyData), RVs ι H vs xs → xs.mapM (encH h k) = some ds → DpAll K H vs ds := by
      intro xs
      induction xs with
      | nil => intro vs ds r e; cases r; cases e; exact .nil
      | cons y ys ih =>
        intro vs ds r e
        cases r with
        | cons a r =>
          rw [List.mapM_cons] at e
          cases e1 : encH h k y with
          | none => rw [e1] at e; cases e
          | some d1 =>
            rw [e1] at e
            cases e2 : ys.mapM (encH h k) with
            | none => rw [e2] at e; cases e
            | some ds1 => rw [e2] at e; cases e; exact .cons (encH_dp R k y _ d1 a e1) (ih _ _ r e2)
    cases r with
    | non => cases e; exact .non
    | bl b => cases e; exact .bl b
    | int i => cases e; exact .int i
    | str s => cases e; exact .str s
    | @tup a vs xs e1 r =>
      unfold encH at e
      cases q : xs.mapM (encH h k) with
      | none => rw [q] at e; cases e
      | some ds => rw [q] at e; cases e; exact .tup (st_of e1) (all _ _ _ r q)
    | @fl a o vs xs e1 _ r =>
      unfold encH at e
      cases q : xs.mapM (encH h k) with
      | none => rw [q] at e; cases e
      | some ds => rw [q] at e; cases e; exact .lst (sf_of e1) (all _ _ _ r q)
    | kl _ _ => cases e
    | exo _ _ _ => cases e
    | @ref n a ea =>
      unfold encH at e
      split at e
      · rename_i xs e2
        obtain ⟨a', vs, e3, _, e4, r⟩ := R.lst (.ref ea) e2
        cases e3
        cases q : xs.mapM (encH h k) with
        | none => rw [q] at e; cases e
        | some ds => rw [q] at e; cases e; exact .lst (sq_of e4) (all _ _ _ r q)
      · cases e

/-! ### operators -/
def addI : IV → IV → M IV
  | .int i, .int j => M.pure (.int (i + j))
  | .str a, .str b => if a.length + b.length ≤ lim then M.pure (.str (a ++ b)) else stuck
  | .tup xs, .tup ys => if xs.length + ys.length ≤ lim then M.pure (.tup (xs ++ ys)) else stuck
  | .ref m, .ref n => fun h => match h[m]?, h[n]? with
    | some (.lst xs), some (.lst ys) => mkL (xs ++ ys) h
    | _, _ => none
  | _, _ => stuck
def rAddS : R2 := fun x y H Q => ∃ i j, x = .str i ∧ y = .str j ∧ i.length + j.length ≤ sizeLine ∧ Q (.str (i ++ j)) H
def rAddI (K : PySem.W.Frag) : R2 := fun x y H Q => rI0 (fun i j => .int (i + j)) x y H Q ∨ rAddS x y H Q ∨ rCatA K x y H Q ∨ rCat x y H Q
section
variable {X : Cx} {W : ExW}
theorem op_addI : OpR X (binaryOp .Add) (rAddI X.K) := OpR.or op_add (OpR.or op_add_str (OpR.or op_catA op_cat))
theorem run_if {α β : Type} {rel : List Addr → Hp → β → α → Prop} {c : Prop} [Decidable c] {m : M α} {h : IH} {ι : List Addr} {H : Hp} {Q : β → Hp → Prop} (r : Run W rel ((if c then m else stuck) h) ι H Q) : c ∧ Run W rel (m h) ι H Q := by
  by_cases hc : c
  · rw [if_pos hc] at r; exact ⟨hc, r⟩
  · rw [if_neg hc] at r; exact r.elim
theorem ri_add : RI2 W (rAddI X.K) addI := by
  intro ι h H v w x y Q R rv rw r
  cases rv with
  | int i =>
    cases rw with
    | int j => exact .inl ⟨_, _, rfl, rfl, run_pure r R (.int _)⟩
    | _ => exact False.elim r
  | str a =>
    cases rw with
    | str b =>
      obtain ⟨hl, r⟩ := run_if r
      have hz := sz_of hl
      have q := run_pure (v := V.str (a ++ b)) r R (.str (a ++ b))
      exact Or.inr (Or.inl ⟨a, b, rfl, rfl, hz, q⟩)
    | _ => exact False.elim r
  | @tup a vs xs e1 r1 =>
    cases rw with
    | @tup b ws ys e2 r2 =>
      obtain ⟨hl, r⟩ := run_if r
      refine .inr (.inr (.inl ⟨a, b, vs, ws, rfl, rfl, st_of e1, st_of e2, by rw [r1.length, r2.length]; exact sz_of hl, fun z => ?_, fun _ z => ?_, fun _ _ p hp => ?_⟩))
      · subst z; cases r1; rw [List.nil_append] at r; exact run_pure r R (.tup e2 r2)
      · subst z; cases r2; rw [List.append_nil] at r; exact run_pure r R (.tup e1 r1)
      · exact r ι _ _ (R.new hp) (fr_new hp) (.tup upd_same (R.monos (fr_new hp) (r1.append r2)))
    | _ => exact False.elim r
  | @ref n a ea =>
    cases rw with
    | @ref m b eb =>
      have r' : Run W RV (match h[n]?, h[m]? with
        | some (.lst xs), some (.lst ys) => mkL (xs ++ ys) h
        | _, _ => none) ι H Q := r
      split at r'
      · rename_i xs ys e1 e2
        obtain ⟨a', vs, q1, _, q2, r1⟩ := R.lst (.ref ea) e1
        obtain ⟨b', ws, q3, _, q4, r2⟩ := R.lst (.ref eb) e2
        cases q1; cases q3
        obtain ⟨hl, k⟩ := new_lst R (r1.append r2) r'
        rw [List.length_append] at hl
        exact .inr (.inr (.inr ⟨_, _, vs, ws, rfl, rfl, q2, q4, sz_of hl, k⟩))
      · exact False.elim r'
    | _ => exact False.elim r
  | _ => exact False.elim r
/-- two ints; two ints within bounds -/
def intI (f : Int → Int → IV) : IV → IV → M IV
  | .int i, .int j => M.pure (f i j)
  | _, _ => stuck
def intC (c : Int → Int → Bool) (f : Int → Int → IV) : IV → IV → M IV
  | .int i, .int j => if c i j = true then M.pure (f i j) else stuck
  | _, _ => stuck
theorem ri_int {g : Int → Int → V} {f : Int → Int → IV} (hf : ∀ ι H i j, RV ι H (g i j) (f i j)) : RI2 W (rI0 g) (intI f) := by
  intro ι h H v w x y Q R rv rw r
  cases rv with
  | int i =>
    cases rw with
    | int j => exact ⟨i, j, rfl, rfl, run_pure r R (hf _ _ _ _)⟩
    | _ => exact False.elim r
  | _ => exact False.elim r
theorem ri_intC {C : Int → Int → Prop} {c : Int → Int → Bool} {g : Int → Int → V} {f : Int → Int → IV} (hf : ∀ ι H i j, RV ι H (g i j) (f i j)) (hc : ∀ i j, c i j = true → C i j) : RI2 W (rI C g) (intC c f) := by
  intro ι h H v w x y Q R rv rw r
  cases rv with
  | int i =>
    cases rw with
    | int j =>
      obtain ⟨hl, r⟩ := run_if r
      exact ⟨i, j, rfl, rfl, hc _ _ hl, run_pure r R (hf _ _ _ _)⟩
    | _ => exact False.elim r
  | _ => exact False.elim r
end
@[irreducible] def mulLim : Nat := 1000000
@[irreducible] def divLim : Nat := 9000
@[irreducible] def powLim : Int := 1000000
@[irreducible] def powBase : Nat := 18446744073709551616
@[irreducible] def wordLim : Int := 18446744073709551616
def smallI (i : Int) : Bool := decide (-wordLim < i) && decide (i < wordLim)
def mulOk (i j : Int) : Bool := smallI i || smallI j || decide (i.natAbs.log2 + j.natAbs.log2 < mulLim)
theorem smallI_ok {i : Int} (e : smallI i = true) : -(2 ^ 64) < i ∧ i < 2 ^ 64 := by
  obtain ⟨e1, e2⟩ := Bool.and_eq_true_iff.mp e
  have e1 := of_decide_eq_true e1
  have e2 := of_decide_eq_true e2
  unfold wordLim at e1 e2
  exact ⟨by omega, by omega⟩
def divOk (_ j : Int) : Bool := decide (0 < j) && decide (j.natAbs.log2 < divLim)
def modOk (_ j : Int) : Bool := decide (0 < j)
def powOk (i j : Int) : Bool := decide (0 ≤ j) && decide (j ≤ powLim) && decide (i.natAbs < powBase)
def shrOk (_ j : Int) : Bool := decide (0 ≤ j)
def subI : IV → IV → M IV := intI fun i j => .int (i - j)
def mulI : IV → IV → M IV
  | .int i, .int j => if mulOk i j = true then M.pure (.int (i * j)) else stuck
  | .ref m, .int k => fun h => match h[m]? with
    | some (.lst xs) => if k ≤ powLim ∧ -powLim ≤ k then mkL ((List.replicate k.toNat xs).flatten) h else none
    | _ => none
  | _, _ => stuck
def divI : IV → IV → M IV := intC divOk fun i j => .int (i / j)
def modI : IV → IV → M IV := intC modOk fun i j => .int (i % j)
def powI : IV → IV → M IV := intC powOk fun i j => .int (i ^ j.toNat)
def shlI : IV → IV → M IV := intC powOk fun i j => .int (i * 2 ^ j.toNat)
def shrI : IV → IV → M IV := intC shrOk fun i j => .int (i / 2 ^ j.toNat)
def andI : IV → IV → M IV := intI fun i j => .int (Builtin.bitAnd i j)
def orI : IV → IV → M IV := intI fun i j => .int (Builtin.bitOr i j)
def xorI : IV → IV → M IV := intI fun i j => .int (Builtin.bitXor i j)
def ordI (f : Int → Int → Bool) (g : Str → Str → Bool) : IV → IV → M IV
  | .int i, .int j => M.pure (.bl (f i j))
  | .str a, .str b => M.pure (.bl (g a b))
  | _, _ => stuck
def sLt (a b : Str) : Bool := decide (a.cps.toList < b.cps.toList)
def ltI : IV → IV → M IV := ordI (fun i j => decide (i < j)) sLt
def leI : IV → IV → M IV := ordI (fun i j => decide (i ≤ j)) (fun a b => !sLt b a)
def gtI : IV → IV → M IV := ordI (fun i j => decide (j < i)) (fun a b => sLt b a)
def geI : IV → IV → M IV := ordI (fun i j => decide (j ≤ i)) (fun a b => !sLt a b)
def eqG (h : IH) (x y : IV) : Option Bool := match encH h 66 x, encH h 66 y with
  | some d, some e => if SeqAt.shaped d = true ∧ SeqAt.shaped e = true then some (PyData.eqv d e) else none
  | _, _ => none
/-- x == y -/
def eqB (h : IH) : IV → IV → Option Bool
  | .int i, .int j => some (decide (i = j))
  | .str a, .str b => some (decide (a = b))
  | x, y => eqG h x y
def eqI (x y : IV) : M IV := fun h => (eqB h x y).map fun b => (.ok (.bl b), h)
def neI (x y : IV) : M IV := fun h => (eqB h x y).map fun b => (.ok (.bl (!b)), h)
def isNone : IV → Bool
  | .non => true
  | _ => false
def isN : IV → M IV := fun x => M.pure (.bl (isNone x))
def isNN : IV → M IV := fun x => M.pure (.bl (!isNone x))
def negI : IV → M IV
  | .int i => M.pure (.int (-i))
  | _ => stuck
section
variable {X : Cx} {W : ExW} {a b : Expr} {ma mb : Env → M IV} {pos : Pos}
theorem pei_add (ha : PEI X W a ma) (hb : PEI X W b mb) : PEI X W (.BinOp a .Add b pos) (Bin addI ma mb) := pei_op ri_add op_addI ha hb
theorem pei_sub (ha : PEI X W a ma) (hb : PEI X W b mb) : PEI X W (.BinOp a .Sub b pos) (Bin subI ma mb) := pei_op (ri_int fun _ _ _ _ => .int _) op_sub ha hb
theorem pei_mul (ha : PEI X W a ma) (hb : PEI X W b mb) : PEI X W (.BinOp a .Mult b pos) (Bin mulI ma mb) := by
  refine pei_op (r := fun x y H Q => rI CMul (fun i j => .int (i * j)) x y H Q ∨ rI CMulW (fun i j => .int (i * j)) x y H Q ∨ rRep x y H Q) ?_ (L2.OpR.or op_mul (L2.OpR.or op_mulW op_rep)) ha hb
  intro ι h H v w x y Q R rv rw r
  cases rv with
  | int i =>
    cases rw with
    | int j =>
      obtain ⟨hl, r⟩ := run_if r
      have q := run_pure (v := V.int (i * j)) r R (.int _)
      rcases Bool.or_eq_true_iff.mp hl with hl | hl
      · refine .inl ⟨i, j, rfl, rfl, ?_, q⟩
        rcases Bool.or_eq_true_iff.mp hl with hl | hl
        · exact .inl (smallI_ok hl)
        · exact .inr (smallI_ok hl)
      · refine .inr (.inl ⟨i, j, rfl, rfl, ?_, q⟩)
        have e := of_decide_eq_true hl
        unfold mulLim at e
        exact e
    | _ => exact False.elim r
  | @ref n a ea =>
    cases rw with
    | int k =>
      have r' : Run W RV (match h[n]? with
        | some (.lst xs) => if k ≤ powLim ∧ -powLim ≤ k then mkL ((List.replicate k.toNat xs).flatten) h else none
        | _ => none) ι H Q := r
      split at r'
      · rename_i xs e1
        obtain ⟨a', vs, q1, _, q2, r1⟩ := R.lst (.ref ea) e1
        cases q1
        split at r'
        · rename_i hk
          unfold powLim at hk
          have rr : ∀ n : Nat, RVs ι H (List.replicate n vs).flatten (List.replicate n xs).flatten := by
            intro n
            induction n with
            | zero => exact .nil
            | succ n ih => rw [List.replicate_succ, List.replicate_succ]; exact r1.append ih
          obtain ⟨hl, kk⟩ := new_lst R (rr k.toNat) r'
          refine .inr (.inr ⟨_, k, vs, rfl, rfl, q2, by omega, by omega, ?_, ?_⟩)
          · refine sz_of (Nat.le_trans (Nat.le_of_eq ?_) hl)
            simp [List.length_flatten, Nat.mul_comm]
          · exact kk
        · exact False.elim r'
      · exact False.elim r'
    | _ => exact False.elim r
  | _ => exact False.elim r
theorem pei_div (ha : PEI X W a ma) (hb : PEI X W b mb) : PEI X W (.BinOp a .FloorDiv b pos) (Bin divI ma mb) := pei_op (ri_intC (fun _ _ _ _ => .int _) fun i j e => by
  obtain ⟨e1, e2⟩ := Bool.and_eq_true_iff.mp e
  have e2 := of_decide_eq_true e2
  unfold divLim at e2
  exact ⟨of_decide_eq_true e1, e2⟩) op_fdivW ha hb
theorem pei_mod (ha : PEI X W a ma) (hb : PEI X W b mb) : PEI X W (.BinOp a .Mod b pos) (Bin modI ma mb) := pei_op (ri_intC (fun _ _ _ _ => .int _) fun i j e => of_decide_eq_true e) op_mod ha hb
theorem powOk_ok {i j : Int} (e : powOk i j = true) : CPow i j := by
  obtain ⟨e1, e2⟩ := Bool.and_eq_true_iff.mp e
  obtain ⟨e0, e1⟩ := Bool.and_eq_true_iff.mp e1
  have e1 := of_decide_eq_true e1
  have e2 := of_decide_eq_true e2
  unfold powLim at e1
  unfold powBase at e2
  exact ⟨of_decide_eq_true e0, e1, e2⟩
theorem pei_pow (ha : PEI X W a ma) (hb : PEI X W b mb) : PEI X W (.BinOp a .Pow b pos) (Bin powI ma mb) := pei_op (ri_intC (fun _ _ _ _ => .int _) fun i j e => powOk_ok e) op_pow ha hb
theorem pei_shl (ha : PEI X W a ma) (hb : PEI X W b mb) : PEI X W (.BinOp a .LShift b pos) (Bin shlI ma mb) := pei_op (ri_intC (fun _ _ _ _ => .int _) fun i j e => powOk_ok e) op_shl ha hb
theorem pei_shr (ha : PEI X W a ma) (hb : PEI X W b mb) : PEI X W (.BinOp a .RShift b pos) (Bin shrI ma mb) := pei_op (ri_intC (fun _ _ _ _ => .int _) fun i j e => of_decide_eq_true e) op_shr ha hb
theorem pei_band (ha : PEI X W a ma) (hb : PEI X W b mb) : PEI X W (.BinOp a .BitAnd b pos) (Bin andI ma mb) := pei_op (ri_int fun _ _ _ _ => .int _) op_and ha hb
theorem pei_bor (ha : PEI X W a ma) (hb : PEI X W b mb) : PEI X W (.BinOp a .BitOr b pos) (Bin orI ma mb) := pei_op (ri_int fun _ _ _ _ => .int _) op_or ha hb
theorem pei_bxor (ha : PEI X W a ma) (hb : PEI X W b mb) : PEI X W (.BinOp a .BitXor b pos) (Bin xorI ma mb) := pei_op (ri_int fun _ _ _ _ => .int _) op_xor ha hb
theorem ri_ord {f : Int → Int → Bool} {g : Str → Str → Bool} {rs : R2} (hs : ∀ a b H Q, Q (.bl (g a b)) H → rs (.str a) (.str b) H Q) : RI2 W (fun x y H Q => rI0 (fun i j => .bl (f i j)) x y H Q ∨ rs x y H Q) (ordI f g) := by
  intro ι h H v w x y Q R rv rw r
  cases rv with
  | int i =>
    cases rw with
    | int j => exact .inl ⟨i, j, rfl, rfl, run_pure r R (.bl _)⟩
    | _ => exact False.elim r
  | str i =>
    cases rw with
    | str j => exact .inr (hs _ _ _ _ (run_pure r R (.bl _)))
    | _ => exact False.elim r
  | _ => exact False.elim r
theorem pei_lt (ha : PEI X W a ma) (hb : PEI X W b mb) : PEI X W (.Compare a [.Lt] [b] pos) (Bin ltI ma mb) := pei_cmp (ri_ord fun a b H Q q => ⟨a, b, rfl, rfl, q⟩) (L2.OpR.or op_lt op_lt_str) ha hb (nomark _)
theorem pei_le (ha : PEI X W a ma) (hb : PEI X W b mb) : PEI X W (.Compare a [.LtE] [b] pos) (Bin leI ma mb) := pei_cmp (ri_ord fun a b H Q q => ⟨a, b, rfl, rfl, q⟩) (L2.OpR.or op_le op_le_str) ha hb (nomark _)
theorem pei_gt (ha : PEI X W a ma) (hb : PEI X W b mb) : PEI X W (.Compare a [.Gt] [b] pos) (Bin gtI ma mb) := pei_cmp (ri_ord fun a b H Q q => ⟨a, b, rfl, rfl, q⟩) (L2.OpR.or op_gt op_gt_str) ha hb (nomark _)
theorem pei_ge (ha : PEI X W a ma) (hb : PEI X W b mb) : PEI X W (.Compare a [.GtE] [b] pos) (Bin geI ma mb) := pei_cmp (ri_ord fun a b H Q q => ⟨a, b, rfl, rfl, q⟩) (L2.OpR.or op_ge op_ge_str) ha hb (nomark _)
theorem eqB_dp {K : PySem.W.Frag} {ι : List Addr} {h : IH} {H : Hp} (R : Rel ι h H) {v w : V} {x y : IV} {b : Bool} (rv : RV ι H v x) (rw : RV ι H w y) (e : eqB h x y = some b) : (scal v w = true ∧ decide (v = w) = b) ∨ ∃ d d', Dp K H v d ∧ Dp K H w d' ∧ SeqAt.shaped d = true ∧ SeqAt.shaped d' = true ∧ PyData.eqv d d' = b := by
  have gen : eqG h x y = some b → ∃ d d', Dp K H v d ∧ Dp K H w d' ∧ SeqAt.shaped d = true ∧ SeqAt.shaped d' = true ∧ PyData.eqv d d' = b := fun e => by
    unfold eqG at e
    split at e
    · rename_i d d' e1 e2
      split at e
      · rename_i hs
        cases e
        exact ⟨d, d', encH_dp R _ _ _ _ rv e1, encH_dp R _ _ _ _ rw e2, hs.1, hs.2, rfl⟩
      · cases e
    · cases e
  cases rv with
  | int i => cases rw with
    | int j => cases e; exact .inl ⟨rfl, by simp⟩
    | _ => exact .inr (gen e)
  | str i => cases rw with
    | str j => cases e; exact .inl ⟨rfl, by simp⟩
    | _ => exact .inr (gen e)
  | _ => exact .inr (gen e)
theorem ri_eq : RI2 W (fun x y H Q => rEq x y H Q ∨ rEqD X.K x y H Q) eqI := by
  intro ι h H v w x y Q R rv rw r
  unfold eqI at r
  cases e : eqB h x y with
  | none => rw [e] at r; exact r.elim
  | some b =>
    rw [e] at r
    rcases eqB_dp (K := X.K) R rv rw e with ⟨h1, h2⟩ | ⟨d, d', h1, h2, h3, h4, h5⟩
    · exact .inl ⟨h1, by rw [h2]; exact run_pure (x := IV.bl _) r R (.bl _)⟩
    · exact .inr ⟨d, d', h1, h2, h3, h4, by rw [h5]; exact run_pure (x := IV.bl _) r R (.bl _)⟩
theorem ri_ne : RI2 W (fun x y H Q => rNe x y H Q ∨ rNeD X.K x y H Q) neI := by
  intro ι h H v w x y Q R rv rw r
  unfold neI at r
  cases e : eqB h x y with
  | none => rw [e] at r; exact r.elim
  | some b =>
    rw [e] at r
    rcases eqB_dp (K := X.K) R rv rw e with ⟨h1, h2⟩ | ⟨d, d', h1, h2, h3, h4, h5⟩
    · exact .inl ⟨h1, by rw [h2]; exact run_pure (x := IV.bl _) r R (.bl _)⟩
    · exact .inr ⟨d, d', h1, h2, h3, h4, by rw [h5]; exact run_pure (x := IV.bl _) r R (.bl _)⟩
theorem pei_eq (hu : X.A.units + 65 < cLine) (ha : PEI X W a ma) (hb : PEI X W b mb) : PEI X W (.Compare a [.Eq] [b] pos) (Bin eqI ma mb) := pei_cmp ri_eq (L2.OpR.or op_eq (op_eqD (by omega))) ha hb (nomark _)
theorem pei_ne (hu : X.A.units + 65 < cLine) (ha : PEI X W a ma) (hb : PEI X W b mb) : PEI X W (.Compare a [.NotEq] [b] pos) (Bin neI ma mb) := pei_cmp ri_ne (L2.OpR.or op_ne (op_neD (by omega))) ha hb (nomark _)
theorem dec_none {ι : List Addr} {H : Hp} {v : V} {x : IV} (rv : RV ι H v x) : decide (v = V.non) = isNone x := by cases rv <;> rfl
theorem pei_isN {j pos'} (ha : PEI X W a ma) : PEI X W (.Compare a [.Is] [.Constant .none j pos'] pos) (Un isN ma) := PE.weak (pe_cmp (pc_isN ha)) fun σ H Q ⟨ι, h, env, R, S, r⟩ =>
  ⟨ι, h, env, R, S, (run_bind (rel1 := RV) r).mono fun v H1 ⟨ι1, h1, x, R1, F1, rv, r1⟩ => by rw [dec_none rv]; exact run_pure r1 R1 (.bl _)⟩
theorem pei_isNN {j pos'} (ha : PEI X W a ma) : PEI X W (.Compare a [.IsNot] [.Constant .none j pos'] pos) (Un isNN ma) := PE.weak (pe_cmp (pc_notN ha)) fun σ H Q ⟨ι, h, env, R, S, r⟩ =>
  ⟨ι, h, env, R, S, (run_bind (rel1 := RV) r).mono fun v H1 ⟨ι1, h1, x, R1, F1, rv, r1⟩ => by rw [dec_none rv]; exact run_pure r1 R1 (.bl _)⟩
theorem pei_neg (ha : PEI X W a ma) : PEI X W (.UnaryOp .USub a pos) (Un negI ma) := pei_un (r := rU fun i => .int (-i)) (by
  intro ι h H v x Q R rv r
  cases rv with
  | int i => exact ⟨i, rfl, run_pure r R (.int _)⟩
  | _ => exact False.elim r) un_neg ha
end
end Iv
set_option Elab.async false
set_option linter.all false
set_option maxRecDepth 100000
set_option maxHeartbeats 2000000
set_option autoImplicit false
namespace Iv
open PySem L2
variable [KL]

/-! ### truth, tests -/
def truth (h : IH) : IV → Option Bool
  | .non => some false
  | .bl b => some b
  | .int i => some (i != 0)
  | .str s => if s.length ≤ lim then some ((s.length : Int) != 0) else none
  | .tup xs => some (!xs.isEmpty)
  | .fl xs => some (!xs.isEmpty)
  | .kl _ => none
  | .exo => none
  | .ref n => match h[n]? with
    | some (.lst xs) => some (!xs.isEmpty)
    | some (.dic kvs) => some (!kvs.isEmpty)
    | some (.fdc _) => none
    | none => none
def truM (x : IV) : M Bool := fun h => (truth h x).map fun b => (.ok b, h)
theorem RVs.isEmpty {ι : List Addr} {H : Hp} {vs : List V} {xs : List IV} (r : RVs ι H vs xs) : vs.isEmpty = xs.isEmpty := by cases r <;> rfl
theorem truth_ok {K : PySem.W.Frag} {ι : List Addr} {h : IH} {H : Hp} (R : Rel ι h H) {v : V} {x : IV} {b : Bool} (rv : RV ι H v x) (e : truth h x = some b) : TruV K v H b := by
  cases rv with
  | non => cases e; rfl
  | bl b => cases e; rfl
  | int i => cases e; rfl
  | str s =>
    have e' : (if s.length ≤ lim then some ((s.length : Int) != 0) else none) = some b := e
    split at e'
    · rename_i hl; cases e'; exact ⟨sz_of hl, rfl⟩
    · cases e'
  | tup e1 r => cases e; exact .inr (.inl ⟨_, st_of e1, by rw [r.isEmpty]⟩)
  | fl e1 _ r => cases e; exact .inl ⟨_, sf_of e1, by rw [r.isEmpty]⟩
  | kl _ _ => cases e
  | exo _ _ _ => cases e
  | @ref n a ea =>
    have e' : (match h[n]? with
      | some (.lst xs) => some (!xs.isEmpty)
      | some (.dic kvs) => some (!kvs.isEmpty)
      | some (.fdc _) => none
      | none => none) = some b := e
    split at e'
    · rename_i xs e2; cases e'
      obtain ⟨a', vs, q1, _, q2, r⟩ := R.lst (.ref ea) e2
      cases q1
      exact .inl ⟨vs, sq_of q2, by rw [r.isEmpty]⟩
    · rename_i xs e2; cases e'
      obtain ⟨a', vs, q1, _, q2, r⟩ := R.dic (.ref ea) e2
      cases q1
      exact .inr (.inr ⟨vs, q2, by cases r <;> rfl⟩)
    · cases e'
    · cases e'
/-- the truth of a value -/
def Tru (m : Env → M IV) : Env → M Bool := fun env => M.bind (m env) truM
def asB : IV → M Bool
  | .bl b => M.pure b
  | _ => stuck
def Tst (m : Env → M IV) : Env → M Bool := fun env => M.bind (m env) asB
def NotT (m : Env → M Bool) : Env → M Bool := fun env => M.bind (m env) fun b => M.pure (!b)
def AndT (m n : Env → M Bool) : Env → M Bool := fun env => M.bind (m env) fun b => if b = true then n env else M.pure false
def OrT (m n : Env → M Bool) : Env → M Bool := fun env => M.bind (m env) fun b => if b = true then M.pure true else n env
def IfE (c : Env → M Bool) (m n : Env → M IV) : Env → M IV := fun env => M.bind (c env) fun b => if b = true then m env else n env
def OrV (m n : Env → M IV) : Env → M IV := fun env => M.bind (m env) fun x => M.bind (truM x) fun b => if b = true then M.pure x else n env
def AndV (m n : Env → M IV) : Env → M IV := fun env => M.bind (m env) fun x => M.bind (truM x) fun b => if b = true then n env else M.pure x
def NotV (m : Env → M IV) : Env → M IV := fun env => M.bind (m env) fun x => M.bind (truM x) fun b => M.pure (.bl (!b))
section
variable {X : Cx} {W : ExW} {e a b c : Expr} {rest : List Expr} {m n : Env → M IV} {t u : Env → M Bool} {pos : Pos} {ι : List Addr} {h : IH} {H : Hp}
theorem run_tru {α β : Type} {rel : List Addr → Hp → β → α → Prop} {K : PySem.W.Frag} {v : V} {x : IV} {k : Bool → M α} {Q : β → Hp → Prop} (R : Rel ι h H) (rv : RV ι H v x) (r : Run W rel (M.bind (truM x) k h) ι H Q) :
    ∃ b, TruV K v H b ∧ Run W rel (k b h) ι H Q := by
  cases e : truth h x with
  | none =>
    have : M.bind (truM x) k h = none := by unfold M.bind truM; rw [e]; rfl
    rw [this] at r; exact r.elim
  | some b =>
    have : M.bind (truM x) k h = k b h := by unfold M.bind truM; rw [e]; rfl
    rw [this] at r
    exact ⟨b, truth_ok R rv e, r⟩
theorem pti_tru (ha : PEI X W a m) (he : ∀ whole, isTrue a X.env whole = (do let v ← whole; standAt a.pos; holding [v] (truthy v)) := by intro _; rfl) : PTI X W a (Tru m) := PT.weak (pt_truth ha he) fun σ H Q ⟨ι, h, env, R, S, r⟩ =>
  ⟨ι, h, env, R, S, (run_bind (rel1 := RV) r).mono fun v H1 ⟨ι1, h1, x, R1, F1, rv, r1⟩ => by
    cases e : truth h1 x with
    | none => unfold truM at r1; rw [e] at r1; exact r1.elim
    | some b => unfold truM at r1; rw [e] at r1; exact ⟨b, truth_ok R1 rv e, r1 ι1 H1 b R1 (Fr.refl _ _) rfl⟩⟩
theorem pti_of_pe {te : TE} {t : TT} (hp : PT X e t) (k : ∀ σ H Q, tTest te σ H Q → t σ H Q) (hw : ∀ σ H Q, tI W m σ H Q → te σ H Q) : PTI X W e (Tst m) := PT.weak hp fun σ H Q ⟨ι, h, env, R, S, r⟩ => by
  refine k _ _ _ (hw _ _ _ ⟨ι, h, env, R, S, (run_bind (rel1 := RV) r).mono fun v H1 ⟨ι1, h1, x, R1, F1, rv, r1⟩ => ?_⟩)
  cases rv with
  | bl b => exact ⟨b, rfl, r1 ι1 H1 b R1 (Fr.refl _ _) rfl⟩
  | _ => exact r1.elim
theorem pti_cmp {op : CmpOp} {r : R2} {g : IV → IV → M IV} (hr : RI2 W r g) (ho : OpR X (compareOp op) r) (ha : PEI X W a m) (hb : PEI X W b n) (hm : behindInMarks op b = false) : PTI X W (.Compare a [op] [b] pos) (Tst (Bin g m n)) :=
  pti_of_pe (pt_cmpR ho ha hb hm) (fun _ _ _ q => q) fun _ _ _ q => tI_bin hr q
theorem pti_lt (ha : PEI X W a m) (hb : PEI X W b n) : PTI X W (.Compare a [.Lt] [b] pos) (Tst (Bin ltI m n)) := pti_cmp (ri_ord fun a b H Q q => ⟨a, b, rfl, rfl, q⟩) (L2.OpR.or op_lt op_lt_str) ha hb (nomark _)
theorem pti_le (ha : PEI X W a m) (hb : PEI X W b n) : PTI X W (.Compare a [.LtE] [b] pos) (Tst (Bin leI m n)) := pti_cmp (ri_ord fun a b H Q q => ⟨a, b, rfl, rfl, q⟩) (L2.OpR.or op_le op_le_str) ha hb (nomark _)
theorem pti_gt (ha : PEI X W a m) (hb : PEI X W b n) : PTI X W (.Compare a [.Gt] [b] pos) (Tst (Bin gtI m n)) := pti_cmp (ri_ord fun a b H Q q => ⟨a, b, rfl, rfl, q⟩) (L2.OpR.or op_gt op_gt_str) ha hb (nomark _)
theorem pti_ge (ha : PEI X W a m) (hb : PEI X W b n) : PTI X W (.Compare a [.GtE] [b] pos) (Tst (Bin geI m n)) := pti_cmp (ri_ord fun a b H Q q => ⟨a, b, rfl, rfl, q⟩) (L2.OpR.or op_ge op_ge_str) ha hb (nomark _)
theorem pti_eq (hu : X.A.units + 65 < cLine) (ha : PEI X W a m) (hb : PEI X W b n) : PTI X W (.Compare a [.Eq] [b] pos) (Tst (Bin eqI m n)) := pti_cmp ri_eq (L2.OpR.or op_eq (op_eqD (by omega))) ha hb (nomark _)
theorem pti_ne (hu : X.A.units + 65 < cLine) (ha : PEI X W a m) (hb : PEI X W b n) : PTI X W (.Compare a [.NotEq] [b] pos) (Tst (Bin neI m n)) := pti_cmp ri_ne (L2.OpR.or op_ne (op_neD (by omega))) ha hb (nomark _)
theorem pti_isN {j pos'} (ha : PEI X W a m) : PTI X W (.Compare a [.Is] [.Constant .none j pos'] pos) (Tst (Un isN m)) := by
  refine PT.weak (pt_cmp (pc_isN ha)) fun σ H Q ⟨ι, h, env, R, S, r⟩ => ?_
  have r := run_bind (rel1 := RV) (m := Un isN m env) (k := asB) r
  refine ⟨ι, h, env, R, S, (run_bind (rel1 := RV) r).mono fun v H1 ⟨ι1, h1, x, R1, F1, rv, r1⟩ => ?_⟩
  rw [dec_none rv]
  obtain ⟨ι2, h2, y, R2, F2, ry, r2⟩ := run_pure r1 R1 (.bl _)
  cases ry
  exact ⟨_, rfl, r2 ι2 H1 _ R2 (Fr.refl _ _) rfl⟩
theorem pti_isNN {j pos'} (ha : PEI X W a m) : PTI X W (.Compare a [.IsNot] [.Constant .none j pos'] pos) (Tst (Un isNN m)) := by
  refine PT.weak (pt_cmp (pc_notN ha)) fun σ H Q ⟨ι, h, env, R, S, r⟩ => ?_
  have r := run_bind (rel1 := RV) (m := Un isNN m env) (k := asB) r
  refine ⟨ι, h, env, R, S, (run_bind (rel1 := RV) r).mono fun v H1 ⟨ι1, h1, x, R1, F1, rv, r1⟩ => ?_⟩
  rw [dec_none rv]
  obtain ⟨ι2, h2, y, R2, F2, ry, r2⟩ := run_pure r1 R1 (.bl _)
  cases ry
  exact ⟨_, rfl, r2 ι2 H1 _ R2 (Fr.refl _ _) rfl⟩
theorem tT_bind {γ : Type} {k : Bool → Env → M γ} {δ : Type} {rel : List Addr → Hp → δ → γ → Prop} {σ : L2.St} {Q : δ → Hp → Prop} (s : ∃ ι h env, Rel ι h H ∧ RSt ι H σ env ∧ Run W rel (M.bind (t env) (fun b => k b env) h) ι H Q) :
    tIT W t σ H fun b H1 => ∃ ι h env, Rel ι h H1 ∧ RSt ι H1 σ env ∧ Run W rel (k b env h) ι H1 Q := by
  obtain ⟨ι, h, env, R, S, r⟩ := s
  refine ⟨ι, h, env, R, S, (run_bind (rel1 := RB) r).mono fun b H1 ⟨ι1, h1, x, R1, F1, rv, r1⟩ => ?_⟩
  cases (show b = x from rv)
  exact ⟨ι1, h1, env, R1, S.mono R F1, r1⟩
theorem pti_not (ha : PTI X W a t) : PTI X W (.UnaryOp .Not a pos) (NotT t) := PT.weak (pt_not ha) fun σ H Q s =>
  let ⟨ι, h, env, R, S, r⟩ := tT_bind (k := fun b _ => M.pure (!b)) s
  ⟨ι, h, env, R, S, r.mono fun b H1 ⟨ι1, h1, env1, R1, S1, r1⟩ => r1 ι1 H1 _ R1 (Fr.refl _ _) rfl⟩
def PWI (X : Cx) (W : ExW) (e : Expr) (m : Env → M Bool) : Prop := PW X e (tIT W m)
theorem PWI.pt (h : PWI X W e t) : PTI X W e t := PW.pt h
theorem pwi_and1 (ha : PTI X W a t) : PWI X W (.BoolOp .And [a] pos) t := pw_and1 ha
theorem pwi_or1 (ha : PTI X W a t) : PWI X W (.BoolOp .Or [a] pos) t := pw_or1 ha
theorem pwi_and (ha : PTI X W a t) (hb : PWI X W (.BoolOp .And (b :: rest) pos) u) : PWI X W (.BoolOp .And (a :: b :: rest) pos) (AndT t u) := PW.weak (pw_and ha hb) fun σ H Q s =>
  let ⟨ι, h, env, R, S, r⟩ := tT_bind (k := fun b env => if b = true then u env else M.pure false) s
  ⟨ι, h, env, R, S, r.mono fun b H1 ⟨ι1, h1, env1, R1, S1, r1⟩ => by
    cases b with
    | true => exact iteT ⟨ι1, h1, env1, R1, S1, r1⟩
    | false => exact iteF (r1 ι1 H1 _ R1 (Fr.refl _ _) rfl)⟩
theorem pwi_or (ha : PTI X W a t) (hb : PWI X W (.BoolOp .Or (b :: rest) pos) u) : PWI X W (.BoolOp .Or (a :: b :: rest) pos) (OrT t u) := PW.weak (pw_or ha hb) fun σ H Q s =>
  let ⟨ι, h, env, R, S, r⟩ := tT_bind (k := fun b env => if b = true then M.pure true else u env) s
  ⟨ι, h, env, R, S, r.mono fun b H1 ⟨ι1, h1, env1, R1, S1, r1⟩ => by
    cases b with
    | true => exact iteT (r1 ι1 H1 _ R1 (Fr.refl _ _) rfl)
    | false => exact iteF ⟨ι1, h1, env1, R1, S1, r1⟩⟩
theorem pei_ifE (hc : PTI X W c t) (ha : PEI X W a m) (hb : PEI X W b n) : PEI X W (.IfExp c a b pos) (IfE t m n) := PE.weak (pe_ifExp hc ha hb) fun σ H Q s =>
  let ⟨ι, h, env, R, S, r⟩ := tT_bind (k := fun b env => if b = true then m env else n env) s
  ⟨ι, h, env, R, S, r.mono fun b H1 ⟨ι1, h1, env1, R1, S1, r1⟩ => by
    cases b with
    | true => exact iteT ⟨ι1, h1, env1, R1, S1, r1⟩
    | false => exact iteF ⟨ι1, h1, env1, R1, S1, r1⟩⟩
theorem pei_one {op} (h : PEI X W a m) : PEI X W (.BoolOp op [a] pos) m := pe_one h
theorem pei_or (ha : PEI X W a m) (hb : PEI X W (.BoolOp .Or (b :: rest) pos) n) : PEI X W (.BoolOp .Or (a :: b :: rest) pos) (OrV m n) := PE.weak (pe_orT ha hb) fun σ H Q ⟨ι, h, env, R, S, r⟩ =>
  ⟨ι, h, env, R, S, (run_bind (rel1 := RV) r).mono fun v H1 ⟨ι1, h1, x, R1, F1, rv, r1⟩ => by
    obtain ⟨k, ht, r2⟩ := run_tru (K := X.K) R1 rv r1
    refine ⟨k, ht, ?_⟩
    cases k with
    | true => exact iteT (run_pure r2 R1 rv)
    | false => exact iteF ⟨ι1, h1, env, R1, S.mono R F1, r2⟩⟩
theorem pei_and (ha : PEI X W a m) (hb : PEI X W (.BoolOp .And (b :: rest) pos) n) : PEI X W (.BoolOp .And (a :: b :: rest) pos) (AndV m n) := PE.weak (pe_andT ha hb) fun σ H Q ⟨ι, h, env, R, S, r⟩ =>
  ⟨ι, h, env, R, S, (run_bind (rel1 := RV) r).mono fun v H1 ⟨ι1, h1, x, R1, F1, rv, r1⟩ => by
    obtain ⟨k, ht, r2⟩ := run_tru (K := X.K) R1 rv r1
    refine ⟨k, ht, ?_⟩
    cases k with
    | true => exact iteT ⟨ι1, h1, env, R1, S.mono R F1, r2⟩
    | false => exact iteF (run_pure r2 R1 rv)⟩
theorem pei_notV (ha : PEI X W a m) : PEI X W (.UnaryOp .Not a pos) (NotV m) := PE.weak (pe_notT ha) fun σ H Q ⟨ι, h, env, R, S, r⟩ =>
  ⟨ι, h, env, R, S, (run_bind (rel1 := RV) r).mono fun v H1 ⟨ι1, h1, x, R1, F1, rv, r1⟩ => by
    obtain ⟨k, ht, r2⟩ := run_tru (K := X.K) R1 rv r1
    exact ⟨k, ht, run_pure r2 R1 (.bl _)⟩⟩
/-- a < b < c -/
def Chain (g g' : IV → IV → M IV) (ma mb mc : Env → M IV) : Env → M IV := fun env => M.bind (ma env) fun x => M.bind (mb env) fun y => M.bind (g x y) fun z => M.bind (asB z) fun k => if k = true then M.bind (mc env) fun w => g' y w else M.pure (.bl false)
theorem tI_chain {g g' : IV → IV → M IV} {r r' : R2} {ma mb mc : Env → M IV} (hr : RI2 W r g) (hr' : RI2 W r' g') {σ : L2.St} {Q : VK} (s : tI W (Chain g g' ma mb mc) σ H Q) : tChain r r' (tI W ma) (tI W mb) (tI W mc) σ H Q := by
  obtain ⟨ι, h, env, R, S, r0⟩ := s
  refine ⟨ι, h, env, R, S, (run_bind (rel1 := RV) r0).mono fun v H1 ⟨ι1, h1, x, R1, F1, rv, r1⟩ => ?_⟩
  refine ⟨ι1, h1, env, R1, S.mono R F1, (run_bind (rel1 := RV) r1).mono fun w H2 ⟨ι2, h2, y, R2, F2, rw, r2⟩ => ?_⟩
  refine hr ι2 h2 H2 v w x y _ R2 (R1.mono F2 rv) rw ((run_bind (rel1 := RV) r2).mono fun z H3 ⟨ι3, h3, zz, R3, F3, rz, r3⟩ => ?_)
  cases rz with
  | bl k =>
    refine ⟨k, rfl, ?_⟩
    have r3' : Run W RV ((if k = true then M.bind (mc env) fun w => g' y w else M.pure (.bl false)) h3) ι3 H3 Q := r3
    cases k with
    | true => exact iteT ⟨ι3, h3, env, R3, (S.mono R (F1.trans F2)).mono (h := h2) R2 F3, (run_bind (rel1 := RV) r3').mono fun w' H4 ⟨ι4, h4, ww, R4, F4, rw', r4⟩ => hr' ι4 h4 H4 w w' y ww Q R4 (R3.mono F4 (R2.mono F3 rw)) rw' r4⟩
    | false => exact iteF (run_pure r3' R3 (.bl _))
  | _ => exact r3.elim
theorem pei_lele {ma mb mc : Env → M IV} (ha : PEI X W a ma) (hb : PEI X W b mb) (hc : PEI X W c mc) (hm : lastMarks [.LtE, .LtE] [b, c] = false := by rfl) : PEI X W (.Compare a [.LtE, .LtE] [b, c] pos) (Chain leI leI ma mb mc) := PE.weak (pe_chain (L2.OpR.or op_le op_le_str) (L2.OpR.or op_le op_le_str) ha hb hc hm) fun _ _ _ q => tI_chain (ri_ord fun a b H Q q => ⟨a, b, rfl, rfl, q⟩) (ri_ord fun a b H Q q => ⟨a, b, rfl, rfl, q⟩) q
theorem pei_lelt {ma mb mc : Env → M IV} (ha : PEI X W a ma) (hb : PEI X W b mb) (hc : PEI X W c mc) (hm : lastMarks [.LtE, .Lt] [b, c] = false := by rfl) : PEI X W (.Compare a [.LtE, .Lt] [b, c] pos) (Chain leI ltI ma mb mc) := PE.weak (pe_chain (L2.OpR.or op_le op_le_str) (L2.OpR.or op_lt op_lt_str) ha hb hc hm) fun _ _ _ q => tI_chain (ri_ord fun a b H Q q => ⟨a, b, rfl, rfl, q⟩) (ri_ord fun a b H Q q => ⟨a, b, rfl, rfl, q⟩) q
theorem pei_ltlt {ma mb mc : Env → M IV} (ha : PEI X W a ma) (hb : PEI X W b mb) (hc : PEI X W c mc) (hm : lastMarks [.Lt, .Lt] [b, c] = false := by rfl) : PEI X W (.Compare a [.Lt, .Lt] [b, c] pos) (Chain ltI ltI ma mb mc) := PE.weak (pe_chain (L2.OpR.or op_lt op_lt_str) (L2.OpR.or op_lt op_lt_str) ha hb hc hm) fun _ _ _ q => tI_chain (ri_ord fun a b H Q q => ⟨a, b, rfl, rfl, q⟩) (ri_ord fun a b H Q q => ⟨a, b, rfl, rfl, q⟩) q
end

/-! ### in, subscripts, slices -/
def toV : IV → V
  | .non => .non
  | .bl b => .bl b
  | .int i => .int i
  | .str s => .str s
  | _ => .non
def flatI : IV → Bool
  | .non => true
  | .bl _ => true
  | .int _ => true
  | .str _ => true
  | _ => false
theorem RV.flat {ι : List Addr} {H : Hp} {v : V} {x : IV} (r : RV ι H v x) (f : flatI x = true) : v = toV x ∧ flatV v = true := by
  cases r with
  | non => exact ⟨rfl, rfl⟩
  | bl => exact ⟨rfl, rfl⟩
  | int => exact ⟨rfl, rfl⟩
  | str => exact ⟨rfl, rfl⟩
  | _ => cases f
theorem RVs.flat {ι : List Addr} {H : Hp} {vs : List V} {xs : List IV} (r : RVs ι H vs xs) (f : xs.all flatI = true) : vs = xs.map toV ∧ vs.all flatV = true := by
  induction xs generalizing vs with
  | nil => cases r; exact ⟨rfl, rfl⟩
  | cons x xs ih =>
    cases r with
    | cons a r =>
      rw [List.all_cons, Bool.and_eq_true] at f
      obtain ⟨e1, f1⟩ := a.flat f.1
      obtain ⟨e2, f2⟩ := ih r f.2
      rw [e1] at f1 ⊢
      rw [e2] at f2 ⊢
      exact ⟨rfl, by rw [List.all_cons, f1, f2]; rfl⟩
def keyI : IV → Option Key
  | .int i => some (.inl i)
  | .str s => some (.inr s)
  | _ => none
theorem key_ok {ι : List Addr} {H : Hp} {v : V} {x : IV} {k : Key} (r : RV ι H v x) (e : keyI x = some k) : v = kV k := by
  cases r with
  | int => cases e; rfl
  | str => cases e; rfl
  | _ => cases e
def valI (kvs : List (Key × IV)) (k : Key) : Option IV := (kvs.find? fun kv => decide (kv.1 = k)).map (·.2)
def putI (kvs : List (Key × IV)) (k : Key) (v : IV) : List (Key × IV) :=
  if (kvs.any fun kv => decide (kv.1 = k)) = true then kvs.map (fun kv => if kv.1 = k then (kv.1, v) else kv) else kvs ++ [(k, v)]
section
variable {ι : List Addr} {H : Hp}
theorem RKs.val {ks : List (Key × V)} {kvs : List (Key × IV)} (r : RKs ι H ks kvs) (k : Key) : (valV ks k = none ∧ valI kvs k = none) ∨ ∃ v x, valV ks k = some v ∧ valI kvs k = some x ∧ RV ι H v x := by
  induction r with
  | nil => exact .inl ⟨rfl, rfl⟩
  | @cons k' v x vs xs a r ih =>
    by_cases e : k' = k
    · refine .inr ⟨v, x, ?_, ?_, a⟩
      · exact valV_pos e
      · simp [valI, List.find?_cons, e]
    · have e1 : valV ((k', v) :: vs) k = valV vs k := valV_neg e
      have e2 : valI ((k', x) :: xs) k = valI xs k := by simp [valI, List.find?_cons, e]
      rw [e1, e2]
      exact ih
theorem RKs.append {ks ks' : List (Key × V)} {kvs kvs' : List (Key × IV)} (r : RKs ι H ks kvs) (r2 : RKs ι H ks' kvs') : RKs ι H (ks ++ ks') (kvs ++ kvs') := by
  induction r with
  | nil => exact r2
  | cons a _ ih => exact .cons a ih
theorem RKs.length {ks : List (Key × V)} {kvs : List (Key × IV)} (r : RKs ι H ks kvs) : ks.length = kvs.length := by
  induction r with
  | nil => rfl
  | cons a _ ih => simp [ih]
theorem RKs.any {ks : List (Key × V)} {kvs : List (Key × IV)} (r : RKs ι H ks kvs) (k : Key) : (ks.any fun kv => decide (kv.1 = k)) = (kvs.any fun kv => decide (kv.1 = k)) := by
  induction r with
  | nil => rfl
  | cons a _ ih => simp [ih]
theorem RKs.put {ks : List (Key × V)} {kvs : List (Key × IV)} (r : RKs ι H ks kvs) {k : Key} {v : V} {x : IV} (a : RV ι H v x) : RKs ι H (putK ks k v) (putI kvs k x) := by
  unfold putK putI
  rw [r.any]
  by_cases hc : (kvs.any fun kv => decide (kv.1 = k)) = true
  · rw [if_pos hc, if_pos hc]
    clear hc
    induction r with
    | nil => exact .nil
    | @cons k' v' x' vs xs b r ih =>
      rw [List.map_cons, List.map_cons]
      by_cases e : k' = k
      · simp only [e, if_true]
        exact .cons a ih
      · simp only [e, if_false]
        exact .cons b ih
  · rw [if_neg hc, if_neg hc]
    exact r.append (.cons a .nil)
end
def inM (neg : Bool) (x y : IV) : M IV := fun h => match y with
  | .str b => match x with
    | .str a => some (.ok (.bl (if neg then !(!(Builtin.Str.occurrences b a 0 b.length 1).isEmpty) else !(Builtin.Str.occurrences b a 0 b.length 1).isEmpty)), h)
    | _ => none
  | y => match seqI h y with
    | some ys => if flatI x = true ∧ ys.all flatI = true then some (.ok (.bl (if neg then !inV (toV x) (ys.map toV) else inV (toV x) (ys.map toV))), h) else none
    | none => match y with
      | .ref n => match h[n]?, keyI x with
        | some (.dic kvs), some k => some (.ok (.bl (if neg then !(valI kvs k).isSome else (valI kvs k).isSome)), h)
        | some (.fdc kvs), some k => some (.ok (.bl (if neg then !(valI kvs k).isSome else (valI kvs k).isSome)), h)
        | _, _ => none
      | _ => none
def rInD1 (neg : Bool) : R2 := fun y x H Q => ∃ a o, x = .ref a ∧ DGet H a y o ∧ Q (.bl (if neg then !o.isSome else o.isSome)) H
def rInS1 (neg : Bool) : R2 := fun x y H Q => ∃ i j, x = .str i ∧ y = .str j ∧ Q (.bl (if neg then !(!(Builtin.Str.occurrences j i 0 j.length 1).isEmpty) else !(Builtin.Str.occurrences j i 0 j.length 1).isEmpty)) H
def rInI (K : PySem.W.Frag) (neg : Bool) : R2 := fun x y H Q => rIn K neg x y H Q ∨ rInD1 neg x y H Q ∨ rInS1 neg x y H Q
section
variable {X : Cx} {W : ExW} {a b c e : Expr} {m n : Env → M IV} {pos : Pos} {ι : List Addr} {h : IH} {H : Hp}
theorem op_inI (hu : X.A.units + 65 < cLine) : OpR X (compareOp .In) (rInI X.K false) := L2.OpR.or op_in_seq (L2.OpR.or (fun pins s σ H y x v u Q I ry rx ⟨a, ov, ex, g, q⟩ => by
  subst ex
  obtain rfl : u = Value.ref a := rx
  exact d_in (by omega) I g ry fun s3 I3 => ⟨.bl ov.isSome, H, I3, rfl, q⟩) op_in_str)
theorem op_notInI (hu : X.A.units + 65 < cLine) : OpR X (compareOp .NotIn) (rInI X.K true) := L2.OpR.or op_notIn_seq (L2.OpR.or (fun pins s σ H y x v u Q I ry rx ⟨a, ov, ex, g, q⟩ => by
  subst ex
  obtain rfl : u = Value.ref a := rx
  exact d_notIn (by omega) I g ry fun s3 I3 => ⟨.bl (!ov.isSome), H, I3, rfl, q⟩) op_notin_str)
theorem ri_in (neg : Bool) : RI2 W (rInI X.K neg) (inM neg) := by
  intro ι h H v w x y Q R rv rw r
  have seq : ∀ ys, seqI h y = some ys → Run W RV (if flatI x = true ∧ ys.all flatI = true then some (.ok (.bl (if neg then !inV (toV x) (ys.map toV) else inV (toV x) (ys.map toV))), h) else none) ι H Q → rInI X.K neg v w H Q := by
    intro ys e r
    split at r
    · rename_i hf
      obtain ⟨a, vs, e1, rs, e2⟩ := seq_ok (K := X.K) R rw e
      obtain ⟨q1, f1⟩ := rv.flat hf.1
      obtain ⟨q2, f2⟩ := rs.flat hf.2
      refine .inl ⟨a, vs, e1, e2, f1, f2, ?_⟩
      rw [q1, q2]
      exact run_pure (x := IV.bl _) r R (.bl _)
    · exact r.elim
  cases rw with
  | non => exact r.elim
  | bl => exact r.elim
  | int => exact r.elim
  | str b =>
    cases rv with
    | str a => exact .inr (.inr ⟨a, b, rfl, rfl, run_pure (x := IV.bl _) r R (.bl _)⟩)
    | _ => exact r.elim
  | tup e1 r1 => exact seq _ rfl r
  | fl e1 n1 r1 => exact seq _ rfl r
  | kl _ _ => exact r.elim
  | exo _ _ _ => exact r.elim
  | @ref k a ea =>
    have r' : Run W RV (match seqI h (.ref k) with
      | some ys => if flatI x = true ∧ ys.all flatI = true then some (.ok (.bl (if neg then !inV (toV x) (ys.map toV) else inV (toV x) (ys.map toV))), h) else none
      | none => match h[k]?, keyI x with
        | some (.dic kvs), some k => some (.ok (.bl (if neg then !(valI kvs k).isSome else (valI kvs k).isSome)), h)
        | some (.fdc kvs), some k => some (.ok (.bl (if neg then !(valI kvs k).isSome else (valI kvs k).isSome)), h)
        | _, _ => none) ι H Q := r
    split at r'
    · rename_i ys e
      exact seq ys e r'
    · split at r'
      · rename_i kvs kk e1 e2
        obtain ⟨a', ks, q1, _, q2, rk⟩ := R.dic (.ref ea) e1
        cases q1
        refine .inr (.inl ⟨_, valV ks kk, rfl, ?_, ?_⟩)
        · rw [key_ok rv e2]; exact DGet.k q2
        · have e3 : (valV ks kk).isSome = (valI kvs kk).isSome := by
            rcases rk.val kk with ⟨z1, z2⟩ | ⟨_, _, z1, z2, _⟩ <;> rw [z1, z2] <;> rfl
          rw [e3]
          exact run_pure (x := IV.bl _) r' R (.bl _)
      · rename_i kvs kk e1 e2
        obtain ⟨a', ob, ks, q1, _, q2, rk⟩ := R.fdc (.ref ea) e1
        cases q1
        refine .inr (.inl ⟨_, valV ks kk, rfl, ?_, ?_⟩)
        · rw [key_ok rv e2]; exact .inl ⟨ks, kk, .inr ⟨ob, q2⟩, rfl, rfl⟩
        · have e3 : (valV ks kk).isSome = (valI kvs kk).isSome := by
            rcases rk.val kk with ⟨z1, z2⟩ | ⟨_, _, z1, z2, _⟩ <;> rw [z1, z2] <;> rfl
          rw [e3]
          exact run_pure (x := IV.bl _) r' R (.bl _)
      · exact r'.elim
theorem pei_in (hu : X.A.units + 65 < cLine) (ha : PEI X W a m) (hb : PEI X W b n) (hm : behindInMarks .In b = false := by with_unfolding_all rfl) : PEI X W (.Compare a [.In] [b] pos) (Bin (inM false) m n) := pei_cmp (ri_in false) (op_inI hu) ha hb hm
theorem pei_nin (hu : X.A.units + 65 < cLine) (ha : PEI X W a m) (hb : PEI X W b n) (hm : behindInMarks .NotIn b = false := by with_unfolding_all rfl) : PEI X W (.Compare a [.NotIn] [b] pos) (Bin (inM true) m n) := pei_cmp (ri_in true) (op_notInI hu) ha hb hm
theorem pti_in (hu : X.A.units + 65 < cLine) (ha : PEI X W a m) (hb : PEI X W b n) (hm : behindInMarks .In b = false := by with_unfolding_all rfl) : PTI X W (.Compare a [.In] [b] pos) (Tst (Bin (inM false) m n)) := pti_cmp (ri_in false) (op_inI hu) ha hb hm
theorem pti_nin (hu : X.A.units + 65 < cLine) (ha : PEI X W a m) (hb : PEI X W b n) (hm : behindInMarks .NotIn b = false := by with_unfolding_all rfl) : PTI X W (.Compare a [.NotIn] [b] pos) (Tst (Bin (inM true) m n)) := pti_cmp (ri_in true) (op_notInI hu) ha hb hm
end
/-- a[b] -/
def ixS (h : IH) (xs : List IV) : IV → Option (Out IV × IH)
  | .int i => match atI xs i with
    | some z => some (.ok z, h)
    | none => none
  | _ => none
def ixT (h : IH) (z : Str) : IV → Option (Out IV × IH)
  | .int i => if z.length ≤ lim then (match atI z.cps.toList i with | some c => some (.ok (.str ⟨#[c]⟩), h) | none => none) else none
  | _ => none
def ixD (h : IH) (n : Nat) (y : IV) : Option (Out IV × IH) := match h[n]?, keyI y with
  | some (.dic kvs), some k => (match valI kvs k with | some z => some (.ok z, h) | none => none)
  | some (.fdc kvs), some k => (match valI kvs k with | some z => some (.ok z, h) | none => none)
  | _, _ => none
def ixM (x y : IV) : M IV := fun h => match x with
  | .str z => ixT h z y
  | .tup xs => ixS h xs y
  | .fl xs => ixS h xs y
  | .ref n => match h[n]? with
    | some (.lst xs) => ixS h xs y
    | some (.dic _) => ixD h n y
    | some (.fdc _) => ixD h n y
    | none => none
  | _ => none
def rIxD1 : R2 := fun x y H Q => ∃ a v, x = .ref a ∧ DGet H a y (some v) ∧ Q v H
section
variable {X : Cx} {W : ExW} {a b c e : Expr} {m n : Env → M IV} {pos p2 : Pos} {ι : List Addr} {h : IH} {H : Hp}
theorem ix_dict (hu : X.A.units + 65 < cLine) : IxR X rIxD1 := by
  intro value slice pins s σ H x y v u Q I rx ry hq hs
  obtain ⟨a, w, ex, g, q⟩ := hq
  subst ex
  obtain rfl : v = Value.ref a := rx
  have hT := dict_typeIs I g
  unfold PyProof.Rows.subscriptTail
  refine wpAny_bind ?_
  rw [getitemInPython_of_ne hT.not_modules]
  refine wpAny_bind (wpAny_specialOf hT PySem.F.slot_dict_getitem.lookup ?_)
  have fin : wpAny (model X.prog X.w) X.A (subscripted slice false (Value.ref a) u) (fun r s₃ => wpAny (model X.prog X.w) X.A (letTemporaryGo value (Value.ref a) r >>= fun _ => pure r) (EP X pins σ Q) X.xe s₃) X.xe s := by
    rw [hs]
    exact wpAny_operating (d_getItem (by omega) I g ry fun w' s3 I3 rw' => wpAny_bind (wpAny_letTemporaryGo (wpAny_pure ⟨w, H, I3, rw', q⟩)))
  first
    | exact wpAny_pure (wpAny_bind fin)
    | exact wpAny_bind (wpAny_pure (wpAny_bind fin))
    | exact wpAny_bind fin
theorem atI_get {α : Type} {xs : List α} {i : Int} {x : α} (e : atI xs i = some x) : ∃ j : Nat, ixN xs.length i = some j ∧ xs[j]? = some x := by
  unfold atI at e
  cases q : ixN xs.length i with
  | none => rw [q] at e; cases e
  | some j => rw [q] at e; exact ⟨j, rfl, e⟩
theorem RVs.atI {vs : List V} {xs : List IV} (r : RVs ι H vs xs) {i : Int} {x : IV} (e : L2.atI xs i = some x) : ∃ v, L2.atI vs i = some v ∧ RV ι H v x := by
  obtain ⟨j, e1, e2⟩ := atI_get e
  obtain ⟨v, e3, rv⟩ := r.get e2
  refine ⟨v, ?_, rv⟩
  unfold L2.atI
  rw [r.length, e1]
  exact e3
theorem ri_ix : RI2 W (fun x y H Q => rIx X.K x y H Q ∨ rIxD1 x y H Q) ixM := by
  intro ι h H v w x y Q R rv rw r
  have seq : ∀ xs a vs, v = .ref a → RVs ι H vs xs → (SqL X.K H a vs ∨ SqT X.K H a vs) → Run W RV (ixS h xs y) ι H Q → rIx X.K v w H Q ∨ rIxD1 v w H Q := by
    intro xs a vs q1 rs q2 r
    cases rw with
    | int i =>
      have r' : Run W RV (match atI xs i with
        | some z => some (.ok z, h)
        | none => none) ι H Q := r
      split at r'
      · rename_i z e1
        obtain ⟨u, q3, ru⟩ := rs.atI e1
        have qq := run_pure r' R ru
        rcases q2 with q2 | q2
        · exact .inl (.inl ⟨a, vs, i, u, q1, rfl, q2, q3, qq⟩)
        · exact .inl (.inr (.inl ⟨a, vs, i, u, q1, rfl, q2, q3, qq⟩))
      · exact r'.elim
    | _ => exact r.elim
  cases rv with
  | non => exact r.elim
  | bl => exact r.elim
  | int => exact r.elim
  | str z =>
    cases rw with
    | int i =>
      have r' : Run W RV (if z.length ≤ lim then (match atI z.cps.toList i with | some c => some (.ok (.str ⟨#[c]⟩), h) | none => none) else none) ι H Q := r
      split at r'
      · rename_i hl
        split at r'
        · rename_i c e1
          exact .inl (.inr (.inr ⟨z, i, c, rfl, rfl, sz_of hl, e1, run_pure (x := IV.str _) r' R (.str _)⟩))
        · exact r'.elim
      · exact r'.elim
    | _ => exact r.elim
  | tup e1 r1 => exact seq _ _ _ rfl r1 (.inr (st_of e1)) r
  | fl e1 n1 r1 => exact seq _ _ _ rfl r1 (.inl (sf_of e1)) r
  | kl _ _ => exact r.elim
  | exo _ _ _ => exact r.elim
  | @ref k a ea =>
    have dct : Run W RV (ixD h k y) ι H Q → rIx X.K (V.ref a) w H Q ∨ rIxD1 (V.ref a) w H Q := fun r' => by
      unfold ixD at r'
      split at r'
      · rename_i kvs kk e1 e2
        obtain ⟨a', ks, q1, _, q2, rk⟩ := R.dic (.ref ea) e1
        cases q1
        split at r'
        · rename_i z e3
          rcases rk.val kk with ⟨z1, z2⟩ | ⟨u, x1, z1, z2, ru⟩
          · rw [e3] at z2; cases z2
          · rw [e3] at z2; cases z2
            refine .inr ⟨_, u, rfl, ?_, run_pure r' R ru⟩
            rw [key_ok rw e2, ← z1]; exact DGet.k q2
        · exact r'.elim
      · rename_i kvs kk e1 e2
        obtain ⟨a', ob, ks, q1, _, q2, rk⟩ := R.fdc (.ref ea) e1
        cases q1
        split at r'
        · rename_i z e3
          rcases rk.val kk with ⟨z1, z2⟩ | ⟨u, x1, z1, z2, ru⟩
          · rw [e3] at z2; cases z2
          · rw [e3] at z2; cases z2
            refine .inr ⟨_, u, rfl, ?_, run_pure r' R ru⟩
            rw [key_ok rw e2, ← z1]; exact .inl ⟨ks, kk, .inr ⟨ob, q2⟩, rfl, rfl⟩
        · exact r'.elim
      · exact r'.elim
    have r' : Run W RV (match h[k]? with
      | some (.lst xs) => ixS h xs y
      | some (.dic _) => ixD h k y
      | some (.fdc _) => ixD h k y
      | none => none) ι H Q := r
    split at r'
    · rename_i ys e
      obtain ⟨a', vs, q1, _, q2, rs⟩ := R.lst (.ref ea) e
      exact seq ys a' vs q1 rs (.inl (sq_of q2)) r'
    · exact dct r'
    · exact dct r'
    · exact r'.elim
theorem pei_ix (hu : X.A.units + 65 < cLine) (ha : PEI X W a m) (hb : PEI X W b n) (hs : PlainIx b := by exact fun _ _ => rfl) : PEI X W (.Subscript a b pos) (Bin ixM m n) := PE.weak (pe_ix (ix_seq.or (ix_dict hu)) ha hb hs) fun σ H Q t => tI_bin ri_ix t
/-- a[lo:hi] -/
def cutI (xs : List IV) (lo hi : Option Int) : List IV := (xs.drop (HT.sIx xs.length 0 lo)).take (HT.sIx xs.length xs.length hi - HT.sIx xs.length 0 lo)
theorem RVs.cut {vs : List V} {xs : List IV} (r : RVs ι H vs xs) (lo hi : Option Int) : RVs ι H (cutV vs lo hi) (cutI xs lo hi) := by
  unfold cutV cutI
  rw [r.length]
  exact (r.drop _).take _
def slM (x : IV) (lo hi : Option Int) : M IV := fun h => match x with
  | .str z => if z.length ≤ lim then some (.ok (.str (cutS z lo hi)), h) else none
  | .tup xs => some (.ok (.tup (cutI xs lo hi)), h)
  | .fl xs => mkL (cutI xs lo hi) h
  | .kl xs => mkL (cutI xs lo hi) h
  | .ref n => match h[n]? with
    | some (.lst xs) => mkL (cutI xs lo hi) h
    | _ => none
  | _ => none
abbrev EnvO := Env → M (Option Int)
def NoO : EnvO := fun _ => M.pure none
def asI : IV → M (Option Int)
  | .int i => M.pure (some i)
  | _ => stuck
def SoO (m : Env → M IV) : EnvO := fun env => M.bind (m env) asI
def Sl (m : Env → M IV) (lo hi : EnvO) : Env → M IV := fun env => M.bind (m env) fun x => M.bind (lo env) fun l => M.bind (hi env) fun u => slM x l u
def ROp (_ : List Addr) (_ : Hp) (a b : Option Int) : Prop := a = b
def tIO (W : ExW) (m : EnvO) : TO := fun σ H Q => ∃ ι h env, Rel ι h H ∧ RSt ι H σ env ∧ Run W ROp (m env h) ι H Q
def POI (X : Cx) (W : ExW) (e : Option Expr) (m : EnvO) : Prop := PO X e (tIO W m)
theorem PO.weak {e : Option Expr} {t t' : TO} (h : PO X e t) (k : ∀ σ H Q, t' σ H Q → t σ H Q) : PO X e t' := ⟨fun pins s σ H Q I q => h.run pins s σ H Q I (k σ H Q q)⟩
theorem poi_none : POI X W none NoO := PO.weak po_none fun σ H Q ⟨ι, h, env, R, S, r⟩ => r ι H _ R (Fr.refl _ _) rfl
theorem poi_some (he : PEI X W e m) : POI X W (some e) (SoO m) := PO.weak (po_some he) fun σ H Q ⟨ι, h, env, R, S, r⟩ =>
  ⟨ι, h, env, R, S, (run_bind (rel1 := RV) r).mono fun v H1 ⟨ι1, h1, x, R1, F1, rv, r1⟩ => by
    cases rv with
    | int i => exact ⟨i, rfl, r1 ι1 H1 _ R1 (Fr.refl _ _) rfl⟩
    | _ => exact r1.elim⟩
theorem cut_whole {α : Type} (xs : List α) (lo hi : Option Int) (e : HT.sIx xs.length 0 lo = 0 ∧ HT.sIx xs.length xs.length hi = xs.length) : (xs.drop (HT.sIx xs.length 0 lo)).take (HT.sIx xs.length xs.length hi - HT.sIx xs.length 0 lo) = xs := by
  rw [e.1, e.2]; simp
theorem pei_sl {lo hi : Option Expr} {ml mh : EnvO} (hk : ∀ a vs H, KL.p a vs → SqL X.K H a vs) (he : PEI X W e m) (hl : POI X W lo ml) (hh : POI X W hi mh) : PEI X W (.Subscript e (.Slice lo hi none p2) pos) (Sl m ml mh) := by
  refine PE.weak (pe_slice (r := fun x lo hi H Q => rSlL X.K x lo hi H Q ∨ rSlA X.K x lo hi H Q ∨ rSlS x lo hi H Q) (sl_list.or (sl_tupA.or sl_str)) he hl hh) fun σ H Q ⟨ι, h, env, R, S, r⟩ => ?_
  refine ⟨ι, h, env, R, S, (run_bind (rel1 := RV) r).mono fun v H1 ⟨ι1, h1, x, R1, F1, rv, r1⟩ => ?_⟩
  refine ⟨ι1, h1, env, R1, S.mono R F1, (run_bind (rel1 := ROp) r1).mono fun l H2 ⟨ι2, h2, l', R2, F2, rl, r2⟩ => ?_⟩
  refine ⟨ι2, h2, env, R2, (S.mono R F1).mono R1 F2, (run_bind (rel1 := ROp) r2).mono fun u H3 ⟨ι3, h3, u', R3, F3, ru, r3⟩ => ?_⟩
  cases (show l = l' from rl)
  cases (show u = u' from ru)
  have rv := R2.mono F3 (R1.mono F2 rv)
  cases rv with
  | non => exact r3.elim
  | bl => exact r3.elim
  | int => exact r3.elim
  | str z =>
    have r' : Run W RV (if z.length ≤ lim then some (.ok (.str (cutS z l u)), h3) else none) ι3 H3 Q := r3
    split at r'
    · rename_i hz
      exact .inr (.inr ⟨z, rfl, sz_of hz, run_pure (x := IV.str _) r' R3 (.str _)⟩)
    · exact r'.elim
  | @tup a vs xs e1 rs =>
    have r' : Run W RV (some (.ok (.tup (cutI xs l u)), h3)) ι3 H3 Q := r3
    refine .inr (.inl ⟨a, vs, rfl, st_of e1, fun hw => ?_, fun hw p hp => ?_⟩)
    · have e : cutI xs l u = xs := cut_whole xs l u (by rw [← rs.length]; exact hw)
      rw [e] at r'
      exact run_pure (x := IV.tup _) r' R3 (.tup e1 rs)
    · exact r' ι3 _ _ (R3.new hp) (fr_new hp) (.tup upd_same (R3.monos (fr_new hp) (rs.cut l u)))
  | @fl a o vs xs e1 n1 rs =>
    exact .inl ⟨a, vs, rfl, sf_of e1, (new_lst R3 (rs.cut l u) r3).2⟩
  | exo _ _ _ => exact r3.elim
  | @kl a vs xs e1 rs =>
    exact .inl ⟨a, vs, rfl, hk _ _ _ e1, (new_lst R3 (rs.cut l u) r3).2⟩
  | @ref k a ea =>
    have r' : Run W RV (match h3[k]? with
      | some (.lst xs) => mkL (cutI xs l u) h3
      | _ => none) ι3 H3 Q := r3
    split at r'
    · rename_i xs e1
      obtain ⟨a', vs, q1, _, q2, rs⟩ := R3.lst (.ref ea) e1
      cases q1
      exact .inl ⟨_, vs, rfl, sq_of q2, (new_lst R3 (rs.cut l u) r').2⟩
    · exact r'.elim
end
end Iv
set_option Elab.async false
set_option linter.all false
set_option maxRecDepth 100000
set_option maxHeartbeats 2000000
set_option autoImplicit false
namespace Iv
open PySem L2
variable [KL]

/-! ### calls of built-ins -/
def CallB (g : List IV → M IV) (a : Env → M (List IV)) : Env → M IV := fun env => M.bind (a env) g
section
variable {X : Cx} {W : ExW} {e : Expr} {es : List Expr} {ma : Env → M (List IV)} {m : Env → M IV} {pos p : Pos} {x : Str} {r : List V → Hp → VK → Prop} {g : List IV → M IV}
theorem tI_call (hr : RIL W r g) {σ : L2.St} {H : Hp} {Q : VK} (t : tI W (CallB g ma) σ H Q) : tCB r (tIA W ma) σ H Q := by
  obtain ⟨ι, h, env, R, S, r0⟩ := t
  exact ⟨ι, h, env, R, S, (run_bind (rel1 := RVs) r0).mono fun v H1 ⟨ι1, h1, x, R1, F1, rv, r1⟩ => hr ι1 h1 H1 v x Q R1 rv r1⟩
theorem pei_callB {id : String} (hr : RIL W r g) (hc : CallR X (.builtin id) r) (hm : X.mg x = none) (hv : bootBuiltins x = some (.builtin id)) (ha : PAI X W (e :: es) ma) (hg : Gl X x := by rfl) (hn : x ≠ "__name__" := by decide) (hdb : (x == ("__debug__" : Str)) = false := by decide)
    (he : starEach (e :: es) X.env = (false, eval e X.env) :: starEach es X.env := by rfl) (hpl : (backTo pos (starEach es X.env)).any (·.1) = false := by rfl) : PEI X W (.Call (.Name x p) (e :: es) [] pos) (CallB g ma) :=
  PE.weak (pe_callB hc hg hm hv ha hn hdb he hpl) fun σ H Q t => tI_call hr t
theorem pei_callT {id : String} (hr : RIL W r g) (hc : CallR X (.type id) r) (hm : X.mg x = none) (hv : bootBuiltins x = some (.type id)) (ha : PAI X W (e :: es) ma) (hg : Gl X x := by rfl) (hn : x ≠ "__name__" := by decide) (hdb : (x == ("__debug__" : Str)) = false := by decide)
    (he : starEach (e :: es) X.env = (false, eval e X.env) :: starEach es X.env := by rfl) (hpl : (backTo pos (starEach es X.env)).any (·.1) = false := by rfl) : PEI X W (.Call (.Name x p) (e :: es) [] pos) (CallB g ma) :=
  PE.weak (pe_callTy hc hg hm hv ha hn hdb he hpl) fun σ H Q t => tI_call hr t
end

/-! len, int, abs, list, tuple, sum, max, min, all, any -/
def len1 (h : IH) : IV → Option (Out IV × IH)
  | .str s => if s.length ≤ lim then some (.ok (.int s.length), h) else none
  | .tup xs => some (.ok (.int xs.length), h)
  | .fl xs => some (.ok (.int xs.length), h)
  | .ref n => match h[n]? with
    | some (.lst xs) => some (.ok (.int xs.length), h)
    | some (.dic kvs) => some (.ok (.int kvs.length), h)
    | some (.fdc _) => none
    | none => none
  | _ => none
def lenM : List IV → M IV
  | [x] => fun h => len1 h x
  | _ => stuck
def intM : List IV → M IV
  | [.int i] => M.pure (.int i)
  | [.bl b] => M.pure (.int (if b then 1 else 0))
  | _ => stuck
def absM : List IV → M IV
  | [.int i] => M.pure (.int (if i < 0 then -i else i))
  | _ => stuck
/-- what list(..) and tuple(..) go over -/
def itemsI (h : IH) : IV → Option (List IV)
  | .tup xs => some xs
  | .fl xs => some xs
  | .ref n => match h[n]? with
    | some (.lst xs) => some xs
    | some (.dic kvs) => some (kvs.map fun kv => match kv.1 with | .inl i => .int i | .inr s => .str s)
    | some (.fdc kvs) => some (kvs.map fun kv => match kv.1 with | .inl i => .int i | .inr s => .str s)
    | none => none
  | _ => none
def listM : List IV → M IV
  | [x] => fun h => match itemsI h x with
    | some xs => mkL xs h
    | none => none
  | _ => stuck
def tupleM : List IV → M IV
  | [x] => fun h => match seqI h x with
    | some xs => some (.ok (.tup xs), h)
    | none => none
  | _ => stuck
def maxL (ns : List Int) : Int := ns.foldl (fun a b => if a < b then b else a) (ns.headD 0)
def minL (ns : List Int) : Int := ns.foldl (fun a b => if b < a then b else a) (ns.headD 0)
section
variable {X : Cx} {W : ExW} {e : Expr} {es : List Expr} {ma : Env → M (List IV)} {m : Env → M IV} {pos p : Pos} {ι : List Addr} {h : IH} {H : Hp}
def rLen (K : PySem.W.Frag) : List V → Hp → VK → Prop := fun xs H Q => (∃ x n, xs = [x] ∧ LenV K x H n ∧ Q (.int n) H) ∨ ∃ a kvs, xs = [V.ref a] ∧ H a = some (.dK kvs) ∧ Q (.int kvs.length) H
theorem ri_len : RIL W (rLen X.K) lenM := by
  intro ι h H vs xs Q R rs r
  cases rs with
  | nil => exact r.elim
  | @cons v x _ _ rv rs =>
    cases rs with
    | cons _ _ => exact r.elim
    | nil =>
      have r : Run W RV (len1 h x) ι H Q := r
      cases rv with
      | str s =>
        have r' : Run W RV (if s.length ≤ lim then some (.ok (.int s.length), h) else none) ι H Q := r
        split at r'
        · rename_i hl; exact .inl ⟨_, s.length, rfl, ⟨sz_of hl, rfl⟩, run_pure (x := IV.int _) r' R (.int _)⟩
        · exact r'.elim
      | @tup a vs xs e1 r1 => exact .inl ⟨_, vs.length, rfl, .inr ⟨vs, st_of e1, rfl⟩, run_pure (x := IV.int _) r R (by rw [r1.length]; exact .int _)⟩
      | @fl a o vs xs e1 _ r1 => exact .inl ⟨_, vs.length, rfl, .inl ⟨vs, sf_of e1, rfl⟩, run_pure (x := IV.int _) r R (by rw [r1.length]; exact .int _)⟩
      | @ref n a ea =>
        have r' : Run W RV (match h[n]? with
          | some (.lst xs) => some (.ok (.int xs.length), h)
          | some (.dic kvs) => some (.ok (.int kvs.length), h)
          | some (.fdc _) => none
          | none => none) ι H Q := r
        split at r'
        · rename_i xs e1
          obtain ⟨a', ws, q1, _, q2, r1⟩ := R.lst (.ref ea) e1
          cases q1
          exact .inl ⟨_, ws.length, rfl, .inl ⟨ws, sq_of q2, rfl⟩, run_pure (x := IV.int _) r' R (by rw [r1.length]; exact .int _)⟩
        · rename_i kvs e1
          obtain ⟨a', ks, q1, _, q2, r1⟩ := R.dic (.ref ea) e1
          cases q1
          exact .inr ⟨_, ks, rfl, q2, run_pure (x := IV.int _) r' R (by rw [r1.length]; exact .int _)⟩
        · exact r'.elim
        · exact r'.elim
      | _ => exact r.elim
theorem pei_len (hm : X.mg "len" = none) (ha : PAI X W [e] ma) (hg : Gl X "len" := by rfl) (he : starEach [e] X.env = (false, eval e X.env) :: starEach [] X.env := by rfl) : PEI X W (.Call (.Name "len" p) [e] [] pos) (CallB lenM ma) :=
  pei_callB (r := rLen X.K) ri_len (L2.CallR.or call_len call_lenD) hm PySem.boot_len ha hg (by decide) (by decide) he
theorem ri_int1 : RIL W (fun xs H Q => (∃ i, xs = [.int i] ∧ Q (.int i) H) ∨ ∃ k, xs = [.bl k] ∧ Q (.int (if k then 1 else 0)) H) intM := by
  intro ι h H vs xs Q R rs r
  cases rs with
  | nil => exact r.elim
  | @cons v x _ _ rv rs =>
    cases rs with
    | cons _ _ => cases rv <;> exact r.elim
    | nil =>
      cases rv with
      | int i => exact .inl ⟨i, rfl, run_pure r R (.int _)⟩
      | bl b => exact .inr ⟨b, rfl, run_pure r R (.int _)⟩
      | _ => exact r.elim
theorem pei_intc (hm : X.mg "int" = none) (ha : PAI X W [e] ma) (hg : Gl X "int" := by rfl) (he : starEach [e] X.env = (false, eval e X.env) :: starEach [] X.env := by rfl) : PEI X W (.Call (.Name "int" p) [e] [] pos) (CallB intM ma) :=
  pei_callT ri_int1 call_int1 hm (by decide +kernel) ha hg (by decide) (by decide) he
theorem ri_abs : RIL W (fun xs H Q => ∃ i, xs = [.int i] ∧ Q (.int (if i < 0 then -i else i)) H) absM := by
  intro ι h H vs xs Q R rs r
  cases rs with
  | nil => exact r.elim
  | @cons v x _ _ rv rs =>
    cases rs with
    | cons _ _ => cases rv <;> exact r.elim
    | nil =>
      cases rv with
      | int i => exact ⟨i, rfl, run_pure r R (.int _)⟩
      | _ => exact r.elim
theorem pei_abs (hm : X.mg "abs" = none) (ha : PAI X W [e] ma) (hg : Gl X "abs" := by rfl) (he : starEach [e] X.env = (false, eval e X.env) :: starEach [] X.env := by rfl) : PEI X W (.Call (.Name "abs" p) [e] [] pos) (CallB absM ma) :=
  pei_callB ri_abs call_abs hm (by decide +kernel) ha hg (by decide) (by decide) he
theorem RKs.keys {ks : List (Key × V)} {kvs : List (Key × IV)} (r : RKs ι H ks kvs) : RVs ι H (ks.map fun kv => kV kv.1) (kvs.map fun kv => match kv.1 with | .inl i => .int i | .inr s => .str s) := by
  induction r with
  | nil => exact .nil
  | @cons k v x vs xs a r ih =>
    refine .cons ?_ ih
    cases k with
    | inl i => exact .int i
    | inr s => exact .str s
def rList (K : PySem.W.Frag) : List V → Hp → VK → Prop := fun xs H Q => (∃ p ys, xs = [.ref p] ∧ (SqL K H p ys ∨ SqT K H p ys) ∧ ∀ l, H l = none → Q (.ref l) (upd H l (.lst ys))) ∨
  ∃ (a : Addr) (kvs : List (Key × V)), xs = [.ref a] ∧ Rd H a (.dK kvs) ∧ ∀ p, H p = none → Q (.ref p) (upd H p (.lst (kvs.map fun kv => kV kv.1)))
theorem ri_list : RIL W (rList X.K) listM := by
  intro ι h H vs xs Q R rs r
  cases rs with
  | nil => exact r.elim
  | @cons v x _ _ rv rs =>
    cases rs with
    | cons _ _ => exact r.elim
    | nil =>
      have r' : Run W RV (match itemsI h x with
        | some xs => mkL xs h
        | none => none) ι H Q := r
      cases rv with
      | @tup a vs xs e1 r1 => exact .inl ⟨a, vs, rfl, .inr (st_of e1), (new_lst R r1 r').2⟩
      | @fl a o vs xs e1 _ r1 => exact .inl ⟨a, vs, rfl, .inl (sf_of e1), (new_lst R r1 r').2⟩
      | @ref n a ea =>
        unfold itemsI at r'
        cases q : h[n]? with
        | none => simp only [q] at r'; exact r'.elim
        | some o =>
          cases o with
          | lst xs =>
            simp only [q] at r'
            obtain ⟨a', ws, q1, _, q2, r1⟩ := R.lst (.ref ea) q
            cases q1
            exact .inl ⟨_, ws, rfl, .inl (sq_of q2), (new_lst R r1 r').2⟩
          | dic kvs =>
            simp only [q] at r'
            obtain ⟨a', ks, q1, _, q2, r1⟩ := R.dic (.ref ea) q
            cases q1
            exact .inr ⟨_, ks, rfl, .inl q2, (new_lst R r1.keys r').2⟩
          | fdc kvs =>
            simp only [q] at r'
            obtain ⟨a', ob, ks, q1, _, q2, r1⟩ := R.fdc (.ref ea) q
            cases q1
            exact .inr ⟨_, ks, rfl, .inr ⟨ob, q2⟩, (new_lst R r1.keys r').2⟩
      | _ => exact r.elim
theorem pei_list (hc : X.calm = true) (hm : X.mg "list" = none) (ha : PAI X W [e] ma) (hg : Gl X "list" := by rfl) (he : starEach [e] X.env = (false, eval e X.env) :: starEach [] X.env := by rfl) : PEI X W (.Call (.Name "list" p) [e] [] pos) (CallB listM ma) :=
  pei_callT (r := rList X.K) ri_list (L2.CallR.or call_list_of (call_listD hc)) hm (by decide +kernel) ha hg (by decide) (by decide) he
theorem seq_run {x : IV} {g : List IV → Option (Out IV × IH)} {r : Option (Out IV × IH)} (e : r = (match seqI h x with | some xs => g xs | none => none)) {Q : VK} (q : Run W RV r ι H Q) : ∃ xs, seqI h x = some xs ∧ Run W RV (g xs) ι H Q := by
  subst e
  cases k : seqI h x with
  | none => rw [k] at q; exact q.elim
  | some xs => rw [k] at q; exact ⟨xs, rfl, q⟩
theorem ri_tuple : RIL W (fun xs H Q => ∃ p ys, xs = [.ref p] ∧ ((SqL X.K H p ys ∧ ∀ l, H l = none → Q (.ref l) (upd H l (.tup ys))) ∨ (SqT X.K H p ys ∧ Q (.ref p) H))) tupleM := by
  intro ι h H vs xs Q R rs r
  cases rs with
  | nil => exact r.elim
  | @cons v x _ _ rv rs =>
    cases rs with
    | cons _ _ => exact r.elim
    | nil =>
      have r' : Run W RV (match seqI h x with
        | some xs => some (.ok (.tup xs), h)
        | none => none) ι H Q := r
      have newT : ∀ {vs : List V} {xs : List IV}, RVs ι H vs xs → Run W RV (some (.ok (.tup xs), h)) ι H Q → ∀ l, H l = none → Q (.ref l) (upd H l (.tup vs)) := fun r1 r l hl =>
        r ι _ _ (R.new hl) (fr_new hl) (.tup upd_same (R.monos (fr_new hl) r1))
      cases rv with
      | @tup a vs xs e1 r1 => exact ⟨a, vs, rfl, .inr ⟨st_of e1, run_pure (x := IV.tup _) r' R (.tup e1 r1)⟩⟩
      | @fl a o vs xs e1 _ r1 => exact ⟨a, vs, rfl, .inl ⟨sf_of e1, newT r1 r'⟩⟩
      | @ref n a ea =>
        unfold seqI at r'
        cases q : h[n]? with
        | none => simp only [q] at r'; exact r'.elim
        | some o =>
          cases o with
          | lst xs =>
            simp only [q] at r'
            obtain ⟨a', ws, q1, _, q2, r1⟩ := R.lst (.ref ea) q
            cases q1
            exact ⟨_, ws, rfl, .inl ⟨sq_of q2, newT r1 r'⟩⟩
          | dic kvs => simp only [q] at r'; exact r'.elim
          | fdc kvs => simp only [q] at r'; exact r'.elim
      | _ => exact r.elim
theorem pei_tuple (hm : X.mg "tuple" = none) (ha : PAI X W [e] ma) (hg : Gl X "tuple" := by rfl) (he : starEach [e] X.env = (false, eval e X.env) :: starEach [] X.env := by rfl) : PEI X W (.Call (.Name "tuple" p) [e] [] pos) (CallB tupleM ma) :=
  pei_callT ri_tuple call_tuple_of hm (by decide +kernel) ha hg (by decide) (by decide) he
/-- a list of the mirror (not a tuple) -/
def lstI (h : IH) : IV → Option (List IV)
  | .fl xs => some xs
  | .ref n => match h[n]? with
    | some (.lst xs) => some xs
    | _ => none
  | _ => none
theorem lst_ok {K : PySem.W.Frag} (R : Rel ι h H) {v : V} {x : IV} {xs : List IV} (rv : RV ι H v x) (e : lstI h x = some xs) : ∃ a vs, v = .ref a ∧ RVs ι H vs xs ∧ SqL K H a vs := by
  cases rv with
  | @fl a o vs xs e1 _ r => cases e; exact ⟨_, _, rfl, r, sf_of e1⟩
  | @ref n a ea =>
    have e' : (match h[n]? with
    | some (.lst xs) => some xs
    | _ => none) = some xs := e
    split at e'
    · rename_i ys e2
      cases e'
      obtain ⟨a', vs, e3, _, e4, r⟩ := R.lst (.ref ea) e2
      exact ⟨a', vs, e3, r, sq_of e4⟩
    · cases e'
  | _ => cases e
end
def ofInts (f : List Int → Option IV) : List IV → M IV
  | [x] => fun h => match (lstI h x).bind ints? with
    | some ns => (f ns).map fun y => (.ok y, h)
    | none => none
  | _ => stuck
def ofBools (f : List Bool → IV) : List IV → M IV
  | [x] => fun h => match (lstI h x).bind bools? with
    | some ns => some (.ok (f ns), h)
    | none => none
  | _ => stuck
def sumI : List IV → M IV := ofInts fun ns => some (.int ns.sum)
def allI : List IV → M IV := ofBools fun bs => .bl (bs.all id)
def anyI : List IV → M IV := ofBools fun bs => .bl (bs.any id)
def max1 : List Int → Option IV
  | [] => none
  | n :: ns => some (.int (maxL (n :: ns)))
def min1 : List Int → Option IV
  | [] => none
  | n :: ns => some (.int (minL (n :: ns)))
def maxI : List IV → M IV := ofInts max1
def minI : List IV → M IV := ofInts min1
def max2 : List IV → M IV
  | [.int i, .int j] => M.pure (.int (if j > i then j else i))
  | _ => stuck
def min2 : List IV → M IV
  | [.int i, .int j] => M.pure (.int (if j < i then j else i))
  | _ => stuck
theorem max_step (ns : List Int) : ∀ a : Int, (ns.foldl (fun a b => if a < b then b else a) a ∈ a :: ns) ∧ ∀ y ∈ a :: ns, y ≤ ns.foldl (fun a b => if a < b then b else a) a := by
  induction ns with
  | nil => intro a; simp
  | cons n ns ih =>
    intro a
    rw [List.foldl_cons]
    obtain ⟨h1, h2⟩ := ih (if a < n then n else a)
    constructor
    · rcases List.mem_cons.mp h1 with e | e
      · rw [e]; split <;> simp
      · simp [e]
    · intro y hy
      have q := h2 (if a < n then n else a) (by simp)
      rcases List.mem_cons.mp hy with e | hy
      · subst e; exact Int.le_trans (by split <;> omega) q
      · rcases List.mem_cons.mp hy with e | hy
        · subst e; exact Int.le_trans (by split <;> omega) q
        · exact h2 y (List.mem_cons_of_mem _ hy)
theorem min_step (ns : List Int) : ∀ a : Int, (ns.foldl (fun a b => if b < a then b else a) a ∈ a :: ns) ∧ ∀ y ∈ a :: ns, ns.foldl (fun a b => if b < a then b else a) a ≤ y := by
  induction ns with
  | nil => intro a; simp
  | cons n ns ih =>
    intro a
    rw [List.foldl_cons]
    obtain ⟨h1, h2⟩ := ih (if n < a then n else a)
    constructor
    · rcases List.mem_cons.mp h1 with e | e
      · rw [e]; split <;> simp
      · simp [e]
    · intro y hy
      have q := h2 (if n < a then n else a) (by simp)
      rcases List.mem_cons.mp hy with e | hy
      · subst e; exact Int.le_trans q (by split <;> omega)
      · rcases List.mem_cons.mp hy with e | hy
        · subst e; exact Int.le_trans q (by split <;> omega)
        · exact h2 y (List.mem_cons_of_mem _ hy)
theorem maxL_ok (n : Int) (ns : List Int) : maxL (n :: ns) ∈ n :: ns ∧ ∀ y ∈ n :: ns, y ≤ maxL (n :: ns) := by
  obtain ⟨h1, h2⟩ := max_step (n :: ns) n
  refine ⟨?_, fun y hy => h2 y (List.mem_cons_of_mem _ hy)⟩
  rcases List.mem_cons.mp h1 with e | e
  · exact List.mem_cons.mpr (.inl e)
  · exact e
theorem minL_ok (n : Int) (ns : List Int) : minL (n :: ns) ∈ n :: ns ∧ ∀ y ∈ n :: ns, minL (n :: ns) ≤ y := by
  obtain ⟨h1, h2⟩ := min_step (n :: ns) n
  refine ⟨?_, fun y hy => h2 y (List.mem_cons_of_mem _ hy)⟩
  rcases List.mem_cons.mp h1 with e | e
  · exact List.mem_cons.mpr (.inl e)
  · exact e
section
variable {X : Cx} {W : ExW} {e e2 : Expr} {es : List Expr} {ma : Env → M (List IV)} {m : Env → M IV} {pos p : Pos} {ι : List Addr} {h : IH} {H : Hp}
theorem ri_ints {f : List Int → Option IV} {r : List V → Hp → VK → Prop} (hr : ∀ a ns H Q y, SqL X.K H a (ns.map V.int) → f ns = some y → (∀ v, (∀ ι, RV ι H v y) → Q v H) → r [.ref a] H Q) (hf : ∀ ns y, f ns = some y → ∀ ι H v, RV ι H v y → ∀ ι' H', RV ι' H' v y) : RIL W r (ofInts f) := by
  intro ι h H vs xs Q R rs r0
  cases rs with
  | nil => exact r0.elim
  | @cons v x _ _ rv rs =>
    cases rs with
    | cons _ _ => exact r0.elim
    | nil =>
      have r' : Run W RV (match (lstI h x).bind ints? with
        | some ns => (f ns).map fun y => (.ok y, h)
        | none => none) ι H Q := r0
      cases q : lstI h x with
      | none => rw [q] at r'; exact r'.elim
      | some ys =>
        cases q2 : ints? ys with
        | none => rw [q] at r'; simp only [Option.bind_some, q2] at r'; exact r'.elim
        | some ns =>
          rw [q] at r'; simp only [Option.bind_some, q2] at r'
          cases q3 : f ns with
          | none => rw [q3] at r'; exact r'.elim
          | some y =>
            rw [q3] at r'
            obtain ⟨a, vs, e1, rs, e2⟩ := lst_ok (K := X.K) R rv q
            subst e1
            rw [ints?_eq q2] at rs
            have e3 := rs.ints
            subst e3
            exact hr a ns H Q y e2 q3 fun v hv => run_pure (x := y) r' R (hv ι)
theorem ri_bools {f : List Bool → IV} {r : List V → Hp → VK → Prop} (hr : ∀ a ns H Q, SqL X.K H a (ns.map V.bl) → (∀ v, (∀ ι, RV ι H v (f ns)) → Q v H) → r [.ref a] H Q) : RIL W r (ofBools f) := by
  intro ι h H vs xs Q R rs r0
  cases rs with
  | nil => exact r0.elim
  | @cons v x _ _ rv rs =>
    cases rs with
    | cons _ _ => exact r0.elim
    | nil =>
      have r' : Run W RV (match (lstI h x).bind bools? with
        | some ns => some (.ok (f ns), h)
        | none => none) ι H Q := r0
      cases q : lstI h x with
      | none => rw [q] at r'; exact r'.elim
      | some ys =>
        cases q2 : bools? ys with
        | none => rw [q] at r'; simp only [Option.bind_some, q2] at r'; exact r'.elim
        | some ns =>
          rw [q] at r'; simp only [Option.bind_some, q2] at r'
          obtain ⟨a, vs, e1, rs, e2⟩ := lst_ok (K := X.K) R rv q
          subst e1
          rw [bools?_eq q2] at rs
          have e3 := rs.bools
          subst e3
          exact hr a ns H Q e2 fun v hv => run_pure (x := f ns) r' R (hv ι)
theorem pei_sum (hc : X.calm = true) (hm : X.mg "sum" = none) (ha : PAI X W [e] ma) (hg : Gl X "sum" := by rfl) (he : starEach [e] X.env = (false, eval e X.env) :: starEach [] X.env := by rfl) : PEI X W (.Call (.Name "sum" p) [e] [] pos) (CallB sumI ma) :=
  pei_callB (ri_ints (fun a ns H Q y h1 h2 h3 => by cases h2; exact ⟨a, ns, rfl, h1, h3 _ fun _ => .int _⟩) (fun ns y e ι H v r ι' H' => by cases e; cases r; exact .int _)) (cr_sum hc) hm (by decide +kernel) ha hg (by decide) (by decide) he
theorem pei_max1 (hc : X.calm = true) (hm : X.mg "max" = none) (ha : PAI X W [e] ma) (hg : Gl X "max" := by rfl) (he : starEach [e] X.env = (false, eval e X.env) :: starEach [] X.env := by rfl) : PEI X W (.Call (.Name "max" p) [e] [] pos) (CallB maxI ma) :=
  pei_callB (ri_ints (fun a ns H Q y h1 h2 h3 => by
    cases ns with
    | nil => cases h2
    | cons n ns =>
      cases h2
      refine ⟨a, n :: ns, rfl, h1, Nat.succ_pos _, fun m hm hle => ?_⟩
      have e : m = maxL (n :: ns) := Int.le_antisymm ((maxL_ok n ns).2 m hm) (hle _ (maxL_ok n ns).1)
      rw [e]
      exact h3 _ fun _ => .int _) (fun ns y e ι H v r ι' H' => by cases ns <;> cases e; cases r; exact .int _)) (cr_max hc) hm (by decide +kernel) ha hg (by decide) (by decide) he
theorem pei_min1 (hc : X.calm = true) (hm : X.mg "min" = none) (ha : PAI X W [e] ma) (hg : Gl X "min" := by rfl) (he : starEach [e] X.env = (false, eval e X.env) :: starEach [] X.env := by rfl) : PEI X W (.Call (.Name "min" p) [e] [] pos) (CallB minI ma) :=
  pei_callB (ri_ints (fun a ns H Q y h1 h2 h3 => by
    cases ns with
    | nil => cases h2
    | cons n ns =>
      cases h2
      refine ⟨a, n :: ns, rfl, h1, Nat.succ_pos _, fun m hm hle => ?_⟩
      have e : m = minL (n :: ns) := Int.le_antisymm (hle _ (minL_ok n ns).1) ((minL_ok n ns).2 m hm)
      rw [e]
      exact h3 _ fun _ => .int _) (fun ns y e ι H v r ι' H' => by cases ns <;> cases e; cases r; exact .int _)) (cr_min hc) hm (by decide +kernel) ha hg (by decide) (by decide) he
theorem ri_two {f : Int → Int → Int} {r : List V → Hp → VK → Prop} {g : List IV → M IV} (hg : ∀ i j, g [.int i, .int j] = M.pure (.int (f i j))) (hn : ∀ xs, (∀ i j, xs ≠ [.int i, .int j]) → ∀ h, g xs h = none) (hr : ∀ i j H Q, Q (.int (f i j)) H → r [.int i, .int j] H Q) : RIL W r g := by
  intro ι h H vs xs Q R rs r0
  by_cases hx : ∃ i j, xs = [.int i, .int j]
  · obtain ⟨i, j, rfl⟩ := hx
    cases rs with
    | cons a rs => cases a; cases rs with
      | cons b rs => cases b; cases rs; rw [hg] at r0; exact hr i j H Q (run_pure r0 R (.int _))
  · rw [hn xs (fun i j e => hx ⟨i, j, e⟩) h] at r0
    exact r0.elim
theorem pei_max2 (hc : X.calm = true) (hm : X.mg "max" = none) (ha : PAI X W [e, e2] ma) (hg : Gl X "max" := by rfl) (he : starEach [e, e2] X.env = (false, eval e X.env) :: starEach [e2] X.env := by rfl) (hpl : (backTo pos (starEach [e2] X.env)).any (·.1) = false := by rfl) : PEI X W (.Call (.Name "max" p) [e, e2] [] pos) (CallB max2 ma) :=
  pei_callB (ri_two (f := fun i j => if j > i then j else i) (fun _ _ => rfl) (fun xs hx h => by
    unfold max2
    split
    · exact absurd rfl (hx _ _)
    · rfl) (fun i j H Q q => ⟨i, j, rfl, q⟩)) (call_max2 hc) hm (by decide +kernel) ha hg (by decide) (by decide) he hpl
theorem pei_min2 (hc : X.calm = true) (hm : X.mg "min" = none) (ha : PAI X W [e, e2] ma) (hg : Gl X "min" := by rfl) (he : starEach [e, e2] X.env = (false, eval e X.env) :: starEach [e2] X.env := by rfl) (hpl : (backTo pos (starEach [e2] X.env)).any (·.1) = false := by rfl) : PEI X W (.Call (.Name "min" p) [e, e2] [] pos) (CallB min2 ma) :=
  pei_callB (ri_two (f := fun i j => if j < i then j else i) (fun _ _ => rfl) (fun xs hx h => by
    unfold min2
    split
    · exact absurd rfl (hx _ _)
    · rfl) (fun i j H Q q => ⟨i, j, rfl, q⟩)) (call_min2 hc) hm (by decide +kernel) ha hg (by decide) (by decide) he hpl
theorem pei_all (hc : X.calm = true) (hm : X.mg "all" = none) (ha : PAI X W [e] ma) (hg : Gl X "all" := by rfl) (he : starEach [e] X.env = (false, eval e X.env) :: starEach [] X.env := by rfl) : PEI X W (.Call (.Name "all" p) [e] [] pos) (CallB allI ma) :=
  pei_callB (ri_bools fun a ns H Q h1 h3 => ⟨a, ns, rfl, h1, h3 _ fun _ => .bl _⟩) (cr_all hc) hm (by decide +kernel) ha hg (by decide) (by decide) he
theorem pei_any (hc : X.calm = true) (hm : X.mg "any" = none) (ha : PAI X W [e] ma) (hg : Gl X "any" := by rfl) (he : starEach [e] X.env = (false, eval e X.env) :: starEach [] X.env := by rfl) : PEI X W (.Call (.Name "any" p) [e] [] pos) (CallB anyI ma) :=
  pei_callB (ri_bools fun a ns H Q h1 h3 => ⟨a, ns, rfl, h1, h3 _ fun _ => .bl _⟩) (cr_any hc) hm (by decide +kernel) ha hg (by decide) (by decide) he
end

/-! ### sorted -/
def alikeB (ds : List PyData) : Bool := ds.all fun d => ds.all fun e => PySem.W.alike d e
def tupB : PyData → Bool
  | .tuple (_ :: _) => true
  | _ => false
def atomB : PyData → Bool
  | .none => false
  | .tuple _ => false
  | _ => true
def sortableB (ds : List PyData) : Bool := ds.all tupB || ds.all atomB
@[irreducible] def depLim : Nat := 60
def sortM : List IV → M IV
  | [x] => fun h => match lstI h x with
    | some xs => match xs.mapM (encH h 66) with
      | some ds => if alikeB ds = true ∧ sortableB ds = true ∧ (ds.all fun d => decide (d.depth ≤ depLim)) = true then mkL (((xs.zip ds).mergeSort (PySem.W.dataLe false fun p => p.2)).map (·.1)) h else none
      | none => none
    | none => none
  | _ => stuck
def rSortD (K : PySem.W.Frag) : List V → Hp → VK → Prop := fun vs H Q => ∃ (a : Addr) (xs : List V) (ds : List PyData), vs = [.ref a] ∧ SqL K H a xs ∧ DpAll K H xs ds ∧ PySem.W.AllAlike ds ∧ PySem.W.Sortable ds ∧ (∀ d ∈ ds, d.depth ≤ 60) ∧
  ∀ p, H p = none → Q (.ref p) (upd H p (.lst (((xs.zip ds).mergeSort (PySem.W.dataLe false fun p => p.2)).map (·.1))))
section
variable {X : Cx} {W : ExW} {e e2 : Expr} {ma : Env → M (List IV)} {pos p : Pos} {ι : List Addr} {h : IH} {H : Hp}
theorem dpAll_len {K : PySem.W.Frag} {H : Hp} : ∀ {xs : List V} {ds : List PyData}, DpAll K H xs ds → xs.length = ds.length
  | _, _, .nil => rfl
  | _, _, .cons _ r => by simp [dpAll_len r]
theorem each_pairs {X : Cx} {pins : List (Addr × Obj)} {σ : L2.St} {H : Hp} {s : Shared} (I : Inv X pins σ H s) : ∀ {xs : List V} {ds : List PyData} {us : List Value}, DpAll X.K H xs ds → Vals xs us →
    PySem.W.EachIs (fun u (p : V × PyData) => RelV p.1 u) us (xs.zip ds) ∧ PySem.W.EachIs (fun u (p : V × PyData) => ∃ as, Reads s.heap u p.2 as) us (xs.zip ds)
  | _, _, _, .nil, .nil => ⟨.nil, .nil⟩
  | _, _, _, .cons a r, .cons b t => let ⟨h1, h2⟩ := each_pairs I r t; ⟨.cons b h1, .cons (Dp.reads I _ _ _ a b) h2⟩
theorem vals_of {bs : List (V × PyData)} {us : List Value} (h : PySem.W.EachIs (fun u (p : V × PyData) => RelV p.1 u) us bs) : Vals (bs.map (·.1)) us := by
  induction h with
  | nil => exact .nil
  | cons a _ ih => exact .cons a ih
theorem cr_sortD (hu : X.A.units + 65 < cLine) : CallR X (.builtin "sorted") (rSortD X.K) := by
  intro pins s σ H vs us Q I r h
  obtain ⟨a, xs, ds, rfl, hs, hd, hal, hso, hdep, q⟩ := h
  obtain ⟨its, rv, hl, hz⟩ := I.list hs
  rw [Vals.ref1 r]
  obtain ⟨e1, e2⟩ := each_pairs I hd rv
  have hlen := dpAll_len hd
  have hm : (xs.zip ds).map (fun p => p.2) = ds := by
    rw [List.map_snd_zip]; omega
  have hL : (xs.zip ds).length ≤ sizeLine := by
    rw [List.length_zip, ← hlen, Nat.min_self]
    have := rv.length
    omega
  refine PySem.W.sorted_data (bs := xs.zip ds) (enc := fun p => p.2) hl.isList e1 e2 (by rw [hm]; exact hal) (by rw [hm]; exact hso) hL (fun b hb => ?_) fun out ho h2 => ?_
  · have h3 := hdep b.2 (by rw [← hm]; exact List.mem_map_of_mem hb)
    omega
  · obtain ⟨ep, he'⟩ := PyProof.Rows.sortedAll_at s.heap its (List.toArray out)
    refine ⟨.ref _, upd H (s.heap.objs.size + 1) (.lst (((xs.zip ds).mergeSort (PySem.W.dataLe false fun p => p.2)).map (·.1))), I.laid (t' := s.toks) (fun _ _ => PyProof.Rows.sortedAll_old) (Nat.le_succ _) ⟨?_, out, ep, vals_of h2, he'⟩, rfl, q _ (I.hok.fresh (Nat.le_succ _))⟩
    rw [List.length_map, List.length_mergeSort]; exact hL
theorem mapM_all {K : PySem.W.Frag} (R : Rel ι h H) : ∀ {xs : List IV} {vs : List V} {ds : List PyData}, RVs ι H vs xs → xs.mapM (encH h 66) = some ds → DpAll K H vs ds
  | [], _, _, .nil, e => by cases e; exact .nil
  | y :: ys, _, ds, .cons a r, e => by
    rw [List.mapM_cons] at e
    cases e1 : encH h 66 y with
    | none => rw [e1] at e; cases e
    | some d1 =>
      rw [e1] at e
      cases e2 : ys.mapM (encH h 66) with
      | none => rw [e2] at e; cases e
      | some ds1 => rw [e2] at e; cases e; exact .cons (encH_dp R _ y _ d1 a e1) (mapM_all R r e2)
theorem alikeB_ok {ds : List PyData} (e : alikeB ds = true) : PySem.W.AllAlike ds := fun d hd d' hd' => by
  unfold alikeB at e
  exact List.all_eq_true.mp (List.all_eq_true.mp e d hd) d' hd'
theorem sortableB_ok {ds : List PyData} (e : sortableB ds = true) : PySem.W.Sortable ds := by
  unfold sortableB at e
  rcases Bool.or_eq_true_iff.mp e with e | e
  · refine .inl fun d hd => ?_
    have := List.all_eq_true.mp e d hd
    cases d with
    | tuple xs => cases xs with
      | nil => cases this
      | cons x r => exact ⟨x, r, rfl⟩
    | _ => cases this
  · refine .inr fun d hd => ?_
    have := List.all_eq_true.mp e d hd
    cases d with
    | tuple xs => cases this
    | none => cases this
    | _ => exact ⟨fun z => (by cases z), fun xs z => (by cases z)⟩
theorem RVs.zip3 {vs : List V} {xs : List IV} (r : RVs ι H vs xs) (ds : List PyData) : (vs.zip (xs.zip ds)).map (fun p => (p.1, p.2.2)) = vs.zip ds ∧ (vs.zip (xs.zip ds)).map (fun p => p.2) = xs.zip ds ∧ ∀ p ∈ vs.zip (xs.zip ds), RV ι H p.1 p.2.1 := by
  induction xs generalizing vs ds with
  | nil => cases r; simp
  | cons x xs ih =>
    cases r with
    | cons a r =>
      cases ds with
      | nil => simp
      | cons d ds =>
        obtain ⟨h1, h2, h3⟩ := ih r ds
        refine ⟨by simp [h1], by simp [h2], fun p hp => ?_⟩
        simp only [List.zip_cons_cons, List.mem_cons] at hp
        rcases hp with hp | hp
        · subst hp; exact a
        · exact h3 p hp
theorem RVs.sorted {vs : List V} {xs : List IV} (r : RVs ι H vs xs) (ds : List PyData) : RVs ι H (((vs.zip ds).mergeSort (PySem.W.dataLe false fun p => p.2)).map (·.1)) (((xs.zip ds).mergeSort (PySem.W.dataLe false fun p => p.2)).map (·.1)) := by
  obtain ⟨h1, h2, h3⟩ := r.zip3 ds
  have e1 : (vs.zip ds).mergeSort (PySem.W.dataLe false fun p => p.2) = ((vs.zip (xs.zip ds)).mergeSort (PySem.W.dataLe false fun p => p.2.2)).map fun p => (p.1, p.2.2) := by
    rw [List.map_mergeSort (l := vs.zip (xs.zip ds)) (r := PySem.W.dataLe false fun p => p.2.2) (f := fun p => (p.1, p.2.2)) (s := PySem.W.dataLe false fun p => p.2) (by intros; rfl), h1]
  have e2 : (xs.zip ds).mergeSort (PySem.W.dataLe false fun p => p.2) = ((vs.zip (xs.zip ds)).mergeSort (PySem.W.dataLe false fun p => p.2.2)).map fun p => p.2 := by
    rw [List.map_mergeSort (l := vs.zip (xs.zip ds)) (r := PySem.W.dataLe false fun p => p.2.2) (f := fun p => p.2) (s := PySem.W.dataLe false fun p => p.2) (by intros; rfl), h2]
  rw [e1, e2, List.map_map, List.map_map]
  have all : ∀ p ∈ (vs.zip (xs.zip ds)).mergeSort (PySem.W.dataLe false fun p => p.2.2), RV ι H p.1 p.2.1 := fun p hp => h3 p (List.mem_mergeSort.mp hp)
  generalize (vs.zip (xs.zip ds)).mergeSort (PySem.W.dataLe false fun p => p.2.2) = l at all
  clear e1 e2 h1 h2 h3
  induction l with
  | nil => exact .nil
  | cons p l ih => exact .cons (all p List.mem_cons_self) (ih fun q hq => all q (List.mem_cons_of_mem _ hq))
theorem ri_sort : RIL W (rSortD X.K) sortM := by
  intro ι h H vs xs Q R rs r0
  cases rs with
  | nil => exact r0.elim
  | @cons v x _ _ rv rs =>
    cases rs with
    | cons _ _ => exact r0.elim
    | nil =>
      have r' : Run W RV (match lstI h x with
        | some xs => match xs.mapM (encH h 66) with
          | some ds => if alikeB ds = true ∧ sortableB ds = true ∧ (ds.all fun d => decide (d.depth ≤ depLim)) = true then mkL (((xs.zip ds).mergeSort (PySem.W.dataLe false fun p => p.2)).map (·.1)) h else none
          | none => none
        | none => none) ι H Q := r0
      split at r'
      · rename_i ys e1
        split at r'
        · rename_i ds e2
          split at r'
          · rename_i hc
            obtain ⟨a, ws, q1, r1, q2⟩ := lst_ok (K := X.K) R rv e1
            subst q1
            refine ⟨a, ws, ds, rfl, q2, mapM_all R r1 e2, alikeB_ok hc.1, sortableB_ok hc.2.1, fun d hd => ?_, (new_lst R (r1.sorted ds) r').2⟩
            have := of_decide_eq_true (List.all_eq_true.mp hc.2.2 d hd)
            unfold depLim at this
            exact this
          · exact r'.elim
        · exact r'.elim
      · exact r'.elim
theorem pei_sorted (hu : X.A.units + 65 < cLine) (hm : X.mg "sorted" = none) (ha : PAI X W [e] ma) (hg : Gl X "sorted" := by rfl) (he : starEach [e] X.env = (false, eval e X.env) :: starEach [] X.env := by rfl) : PEI X W (.Call (.Name "sorted" p) [e] [] pos) (CallB sortM ma) :=
  pei_callB ri_sort (cr_sortD hu) hm (by decide +kernel) ha hg (by decide) (by decide) he
end
end Iv
set_option Elab.async false
set_option linter.all false
set_option maxRecDepth 100000
set_option maxHeartbeats 2000000
set_option autoImplicit false
namespace Iv
open PySem L2
variable [KL]

/-! ### statements -/
inductive Fl where
  | nx (e : Env) | rt (x : IV) | bk (e : Env) | ct (e : Env)
inductive AF where
  | nx (σ : L2.St) | rt (v : V) | bk (σ : L2.St) | ct (σ : L2.St)
inductive RFl (ι : List Addr) (H : Hp) : AF → Fl → Prop where
  | nx {σ : L2.St} {env : Env} : RSt ι H σ env → RFl ι H (.nx σ) (.nx env)
  | rt {v : V} {x : IV} : RV ι H v x → RFl ι H (.rt v) (.rt x)
  | bk {σ : L2.St} {env : Env} : RSt ι H σ env → RFl ι H (.bk σ) (.bk env)
  | ct {σ : L2.St} {env : Env} : RSt ι H σ env → RFl ι H (.ct σ) (.ct env)
def D2Q (D : Ends) : AF → Hp → Prop
  | .nx σ, H => D.nx σ H
  | .rt v, H => D.rt v H
  | .bk σ, H => D.bk σ H
  | .ct σ, H => D.ct σ H
def tIS (W : ExW) (m : Env → M Fl) : TS := fun D σ H => ∃ ι h env, Rel ι h H ∧ RSt ι H σ env ∧ Run W RFl (m env h) ι H (D2Q D)
def PSI (X : Cx) (W : ExW) (s : Stmt) (m : Env → M Fl) : Prop := PS X s (tIS W m)
def PSsI (X : Cx) (W : ExW) (s : List Stmt) (m : Env → M Fl) : Prop := PSs X s (tIS W m)
def NextS : Env → M Fl := fun env => M.pure (.nx env)
def SeqS (a b : Env → M Fl) : Env → M Fl := fun env => M.bind (a env) fun f => match f with
  | .nx e => b e
  | .rt x => M.pure (.rt x)
  | .bk e => M.pure (.bk e)
  | .ct e => M.pure (.ct e)
def BrkS : Env → M Fl := fun env => M.pure (.bk env)
def CntS : Env → M Fl := fun env => M.pure (.ct env)
def RetS (m : Env → M IV) : Env → M Fl := fun env => M.bind (m env) fun x => M.pure (.rt x)
def RetN : Env → M Fl := fun _ => M.pure (.rt .non)
def DropS (m : Env → M IV) : Env → M Fl := fun env => M.bind (m env) fun _ => M.pure (.nx env)
def IfS (c : Env → M Bool) (a b : Env → M Fl) : Env → M Fl := fun env => M.bind (c env) fun k => if k = true then a env else b env
section
variable {X : Cx} {W : ExW} {e c : Expr} {m : Env → M IV} {t : Env → M Bool} {ms mr : Env → M Fl} {st : Stmt} {rest : List Stmt} {pos : Pos}
theorem pssi_nil : PSsI X W [] NextS := PSs.weak pss_nil fun D σ H ⟨ι, h, env, R, S, r⟩ => r ι H (.nx σ) R (Fr.refl _ _) (.nx S)
theorem pssi_one (h1 : PSI X W st ms) : PSsI X W [st] ms := pss_one h1
theorem pssi_cons (h1 : PSI X W st ms) (h2 : PSsI X W rest mr) : PSsI X W (st :: rest) (SeqS ms mr) := PSs.weak (pss_cons h1 h2) fun D σ H ⟨ι, h, env, R, S, r⟩ =>
  ⟨ι, h, env, R, S, (run_bind (rel1 := RFl) r).mono fun v H1 ⟨ι1, h1, f, R1, F1, rf, r1⟩ => by
    cases rf with
    | nx S1 => exact ⟨ι1, h1, _, R1, S1, r1⟩
    | rt rv => exact r1 ι1 H1 (.rt _) R1 (Fr.refl _ _) (.rt rv)
    | bk S1 => exact r1 ι1 H1 (.bk _) R1 (Fr.refl _ _) (.bk S1)
    | ct S1 => exact r1 ι1 H1 (.ct _) R1 (Fr.refl _ _) (.ct S1)⟩
theorem psi_pass : PSI X W (.Pass pos) NextS := PS.weak ps_pass fun D σ H ⟨ι, h, env, R, S, r⟩ => r ι H (.nx σ) R (Fr.refl _ _) (.nx S)
theorem psi_break : PSI X W (.Break pos) BrkS := PS.weak ps_break fun D σ H ⟨ι, h, env, R, S, r⟩ => r ι H (.bk σ) R (Fr.refl _ _) (.bk S)
theorem psi_continue : PSI X W (.Continue pos) CntS := PS.weak ps_continue fun D σ H ⟨ι, h, env, R, S, r⟩ => r ι H (.ct σ) R (Fr.refl _ _) (.ct S)
theorem psi_ret (he : PEI X W e m) : PSI X W (.Return (some e) pos) (RetS m) := PS.weak (ps_ret he) fun D σ H ⟨ι, h, env, R, S, r⟩ =>
  ⟨ι, h, env, R, S, (run_bind (rel1 := RV) r).mono fun v H1 ⟨ι1, h1, x, R1, F1, rv, r1⟩ => r1 ι1 H1 (.rt v) R1 (Fr.refl _ _) (.rt rv)⟩
theorem psi_retN : PSI X W (.Return none pos) RetN := PS.weak ps_retN fun D σ H ⟨ι, h, env, R, S, r⟩ => r ι H (.rt .non) R (Fr.refl _ _) (.rt .non)
theorem psi_expr (he : PEI X W e m) (hs : swapsWith e none pos.line X.env = pure false := by rfl) : PSI X W (.Expr e pos) (DropS m) := PS.weak (ps_expr he hs) fun D σ H ⟨ι, h, env, R, S, r⟩ =>
  ⟨ι, h, env, R, S, (run_bind (rel1 := RV) r).mono fun v H1 ⟨ι1, h1, x, R1, F1, rv, r1⟩ => r1 ι1 H1 (.nx σ) R1 (Fr.refl _ _) (.nx (S.mono R F1))⟩
theorem psi_if {a b : List Stmt} {ma mb : Env → M Fl} (hc : PTI X W c t) (ha : PSsI X W a ma) (hb : PSsI X W b mb) : PSI X W (.If c a b pos) (IfS t ma mb) := PS.weak (ps_if hc ha hb) fun D σ H ⟨ι, h, env, R, S, r⟩ =>
  ⟨ι, h, env, R, S, (run_bind (rel1 := RB) r).mono fun b H1 ⟨ι1, h1, k, R1, F1, rb, r1⟩ => by
    cases (show b = k from rb)
    cases b with
    | true => exact iteT ⟨ι1, h1, env, R1, S.mono R F1, r1⟩
    | false => exact iteF ⟨ι1, h1, env, R1, S.mono R F1, r1⟩⟩

/-! targets -/
def RE (ι : List Addr) (H : Hp) (σ : L2.St) (env : Env) : Prop := RSt ι H σ env
abbrev MTg := IV → Env → M Env
def tIG (W : ExW) (t : MTg) : TG := fun v σ H Q => ∃ ι h env x, Rel ι h H ∧ RSt ι H σ env ∧ RV ι H v x ∧ Run W RE (t x env h) ι H Q
def tIGs (W : ExW) (t : List IV → Env → M Env) : TGs := fun v σ H Q => ∃ ι h env x, Rel ι h H ∧ RSt ι H σ env ∧ RVs ι H v x ∧ Run W RE (t x env h) ι H Q
def PGI (X : Cx) (W : ExW) (e : Expr) (t : MTg) : Prop := PG X e (tIG W t)
def PGsI (X : Cx) (W : ExW) (e : List Expr) (t : List IV → Env → M Env) : Prop := PGs X e (tIGs W t)
theorem PG.weak {e : Expr} {t t' : TG} (h : PG X e t) (k : ∀ v σ H Q, t' v σ H Q → t v σ H Q) : PG X e t' := ⟨fun pins s σ H v u Q I r q => h.run pins s σ H v u Q I r (k v σ H Q q)⟩
theorem PGs.weak {e : List Expr} {t t' : TGs} (h : PGs X e t) (k : ∀ v σ H Q, t' v σ H Q → t v σ H Q) : PGs X e t' := ⟨fun pins s σ H v u Q I r q => h.run pins s σ H v u Q I r (k v σ H Q q)⟩
def TgN (i : Nat) : MTg := fun x env => M.pure (env.set i (some x))
theorem pgi_name (i : Nat) {x : Str} (hN : X.N.Nodup) (hi : X.N[i]? = some x := by rfl) (hx : Loc X.env.scope x := by first | exact Or.inl rfl | exact Or.inr rfl) (hf : X.fn x = true ∨ X.env.scope.names.lookup x = some .local := by first | exact .inl rfl | exact .inr rfl) : PGI X W (.Name x pos) (TgN i) :=
  PG.weak (pg_name hN hi hx hf) fun v σ H Q ⟨ι, h, env, x, R, S, rv, r⟩ => r ι H _ R (Fr.refl _ _) (S.set rv)
def TgNil : List IV → Env → M Env
  | [], env => M.pure env
  | _, _ => stuck
def TgCons (t : MTg) (u : List IV → Env → M Env) : List IV → Env → M Env
  | x :: xs, env => M.bind (t x env) fun env' => u xs env'
  | [], _ => stuck
theorem pgsi_nil : PGsI X W [] TgNil := PGs.weak pgs_nil fun v σ H Q ⟨ι, h, env, x, R, S, rv, r⟩ => by
  cases rv with
  | nil => exact ⟨rfl, r ι H _ R (Fr.refl _ _) S⟩
  | cons _ _ => exact r.elim
theorem pgsi_cons {es : List Expr} {tm : MTg} {um : List IV → Env → M Env} (h1 : PGI X W e tm) (h2 : PGsI X W es um) (hs : (assignEach (e :: es) X.env).map (·.2) = assign e X.env :: (assignEach es X.env).map (·.2) := by rfl) : PGsI X W (e :: es) (TgCons tm um) :=
  PGs.weak (pgs_cons h1 h2 hs) fun v σ H Q ⟨ι, h, env, x, R, S, rv, r⟩ => by
    cases rv with
    | nil => exact r.elim
    | @cons v0 x0 vs xs a rs =>
      refine ⟨v0, vs, rfl, ι, h, env, x0, R, S, a, (run_bind (rel1 := RE) r).mono fun σ1 H1 ⟨ι1, h1, env1, R1, F1, S1, r1⟩ => ?_⟩
      exact ⟨ι1, h1, env1, xs, R1, S1, R.monos F1 rs, r1⟩
def TgTup (n : Nat) (u : List IV → Env → M Env) : MTg := fun x env => match x with
  | .tup xs => if xs.length = n then u xs env else stuck
  | _ => stuck
theorem pgi_tup (n : Nat) {es : List Expr} {k : Nat} {um : List IV → Env → M Env} (hc : X.calm = true) (h : PGsI X W es um) (hn : (assignEach es X.env).length = n := by rfl) (hst : (assignEach es X.env).findIdx? (·.1) = none := by rfl) : PGI X W (.Tuple es k pos) (TgTup n um) :=
  PG.weak (pg_tup hc h hn hst) fun v σ H Q ⟨ι, h, env, x, R, S, rv, r⟩ => by
    cases rv with
    | @tup a vs xs e1 rs =>
      obtain ⟨hl, r⟩ := run_if (m := um xs env) r
      exact ⟨a, vs, rfl, st_of e1, by rw [rs.length]; exact hl, ι, h, env, xs, R, S, rs, r⟩
    | _ => exact r.elim
/-- o[i] = v -/
def setM (o i v : IV) : M Unit := fun h => match o with
  | .ref n => match h[n]? with
    | some (.lst xs) => match i with
      | .int k => match ixN xs.length k with
        | some j => some (.ok (), h.set n (.lst (xs.set j v)))
        | none => none
      | _ => none
    | some (.dic kvs) => match keyI i with
      | some k => if kvs.length < lim then some (.ok (), h.set n (.dic (putI kvs k v))) else none
      | none => none
    | some (.fdc _) => none
    | none => none
  | _ => none
def TgSub (o i : Env → M IV) : MTg := fun v env => M.bind (o env) fun a => M.bind (i env) fun b => M.bind (setM a b v) fun _ => M.pure env
theorem pgi_sub {o i : Expr} {mo mi : Env → M IV} (hu : X.A.units + 65 < cLine) (ho : PEI X W o mo) (hi : PEI X W i mi)
    (ha : ∀ v, assign (.Subscript o i pos) X.env v = (do let ov ← holding [v] (eval o X.env); let iv ← holding [v, ov] (eval i X.env); standAt pos; holding [v, ov, iv] (setItem ov iv v); release [v, ov, iv] []) := by intro _; rfl) : PGI X W (.Subscript o i pos) (TgSub mo mi) := by
  refine PG.weak (pg_sub (t := fun o i v H Q => rSetL o i v H Q ∨ rSetD o i v H Q) ho hi (fun pins s σ H o i v ov iv u Q I r1 r2 r3 q => q.elim (set_list pins s σ H o i v ov iv u Q I r1 r2 r3) (set_dict (by omega) pins s σ H o i v ov iv u Q I r1 r2 r3)) ha) fun v σ H Q ⟨ι, h, env, x, R, S, rv, r⟩ => ?_
  refine ⟨ι, h, env, R, S, (run_bind (rel1 := RV) r).mono fun a H1 ⟨ι1, h1, xa, R1, F1, ra, r1⟩ => ?_⟩
  refine ⟨ι1, h1, env, R1, S.mono R F1, (run_bind (rel1 := RV) r1).mono fun b H2 ⟨ι2, h2, xb, R2, F2, rb, r2⟩ => ?_⟩
  have rv2 := R1.mono F2 (R.mono F1 rv)
  have S2 := (S.mono R F1).mono R1 F2
  have ra2 := R1.mono F2 ra
  have fin : ∀ {n : Nat} {al : Addr} {o : HO} {u : IO}, ι2[n]? = some al → NF H2 al → RO ι2 (upd H2 al o) al u → Run W RE (M.pure env (h2.set n u)) ι2 H2 Q → Q σ (upd H2 al o) := fun {n al o u} ea nf new r3 =>
    r3 ι2 _ σ (R2.set ea new) (fr_set (List.mem_of_getElem? ea) nf) (S2.monok R2 (fk_set (List.mem_of_getElem? ea)))
  cases ra2 with
  | @ref n al ea =>
    have r3 : Run W RE (M.bind (setM (.ref n) xb x) (fun _ => M.pure env) h2) ι2 H2 Q := r2
    unfold M.bind setM at r3
    cases q : h2[n]? with
    | none => simp only [q] at r3; exact r3.elim
    | some ob =>
      cases ob with
      | lst xs =>
        simp only [q] at r3
        obtain ⟨a', vs, q1, q0, q2, rs⟩ := R2.lst (.ref ea) q
        cases q1
        cases rb with
        | int k =>
          cases q3 : ixN xs.length k with
          | none => simp only [q3] at r3; exact r3.elim
          | some j =>
            simp only [q3] at r3
            exact .inl ⟨_, vs, k, j, rfl, rfl, q2, by rw [rs.length]; exact q3, fin (u := .lst (xs.set j x)) ea (nf_lst q2) ⟨_, upd_same, R2.monosk (fk_set (List.mem_of_getElem? ea)) (rs.set j rv2)⟩ r3⟩
        | _ => exact r3.elim
      | dic kvs =>
        simp only [q] at r3
        obtain ⟨a', ks, q1, q0, q2, rk⟩ := R2.dic (.ref ea) q
        cases q1
        cases q3 : keyI xb with
        | none => simp only [q3] at r3; exact r3.elim
        | some k =>
          simp only [q3] at r3
          by_cases hl : kvs.length < lim
          · rw [if_pos hl] at r3
            refine .inr ⟨_, _, rfl, ?_, fin (o := .dK (putK ks k v)) (u := .dic (putI kvs k x)) ea (nf_dk q2) ⟨putK ks k v, upd_same, RKs.monok R2 (fk_set (List.mem_of_getElem? ea)) (rk.put rv2)⟩ r3⟩
            rw [key_ok rb q3]
            exact DPut.k q2 (by rw [rk.length]; exact sz_lt hl)
          · rw [if_neg hl] at r3; exact r3.elim
      | fdc _ => simp only [q] at r3; exact r3.elim
  | _ => exact r2.elim
def AsgS (m : Env → M IV) (t : MTg) : Env → M Fl := fun env => M.bind (m env) fun x => M.bind (t x env) fun env' => M.pure (.nx env')
theorem tIS_asg {tm : MTg} {D : Ends} {σ : L2.St} {H : Hp} (s : tIS W (AsgS m tm) D σ H) : tAsg (tI W m) (tIG W tm) D σ H := by
  obtain ⟨ι, h, env, R, S, r⟩ := s
  exact ⟨ι, h, env, R, S, (run_bind (rel1 := RV) r).mono fun v H1 ⟨ι1, h1, x, R1, F1, rv, r1⟩ =>
    ⟨ι1, h1, env, x, R1, S.mono R F1, rv, (run_bind (rel1 := RE) r1).mono fun σ2 H2 ⟨ι2, h2, env2, R2, F2, S2, r2⟩ => r2 ι2 H2 (.nx σ2) R2 (Fr.refl _ _) (.nx S2)⟩⟩
theorem psi_asg {tg : Expr} {tm : MTg} (he : PEI X W e m) (hg : PGI X W tg tm) (hs : swapsWithSole [tg] e pos.line X.env = pure false := by rfl) (h1 : (assignEach [tg] X.env).map (·.2) = [assign tg X.env] := by rfl) (h2 : swappedStores [tg] e X.env = pure none := by rfl) : PSI X W (.Assign [tg] e pos) (AsgS m tm) :=
  PS.weak (ps_asg he hg hs h2 h1) fun D σ H s => tIS_asg s
theorem psi_set (i : Nat) {x : Str} {pos' : Pos} (hN : X.N.Nodup) (he : PEI X W e m) (hi : X.N[i]? = some x := by rfl) (hx : Loc X.env.scope x := by first | exact Or.inl rfl | exact Or.inr rfl) (hs : swapsWith e (some (.Name x pos')) pos.line X.env = pure false := by rfl)
    (hf : X.fn x = true ∨ X.env.scope.names.lookup x = some .local := by first | exact .inl rfl | exact .inr rfl) : PSI X W (.Assign [.Name x pos'] e pos) (AsgS m (TgN i)) :=
  PS.weak (ps_set hN hi hx he hs hf) fun D σ H s => by
    have q := tIS_asg s
    obtain ⟨ι, h, env, R, S, r⟩ := q
    exact ⟨ι, h, env, R, S, r.mono fun v H1 ⟨ι1, h1, env1, x, R1, S1, rv, r1⟩ => r1 ι1 H1 _ R1 (Fr.refl _ _) (S1.set rv)⟩
def ParS (i j : Nat) (a : Env → M (List IV)) : Env → M Fl := fun env => M.bind (a env) fun xs => match xs with
  | [x, y] => M.pure (.nx ((env.set i (some x)).set j (some y)))
  | _ => stuck
theorem psi_par (i j : Nat) {x y : Str} {a b : Expr} {ma : Env → M (List IV)} {px py pt : Pos} {kt k2 pt2} (hc : X.calm = true) (hN : X.N.Nodup) (ha : PAI X W [a, b] ma) (hi : X.N[i]? = some x := by rfl) (hj : X.N[j]? = some y := by rfl) (hij : i ≠ j := by decide)
    (hx : X.env.scope.names.lookup x = some .local := by rfl) (hy : X.env.scope.names.lookup y = some .local := by rfl) (hw : swappedStores [.Tuple [.Name x px, .Name y py] kt pt] (.Tuple [a, b] k2 pt2) X.env = pure (some [x, y]) := by rfl)
    (hs : swapsWithSole [.Tuple [.Name x px, .Name y py] kt pt] (.Tuple [a, b] k2 pt2) pos.line X.env = pure false := by rfl) : PSI X W (.Assign [.Tuple [.Name x px, .Name y py] kt pt] (.Tuple [a, b] k2 pt2) pos) (ParS i j ma) :=
  PS.weak (ps_par hc hN hi hj hij hx hy ha hw hs) fun D σ H ⟨ι, h, env, R, S, r⟩ =>
    ⟨ι, h, env, R, S, (run_bind (rel1 := RVs) r).mono fun vs H1 ⟨ι1, h1, xs, R1, F1, rs, r1⟩ => by
      cases rs with
      | nil => exact r1.elim
      | cons a1 rs => cases rs with
        | nil => exact r1.elim
        | cons a2 rs => cases rs with
          | nil => exact ⟨_, _, rfl, r1 ι1 H1 (.nx _) R1 (Fr.refl _ _) (.nx (((S.mono R F1).set a1).set a2))⟩
          | cons _ _ => exact r1.elim⟩

/-! loops -/
def WhileS (c : Env → M Bool) (b : Env → M Fl) : Nat → Env → M Fl
  | 0, _ => stuck
  | n + 1, env => M.bind (c env) fun k => if k = true then M.bind (b env) fun f => (match f with
      | .nx e => WhileS c b n e
      | .ct e => WhileS c b n e
      | .bk e => M.pure (.nx e)
      | .rt x => M.pure (.rt x)) else M.pure (.nx env)
theorem psi_while (n : Nat) {body : List Stmt} {mb : Env → M Fl} (hp : PassesOwn (model X.prog X.w) X.A X.env X.xe) (hc : PTI X W c t) (hb : PSsI X W body mb) : PSI X W (.While c body [] pos) (WhileS t mb n) := PS.weak (ps_while hp hc hb) fun D σ H s => by
  refine ⟨fun k σ H => tIS W (WhileS t mb k) D σ H, ⟨n, s⟩, fun k σ H s => ?_⟩
  obtain ⟨ι, h, env, R, S, r⟩ := s
  cases k with
  | zero => exact r.elim
  | succ k =>
    refine ⟨ι, h, env, R, S, (run_bind (rel1 := RB) r).mono fun b H1 ⟨ι1, h1, kb, R1, F1, rb, r1⟩ => ?_⟩
    cases (show b = kb from rb)
    cases b with
    | false => exact iteF (r1 ι1 H1 (.nx σ) R1 (Fr.refl _ _) (.nx (S.mono R F1)))
    | true =>
      refine iteT ⟨fun σ H => tIS W (WhileS t mb k) D σ H, fun σ' H' q => ⟨k, Nat.lt_succ_self _, q⟩, ι1, h1, env, R1, S.mono R F1, (run_bind (rel1 := RFl) (m := mb env) r1).mono fun f H2 ⟨ι2, h2, fm, R2, F2, rf, r2⟩ => ?_⟩
      cases rf with
      | nx S2 => exact ⟨ι2, h2, _, R2, S2, r2⟩
      | ct S2 => exact ⟨ι2, h2, _, R2, S2, r2⟩
      | bk S2 => exact r2 ι2 H2 (.nx _) R2 (Fr.refl _ _) (.nx S2)
      | rt rv => exact r2 ι2 H2 (.rt _) R2 (Fr.refl _ _) (.rt rv)
end

/-! ### what is walked -/
abbrev Src := IH → Nat → Option (Option IV)
/-- what the i-th turn takes: none: no word; some none: the end -/
def SItems (xs : List IV) : Src := fun _ i => some xs[i]?
def SLive (n : Nat) : Src := fun h i => match h[n]? with
  | some (.lst xs) => some xs[i]?
  | _ => none
def SEnum (s : Src) : Src := fun h i => (s h i).map fun o => o.map fun x => .tup [.int i, x]
def SZip (s t : Src) : Src := fun h i => match s h i, t h i with
  | some (some x), some (some y) => some (some (.tup [x, y]))
  | some none, some _ => some none
  | some _, some none => some none
  | _, _ => none
def keysI (kvs : List (Key × IV)) : List IV := kvs.map fun kv => match kv.1 with | .inl i => .int i | .inr s => .str s
/-- the keys of a locked dict -/
def SKeys (n : Nat) : Src := fun h i => match h[n]? with
  | some (.fdc kvs) => some (keysI kvs)[i]?
  | _ => none
def SRev (n k : Nat) : Src := fun h i => if i < k then (match h[n]? with
  | some (.lst xs) => (xs[k - 1 - i]?).map some
  | _ => none) else some none
def RJ (ι : List Addr) (H : Hp) (J : It) (s : Src) : Prop := ∀ ι2 h2 H2, Rel ι2 h2 H2 → Fr ι H ι2 H2 → ∀ i, match s h2 i with
  | none => True
  | some none => J.stop i H2
  | some (some x) => J.go i H2 ∧ ∀ v H3, J.yld i H2 v H3 → ∃ ι3, Rel ι3 h2 H3 ∧ Fr ι2 H2 ι3 H3 ∧ RV ι3 H3 v x
def tII (W : ExW) (m : Env → M Src) : TI := fun σ H Rr => ∃ ι h env, Rel ι h H ∧ RSt ι H σ env ∧ Run W RJ (m env h) ι H Rr
def PII (X : Cx) (W : ExW) (tg e : Expr) (m : Env → M Src) : Prop := PI X tg e (tII W m)
def ForL (s : Src) (t : MTg) (b : Env → M Fl) : Nat → Nat → Env → M Fl
  | 0, _, _ => stuck
  | n + 1, i, env => fun h => match s h i with
    | none => none
    | some none => some (.ok (.nx env), h)
    | some (some x) => M.bind (t x env) (fun env' => M.bind (b env') fun f => (match f with
      | .nx e => ForL s t b n (i + 1) e
      | .ct e => ForL s t b n (i + 1) e
      | .bk e => M.pure (.nx e)
      | .rt x => M.pure (.rt x))) h
def ForS (n : Nat) (src : Env → M Src) (t : MTg) (b : Env → M Fl) : Env → M Fl := fun env => M.bind (src env) fun s => ForL s t b n 0 env
section
variable {X : Cx} {W : ExW} {e e2 c tg : Expr} {m : Env → M IV} {ma : Env → M (List IV)} {pos p : Pos} {ι : List Addr} {h : IH} {H : Hp}
theorem psi_for (n : Nat) {iter : Expr} {body : List Stmt} {src : Env → M Src} {tm : MTg} {mb : Env → M Fl} (hp : PassesOwn (model X.prog X.w) X.A X.env X.xe) (hc : X.calm = true) (hi : PII X W tg iter src) (hg : PGI X W tg tm) (hb : PSsI X W body mb)
    (hs : ∀ x, foldedSetIterable iter X.env x = pure x := by intro _; rfl) : PSI X W (.For tg iter body [] pos) (ForS n src tm mb) := PS.weak (ps_for hp hc hi hg hb hs) fun D σ H ⟨ι, h, env, R, S, r⟩ => by
  refine ⟨ι, h, env, R, S, (run_bind (rel1 := RJ) r).mono fun J H1 ⟨ι1, h1, s, R1, F1, rj, r1⟩ => ?_⟩
  refine ⟨fun i k σ2 H2 => ∃ ι2 h2 env2, Rel ι2 h2 H2 ∧ Fr ι1 H1 ι2 H2 ∧ RSt ι2 H2 σ2 env2 ∧ Run W RFl (ForL s tm mb k i env2 h2) ι2 H2 (D2Q D), ⟨n, ι1, h1, env, R1, Fr.refl _ _, S.mono R F1, r1⟩, ?_⟩
  rintro i k σ2 H2 ⟨ι2, h2, env2, R2, F2, S2, r2⟩
  cases k with
  | zero => exact r2.elim
  | succ k =>
    have q := rj ι2 h2 H2 R2 F2 i
    unfold ForL at r2
    cases e0 : s h2 i with
    | none => simp only [e0] at r2; exact r2.elim
    | some o =>
      cases o with
      | none =>
        simp only [e0] at r2 q
        exact .inl ⟨q, r2 ι2 H2 (.nx σ2) R2 (Fr.refl _ _) (.nx S2)⟩
      | some x =>
        simp only [e0] at r2 q
        refine .inr ⟨q.1, fun σ3 H3 => ∃ ι3 h3 env3, Rel ι3 h3 H3 ∧ Fr ι1 H1 ι3 H3 ∧ RSt ι3 H3 σ3 env3 ∧ Run W RFl (ForL s tm mb k (i + 1) env3 h3) ι3 H3 (D2Q D), fun σ' H' w => ⟨k, Nat.lt_succ_self _, w⟩, fun v H3 y => ?_⟩
        obtain ⟨ι3, R3, F3, rv⟩ := q.2 v H3 y
        have r2' : Run W RFl (M.bind (tm x env2) (fun env' => M.bind (mb env') fun f => (match f with
          | .nx e => ForL s tm mb k (i + 1) e
          | .ct e => ForL s tm mb k (i + 1) e
          | .bk e => M.pure (.nx e)
          | .rt x => M.pure (.rt x))) h2) ι3 H3 (D2Q D) := by
          unfold Run at r2 ⊢
          split <;> rename_i e9 <;> simp only [e9] at r2
          · exact fun ι' H' v R F z => r2 ι' H' v R (F3.trans F) z
          · exact fun ι' H' R F => r2 ι' H' R (F3.trans F)
        refine ⟨ι3, h2, env2, x, R3, S2.mono R2 F3, rv, (run_bind (rel1 := RE) r2').mono fun σ4 H4 ⟨ι4, h4, env4, R4, F4, S4, r4⟩ => ?_⟩
        refine ⟨ι4, h4, env4, R4, S4, (run_bind (rel1 := RFl) r4).mono fun f H5 ⟨ι5, h5, fm, R5, F5, rf, r5⟩ => ?_⟩
        have F15 := ((F2.trans F3).trans F4).trans F5
        cases rf with
        | nx S5 => exact ⟨ι5, h5, _, R5, F15, S5, r5⟩
        | ct S5 => exact ⟨ι5, h5, _, R5, F15, S5, r5⟩
        | bk S5 => exact r5 ι5 H5 (.nx _) R5 (Fr.refl _ _) (.nx S5)
        | rt rv => exact r5 ι5 H5 (.rt _) R5 (Fr.refl _ _) (.rt rv)

/-! sources -/
theorem rj_tup {K : PySem.W.Frag} (R : Rel ι h H) {a : Addr} {vs : List V} {xs : List IV} (e : H a = some (.tup vs)) (rs : RVs ι H vs xs) : RJ ι H (Itt K a) (SItems xs) := by
  intro ι2 h2 H2 R2 F2 i
  have e2 := (F2.keep _ _ e (R.tup_out e)).1
  have rs2 := R.monos F2 rs
  show match some xs[i]? with
    | none => True
    | some none => (Itt K a).stop i H2
    | some (some x) => (Itt K a).go i H2 ∧ _
  cases q : xs[i]? with
  | none =>
    refine ⟨vs, st_of e2, ?_⟩
    rw [rs2.length]; exact List.getElem?_eq_none_iff.mp q
  | some x =>
    obtain ⟨v, q1, rv⟩ := rs2.get q
    refine ⟨⟨vs, v, st_of e2, q1⟩, fun w H3 y => ?_⟩
    obtain ⟨y1, y2⟩ := y
    subst y1
    have := y2 vs (st_of e2)
    rw [q1] at this
    cases this
    exact ⟨ι2, R2, Fr.refl _ _, rv⟩
theorem rj_fl {K : PySem.W.Frag} (R : Rel ι h H) {a : Addr} {o : Obj} {vs : List V} {xs : List IV} (e : H a = some (.frz o (.lst vs))) (hn : a ∉ ι) (rs : RVs ι H vs xs) : RJ ι H (Itl K a) (SItems xs) := by
  intro ι2 h2 H2 R2 F2 i
  have e2 := (F2.keep _ _ e hn).1
  have rs2 := R.monos F2 rs
  show match some xs[i]? with
    | none => True
    | some none => (Itl K a).stop i H2
    | some (some x) => (Itl K a).go i H2 ∧ _
  cases q : xs[i]? with
  | none =>
    refine ⟨vs, sf_of e2, ?_⟩
    rw [rs2.length]; exact List.getElem?_eq_none_iff.mp q
  | some x =>
    obtain ⟨v, q1, rv⟩ := rs2.get q
    refine ⟨⟨vs, v, sf_of e2, q1⟩, fun w H3 y => ?_⟩
    obtain ⟨y1, y2⟩ := y
    subst y1
    have := y2 vs (sf_of e2)
    rw [q1] at this
    cases this
    exact ⟨ι2, R2, Fr.refl _ _, rv⟩
theorem rj_live {K : PySem.W.Frag} {n : Nat} {a : Addr} (ea : ι[n]? = some a) : RJ ι H (Itl K a) (SLive n) := by
  intro ι2 h2 H2 R2 F2 i
  have ea2 := pre_get F2.pre ea
  unfold SLive
  cases q0 : h2[n]? with
  | none => trivial
  | some o =>
    cases o with
    | dic _ => trivial
    | fdc _ => trivial
    | lst xs =>
      obtain ⟨a', vs, z1, _, e2, rs2⟩ := R2.lst (.ref ea2) q0
      cases z1
      show match some xs[i]? with
        | none => True
        | some none => (Itl K _).stop i H2
        | some (some x) => (Itl K _).go i H2 ∧ _
      cases q : xs[i]? with
      | none =>
        refine ⟨vs, sq_of e2, ?_⟩
        rw [rs2.length]; exact List.getElem?_eq_none_iff.mp q
      | some x =>
        obtain ⟨v, q1, rv⟩ := rs2.get q
        refine ⟨⟨vs, v, sq_of e2, q1⟩, fun w H3 y => ?_⟩
        obtain ⟨y1, y2⟩ := y
        subst y1
        have := y2 vs (sq_of e2)
        rw [q1] at this
        cases this
        exact ⟨ι2, R2, Fr.refl _ _, rv⟩
def srcI : IV → M Src
  | .tup xs => M.pure (SItems xs)
  | .fl xs => M.pure (SItems xs)
  | .ref n => fun h => match h[n]? with
    | some (.lst _) => some (.ok (SLive n), h)
    | some (.fdc _) => some (.ok (SKeys n), h)
    | _ => none
  | .str s => M.pure (SItems (s.cps.toList.map fun c => .str ⟨#[c]⟩))
  | _ => stuck
def Iter (m : Env → M IV) : Env → M Src := fun env => M.bind (m env) srcI
theorem rj_str {s : Str} : RJ ι H (Its s) (SItems (s.cps.toList.map fun c => .str ⟨#[c]⟩)) := by
  intro ι2 h2 H2 R2 F2 i
  show match some (s.cps.toList.map fun c => IV.str ⟨#[c]⟩)[i]? with
    | none => True
    | some none => (Its s).stop i H2
    | some (some x) => (Its s).go i H2 ∧ _
  rw [List.getElem?_map]
  cases q : s.cps.toList[i]? with
  | none =>
    have := List.getElem?_eq_none_iff.mp q
    show s.cps.size ≤ i
    simpa using this
  | some c =>
    have hl := (List.getElem?_eq_some_iff.mp q).1
    refine ⟨by show i < s.cps.size; simpa using hl, fun v H3 y => ?_⟩
    obtain ⟨y1, c', y2, y3⟩ := y
    subst y1 y3
    have e : c' = c := by
      rw [Array.getElem?_toList] at q
      rw [q] at y2; cases y2; rfl
    subst e
    exact ⟨ι2, R2, Fr.refl _ _, .str _⟩
theorem rj_keys {n : Nat} {a : Addr} {ob : Obj} {ks : List (Key × V)} (ea : ι[n]? = some a) (e : H a = some (.frz ob (.dK ks))) : RJ ι H (Itk a ob ks) (SKeys n) := by
  intro ι2 h2 H2 R2 F2 i
  have ea2 := pre_get F2.pre ea
  have eH := F2.frz _ _ _ e
  unfold SKeys
  cases q0 : h2[n]? with
  | none => trivial
  | some o =>
    cases o with
    | lst _ => trivial
    | dic _ => trivial
    | fdc kvs =>
      obtain ⟨a', ob', ks', z1, _, e2, rk⟩ := R2.fdc (.ref ea2) q0
      cases z1
      rw [eH] at e2
      cases e2
      have rs : RVs ι2 H2 (ks.map fun kv => kV kv.1) (keysI kvs) := rk.keys
      have lk : (keysI kvs).length = kvs.length := by unfold keysI; rw [List.length_map]
      have ln := rk.length
      show match some (keysI kvs)[i]? with
        | none => True
        | some none => (Itk _ _ _).stop i H2
        | some (some x) => (Itk _ _ _).go i H2 ∧ _
      cases q : (keysI kvs)[i]? with
      | none =>
        have := List.getElem?_eq_none_iff.mp q
        exact ⟨eH, by omega⟩
      | some x =>
        have lt := (List.getElem?_eq_some_iff.mp q).1
        obtain ⟨v, q1, rv⟩ := rs.get q
        refine ⟨⟨eH, by omega⟩, fun w H3 y => ?_⟩
        obtain ⟨y1, k, u, y2, y3⟩ := y
        subst y1
        rw [List.getElem?_map, y2] at q1
        cases q1
        subst y3
        exact ⟨ι2, R2, Fr.refl _ _, rv⟩
theorem pii_seq (he : PEI X W e m) : PII X W tg e (Iter m) := by
  refine PI.weak (PI.or (pi_list he) (PI.or (pi_tup he) (PI.or (pi_str he) (pi_keys he)))) fun σ H Rr ⟨ι, h, env, R, S, r⟩ => ?_
  -- which of the three: by the value that comes
  have run := run_bind (rel1 := RV) r
  have key : ∀ (P : V → Hp → Prop), (∀ v H1, (∃ ι1 h1 x, Rel ι1 h1 H1 ∧ Fr ι H ι1 H1 ∧ RV ι1 H1 v x ∧ Run W RJ (srcI x h1) ι1 H1 Rr) → P v H1) → tI W m σ H P := fun P k => ⟨ι, h, env, R, S, run.mono k⟩
  cases q : m env h with
  | none => unfold Iter M.bind at r; rw [q] at r; exact r.elim
  | some oh =>
    obtain ⟨o, h1⟩ := oh
    cases o with
    | ex ee =>
      refine .inl ⟨ι, h, env, R, S, ?_⟩
      rw [q]
      have r' : Run W RJ (some (Out.ex ee, h1)) ι H Rr := by unfold Iter M.bind at r; rw [q] at r; exact r
      exact r'
    | ok x =>
      have r' : Run W RJ (srcI x h1) ι H Rr := by unfold Iter M.bind at r; rw [q] at r; exact r
      have mk : ∀ (P : V → Hp → Prop), (∀ ι' H' v, Rel ι' h1 H' → Fr ι H ι' H' → RV ι' H' v x → P v H') → tI W m σ H P := fun P k => ⟨ι, h, env, R, S, by rw [q]; exact k⟩
      cases x with
      | non => exact r'.elim
      | bl _ => exact r'.elim
      | int _ => exact r'.elim
      | kl _ => exact r'.elim
      | exo => exact r'.elim
      | str s => exact .inr (.inr (.inl (mk _ fun ι' H' v R' F' rv => by cases rv; exact ⟨s, rfl, r' ι' H' _ R' F' rj_str⟩)))
      | tup xs => exact .inr (.inl (mk _ fun ι' H' v R' F' rv => by
          cases rv with
          | tup e1 rs => exact ⟨_, rfl, ⟨_, st_of e1⟩, r' ι' H' _ R' F' (rj_tup R' e1 rs)⟩))
      | fl xs => exact .inl (mk _ fun ι' H' v R' F' rv => by
          cases rv with
          | fl e1 hn rs => exact ⟨_, rfl, ⟨_, sf_of e1⟩, r' ι' H' _ R' F' (rj_fl R' e1 hn rs)⟩)
      | ref n =>
        have r'' : Run W RJ (match h1[n]? with
          | some (.lst _) => some (.ok (SLive n), h1)
          | some (.fdc _) => some (.ok (SKeys n), h1)
          | _ => none) ι H Rr := r'
        split at r''
        · rename_i xs e1
          exact .inl (mk _ fun ι' H' v R' F' rv => by
            obtain ⟨a, vs, z1, ea, e2, rs⟩ := R'.lst rv e1
            subst z1
            exact ⟨a, rfl, ⟨vs, sq_of e2⟩, r'' ι' H' _ R' F' (rj_live ea)⟩)
        · rename_i kvs e1
          exact .inr (.inr (.inr (mk _ fun ι' H' v R' F' rv => by
            obtain ⟨a, ob, ks, z1, ea, e2, rk⟩ := R'.fdc rv e1
            subst z1
            exact ⟨a, ob, rfl, .inl ⟨ks, e2, r'' ι' H' _ R' F' (rj_keys ea e2)⟩⟩)))
        · exact r''.elim
@[irreducible] def rngLim : Int := 1000000000
def SRange (lo : Int) (n : Nat) : Src := fun _ i => some (if i < n then some (.int (lo + i)) else none)
def rng1 : List IV → M Src
  | [.int j] => if -rngLim ≤ j ∧ j < rngLim then M.pure (SRange 0 j.toNat) else stuck
  | _ => stuck
def rng2 : List IV → M Src
  | [.int i, .int j] => if (-rngLim ≤ i ∧ i < rngLim) ∧ -rngLim ≤ j ∧ j < rngLim then M.pure (SRange i (j - i).toNat) else stuck
  | _ => stuck
def IterA (g : List IV → M Src) (ma : Env → M (List IV)) : Env → M Src := fun env => M.bind (ma env) g
theorem rj_range {lo : Int} {n : Nat} : RJ ι H (Itr lo n) (SRange lo n) := by
  intro ι2 h2 H2 R2 F2 i
  show match some (if i < n then some (IV.int (lo + i)) else none) with
    | none => True
    | some none => (Itr lo n).stop i H2
    | some (some x) => (Itr lo n).go i H2 ∧ _
  by_cases hi : i < n
  · rw [if_pos hi]
    refine ⟨hi, fun v H3 y => ?_⟩
    obtain ⟨y1, y2⟩ := y
    subst y1 y2
    exact ⟨ι2, R2, Fr.refl _ _, .int _⟩
  · rw [if_neg hi]
    exact Nat.le_of_not_lt hi
theorem pii_range1 (hm : X.mg "range" = none) (ha : PAI X W [e] ma) (hg : Gl X "range" := by rfl) (hs : starEach [e] X.env = [(false, eval e X.env)] := by rfl) : PII X W tg (.Call (.Name "range" p) [e] [] pos) (IterA rng1 ma) :=
  PI.weak (pi_range1 hg hm ha hs) fun σ H Rr ⟨ι, h, env, R, S, r⟩ => ⟨ι, h, env, R, S, (run_bind (rel1 := RVs) r).mono fun vs H1 ⟨ι1, h1, xs, R1, F1, rs, r1⟩ => by
    cases rs with
    | nil => exact r1.elim
    | cons a rs =>
      cases a with
      | int j => cases rs with
        | nil =>
          obtain ⟨hl, r1⟩ := run_if (m := M.pure (SRange 0 j.toNat)) r1
          unfold rngLim at hl
          exact ⟨j, rfl, by omega, by omega, r1 ι1 H1 _ R1 (Fr.refl _ _) rj_range⟩
        | cons _ _ => exact r1.elim
      | _ => exact r1.elim⟩
theorem pii_range2 (hm : X.mg "range" = none) (ha : PAI X W [e, e2] ma) (hg : Gl X "range" := by rfl) (hs : starEach [e, e2] X.env = [(false, eval e X.env), (false, eval e2 X.env)] := by rfl) (hs2 : starEach [e2] X.env = [(false, eval e2 X.env)] := by rfl) : PII X W tg (.Call (.Name "range" p) [e, e2] [] pos) (IterA rng2 ma) :=
  PI.weak (pi_range2 hg hm ha hs hs2) fun σ H Rr ⟨ι, h, env, R, S, r⟩ => ⟨ι, h, env, R, S, (run_bind (rel1 := RVs) r).mono fun vs H1 ⟨ι1, h1, xs, R1, F1, rs, r1⟩ => by
    cases rs with
    | nil => exact r1.elim
    | cons a rs =>
      cases a with
      | int i => cases rs with
        | nil => exact r1.elim
        | cons b rs => cases b with
          | int j => cases rs with
            | nil =>
              obtain ⟨hl, r1⟩ := run_if (m := M.pure (SRange i (j - i).toNat)) r1
              unfold rngLim at hl
              exact ⟨i, j, rfl, by omega, r1 ι1 H1 _ R1 (Fr.refl _ _) rj_range⟩
            | cons _ _ => exact r1.elim
          | _ => exact r1.elim
      | _ => exact r1.elim⟩
end
end Iv
set_option Elab.async false
set_option linter.all false
set_option maxRecDepth 100000
set_option maxHeartbeats 2000000
set_option autoImplicit false
namespace Iv
open PySem L2
variable [KL]

abbrev W0 : ExW := fun _ _ _ _ => False
/-! ### a def -/
def Fn (n : Nat) (m : Env → M Fl) : List IV → M IV := fun xs => M.bind (m (xs.map some ++ List.replicate (n - xs.length) none)) fun f => match f with
  | .rt x => M.pure x
  | .nx _ => M.pure .non
  | _ => stuck
def spI (WW : XK → ExW) (n : Nat) (F : List IV → M IV) : Sp := fun vs H Q E => vs.length = n ∧ ∃ ι h xs, Rel ι h H ∧ RVs ι H vs xs ∧ Run (WW E) RV (F xs h) ι H Q
abbrev sp0 (n : Nat) (F : List IV → M IV) : Sp := spI (fun _ => W0) n F
theorem rst_start {ι : List Addr} {H : Hp} {vs : List V} {xs : List IV} (r : RVs ι H vs xs) (N : List Str) : RSt ι H (L2.start N vs) (xs.map some ++ List.replicate (N.length - xs.length) none) := by
  refine ⟨by simp [L2.start, r.length], fun i x e => ?_⟩
  by_cases hi : i < xs.length
  · rw [List.getElem?_append_left (by simpa using hi), List.getElem?_map] at e
    cases q : xs[i]? with
    | none => rw [q] at e; cases e
    | some y =>
      rw [q] at e; cases e
      obtain ⟨v, q1, rv⟩ := r.get q
      refine ⟨v, ?_, rv⟩
      unfold L2.start
      rw [List.getElem?_append_left (by rw [List.length_map, r.length]; exact hi), List.getElem?_map, q1]
      rfl
  · rw [List.getElem?_append_right (by simpa using Nat.le_of_not_lt hi), List.getElem?_replicate] at e
    split at e <;> cases e
section
variable {P : Program} {w : World} {K : PySem.W.Frag} {mg : Str → Option Value} {base : Heap} {W : ExW}
theorem fn_start {ι : List Addr} {h : IH} {H : Hp} {vs : List V} {xs : List IV} {N : List Str} {m : Env → M Fl} {Q : VK} (R : Rel ι h H) (rs : RVs ι H vs xs) (r : Run W RV (Fn N.length m xs h) ι H Q) : tIS W m { nx := fun _ H' => Q .non H', rt := Q } (L2.start N vs) H := by
  refine ⟨ι, h, _, R, rst_start rs N, (run_bind (rel1 := RFl) r).mono fun f H1 ⟨ι1, h1, fm, R1, F1, rf, r1⟩ => ?_⟩
  cases rf with
  | nx _ => exact run_pure (x := IV.non) r1 R1 .non
  | rt rv => exact run_pure r1 R1 rv
  | bk _ => exact r1.elim
  | ct _ => exact r1.elim
/-- a def that raises nothing -/
theorem def_ok {x qual : Str} {st : Stmt} {f : Addr} {fd : FuncData} {N ps : List Str} {k : Nat} {m : Env → M Fl} (F : Fun K x qual st f fd) (S : FnScope N ps (defScope st))
    (hb : ∀ (cdv : Value) (A : Around) (outer : List PySem.Env) (s : Shared) (H : Hp) (E : XK), Room k (A.deeper (PyProof.Rows.envOfC qual (defScope st) s.heap.objs.size f cdv)) → PSsI (cxOf CX0 P w K mg base N qual (defScope st) f cdv A outer s H E).nox W0 (defBody st) m) :
    FnOk P w K mg base CX0 (k + 1) f fd ps (sp0 ps.length (Fn N.length m)) := by
  refine F.ok S (fun vs H Q E q => q.1) fun cdv A outer s H vs Q E hr ⟨_, ι, h, xs, R, rs, r⟩ => ⟨_, hb cdv A outer s H E hr, fn_start R rs r⟩
theorem fn_eq {k : Nat} {f : Addr} {fd : FuncData} {ps : List Str} {n : Nat} {F G : List IV → M IV} {CX : CXT} {WW : XK → ExW} (h : FnOk P w K mg base CX k f fd ps (spI WW n F)) (e : F = G) : FnOk P w K mg base CX k f fd ps (spI WW n G) := e ▸ h
theorem Room.hu {k : Nat} {A : Around} (hr : Room k A) : A.units + 65 < cLine := by have := hr.un; omega
end
def noex {α : Type} (m : M α) : M α := fun h => match m h with
  | some (.ok x, h') => some (.ok x, h')
  | _ => none
theorem run_noex {α β : Type} {W : ExW} {rel : List Addr → Hp → β → α → Prop} {m : M α} {h : IH} {ι : List Addr} {H : Hp} {Q : β → Hp → Prop} (r : Run W rel (noex m h) ι H Q) : Run W0 rel (m h) ι H Q := by
  unfold noex at r
  generalize m h = o at r
  match o, r with
  | none, r => exact r
  | some (.ok x, h'), r => exact r
  | some (.ex e, h'), r => exact r.elim
/-- a call of a def of n parameters -/
def CallF (n : Nat) (F : List IV → M IV) (a : Env → M (List IV)) : Env → M IV := fun env => M.bind (a env) fun xs => if xs.length = n then noex (F xs) else stuck
section
variable {X : Cx} {W : ExW} {e e2 o : Expr} {es : List Expr} {ma : Env → M (List IV)} {m mo : Env → M IV} {pos p apos : Pos} {x : Str}
/-- a call of a def of the text that raises nothing -/
theorem pei_call0 {F : List IV → M IV} {k n : Nat} {f : Addr} {fd : FuncData} {ps : List Str} (FO : FnOk X.prog X.w X.K X.mg X.base CX0 k f fd ps (sp0 n F)) (hr : Room k X.A) (hm : X.mg x = some (.ref f)) (hk : PySem.W.keepIn X.K (.ref f) = true) (hb : Binds X.K fd ps [])
    (ha : PAI X W (e :: es) ma) (hg : Gl X x := by rfl) (hdb : (x == ("__debug__" : Str)) = false := by decide) (he : starEach (e :: es) X.env = (false, eval e X.env) :: starEach es X.env := by rfl)
    (hpl : (backTo pos (starEach es X.env)).any (·.1) = false := by rfl) : PEI X W (.Call (.Name x p) (e :: es) [] pos) (CallF n F ma) :=
  PE.weak (pe_call FO hr hg hm hk hb .nil pass0 ha hdb he hpl) fun σ H Q ⟨ι, h, env, R, S, r⟩ =>
    ⟨ι, h, env, R, S, (run_bind (rel1 := RVs) r).mono fun vs H1 ⟨ι1, h1, xs, R1, F1, rs, r1⟩ => by
      obtain ⟨hl, r1⟩ := run_if r1
      rw [List.append_nil]
      exact ⟨by rw [rs.length]; exact hl, ι1, h1, xs, R1, rs, run_noex r1⟩⟩
theorem pei_call00 {F : List IV → M IV} {k n : Nat} {f : Addr} {fd : FuncData} {ps : List Str} (FO : FnOk X.prog X.w X.K X.mg X.base CX0 k f fd ps (sp0 n F)) (hr : Room k X.A) (hm : X.mg x = some (.ref f)) (hk : PySem.W.keepIn X.K (.ref f) = true) (hb : Binds X.K fd ps [])
    (hg : Gl X x := by rfl) (hdb : (x == ("__debug__" : Str)) = false := by decide) : PEI X W (.Call (.Name x p) [] [] pos) (CallF n F Nil) :=
  PE.weak (pe_call0 FO hr hg hm hk hb .nil pass0 hdb) fun σ H Q ⟨ι, h, env, R, S, r⟩ => by
    obtain ⟨hl, r1⟩ := run_if (m := noex (F [])) r
    exact ⟨hl, ι, h, [], R, .nil, run_noex r1⟩

/-- all that a caller wants of a callee -/
def CallOk (P : Program) (w : World) (K : PySem.W.Frag) (mg : Str → Option Value) (base : Heap) (x : Str) (k n : Nat) (F : List IV → M IV) : Prop :=
  ∃ f fd ps, FnOk P w K mg base CX0 k f fd ps (sp0 n F) ∧ mg x = some (.ref f) ∧ PySem.W.keepIn K (.ref f) = true ∧ Binds K fd ps []
theorem CallOk.mono {P : Program} {w : World} {K : PySem.W.Frag} {mg : Str → Option Value} {base : Heap} {j k n : Nat} {F : List IV → M IV} (C : CallOk P w K mg base x j n F) (h : j ≤ k) : CallOk P w K mg base x k n F :=
  let ⟨f, fd, ps, a, b, c, d⟩ := C; ⟨f, fd, ps, a.mono h, b, c, d⟩
theorem pei_callC {F : List IV → M IV} {k n : Nat} (C : CallOk X.prog X.w X.K X.mg X.base x k n F) (hr : Room k X.A) (ha : PAI X W (e :: es) ma) (hg : Gl X x := by rfl) (hdb : (x == ("__debug__" : Str)) = false := by decide) (he : starEach (e :: es) X.env = (false, eval e X.env) :: starEach es X.env := by rfl)
    (hpl : (backTo pos (starEach es X.env)).any (·.1) = false := by rfl) : PEI X W (.Call (.Name x p) (e :: es) [] pos) (CallF n F ma) :=
  let ⟨_, _, _, a, b, c, d⟩ := C; pei_call0 a hr b c d ha hg hdb he hpl
theorem pei_callC0 {F : List IV → M IV} {k n : Nat} (C : CallOk X.prog X.w X.K X.mg X.base x k n F) (hr : Room k X.A) (hg : Gl X x := by rfl) (hdb : (x == ("__debug__" : Str)) = false := by decide) : PEI X W (.Call (.Name x p) [] [] pos) (CallF n F Nil) :=
  let ⟨_, _, _, a, b, c, d⟩ := C; pei_call00 a hr b c d hg hdb
/-- a def of the text, as it stands behind the top -/
def TopFn (K : PySem.W.Frag) (mg : Str → Option Value) (x : Str) (st : Stmt) (ps : List Str) : Prop := ∃ f fd, Fun K x x st f fd ∧ mg x = some (.ref f) ∧ Binds K fd ps []
theorem top_ok {P : Program} {w : World} {K : PySem.W.Frag} {mg : Str → Option Value} {base : Heap} {st : Stmt} {N ps : List Str} {k : Nat} {mb : Env → M Fl} (T : TopFn K mg x st ps) (S : FnScope N ps (defScope st))
    (hb : ∀ (f : Addr) (cdv : Value) (A : Around) (outer : List PySem.Env) (s : Shared) (H : Hp) (E : XK), Room k (A.deeper (PyProof.Rows.envOfC x (defScope st) s.heap.objs.size f cdv)) → PSsI (cxOf CX0 P w K mg base N x (defScope st) f cdv A outer s H E).nox W0 (defBody st) mb) :
    CallOk P w K mg base x (k + 1) ps.length (Fn N.length mb) :=
  let ⟨f, fd, F, m, b⟩ := T; ⟨f, fd, ps, def_ok F S (hb f), m, F.kp, b⟩
/-- the bottom of a recursion -/
theorem top_stuck {P : Program} {w : World} {K : PySem.W.Frag} {mg : Str → Option Value} {base : Heap} {st : Stmt} {ps : List Str} (k : Nat) (T : TopFn K mg x st ps) : CallOk P w K mg base x k ps.length (fun _ => stuck) :=
  let ⟨f, fd, F, m, b⟩ := T; ⟨f, fd, ps, ⟨fun _ _ _ _ q => q.1, fun _ _ _ _ _ _ _ _ _ _ _ _ _ ⟨_, _, _, _, _, _, r⟩ => r.elim⟩, m, F.kp, b⟩

/-! ### methods of built-in types -/
def Mth (chk : IV → M Unit) (g : IV → List IV → M IV) (o : Env → M IV) (a : Env → M (List IV)) : Env → M IV := fun env => M.bind (o env) fun x => M.bind (chk x) fun _ => M.bind (a env) fun xs => g x xs
def RMt (W : ExW) (r : V → List V → Hp → VK → Prop) (g : IV → List IV → M IV) : Prop := ∀ ι h H v x vs xs Q, Rel ι h H → RV ι H v x → RVs ι H vs xs → Run W RV (g x xs h) ι H Q → r v vs H Q
def chkL : IV → M Unit := fun x h => match x with
  | .ref n => match h[n]? with
    | some (.lst _) => some (.ok (), h)
    | _ => none
  | _ => none
def chkS : IV → M Unit := fun x h => match x with
  | .str _ => some (.ok (), h)
  | _ => none
theorem chkL_ok {ι : List Addr} {h : IH} {H : Hp} {v : V} {y : IV} {α β : Type} {rel : List Addr → Hp → β → α → Prop} {k : Unit → M α} {Q : β → Hp → Prop} (R : Rel ι h H) (rv : RV ι H v y) (r : Run W rel (M.bind (chkL y) k h) ι H Q) : tyV X.K "list" v H ∧ Run W rel (k () h) ι H Q := by
  cases rv with
  | @ref n a ea =>
    unfold M.bind chkL at r
    cases q : h[n]? with
    | none => simp only [q] at r; exact r.elim
    | some o =>
      cases o with
      | lst xs =>
        simp only [q] at r
        obtain ⟨a', vs, q1, _, q2, rs⟩ := R.lst (.ref ea) q
        cases q1
        exact ⟨.inl ⟨rfl, vs, sq_of q2⟩, r⟩
      | dic _ => simp only [q] at r; exact r.elim
      | fdc _ => simp only [q] at r; exact r.elim
  | _ => exact r.elim
theorem chkS_ok {ι : List Addr} {h : IH} {H : Hp} {v : V} {y : IV} {α β : Type} {rel : List Addr → Hp → β → α → Prop} {k : Unit → M α} {Q : β → Hp → Prop} (rv : RV ι H v y) (r : Run W rel (M.bind (chkS y) k h) ι H Q) : tyV X.K "str" v H ∧ Run W rel (k () h) ι H Q := by
  cases rv with
  | str s => exact ⟨rfl, r⟩
  | _ => exact r.elim
section
variable {T id : String} {name : Str} {r : V → List V → Hp → VK → Prop} {g : IV → List IV → M IV} {chk : IV → M Unit}
theorem pei_mth (hck : ∀ {ι : List Addr} {h : IH} {H : Hp} {v : V} {y : IV} {k : Unit → M IV} {Q : VK}, Rel ι h H → RV ι H v y → Run W RV (M.bind (chk y) k h) ι H Q → tyV X.K T v H ∧ Run W RV (k () h) ι H Q) (hr : RMt W r g) (pa : PlainAttrs T) (slot : Slot T name id) (hty : typeOf (.builtin id) = pure (.type "method_descriptor")) (hm : MtR X id r)
    (ho : PEI X W o mo) (ha : PAI X W (e :: es) ma) (hbase : attributeBase o name X.env (eval o X.env) = eval o X.env := by rfl)
    (hfew : ((backTo pos (starEach (e :: es) X.env)).all (fun x => !x.1) && (backToKw pos (keywordEach [] X.env)).all (fun x => x.1.isSome) && decide ((e :: es).length + ([] : List Keyword).length + (if ([] : List Keyword).isEmpty then 0 else 1) < 30)) = true := by rfl)
    (hline : (apos.endLine == pos.line) = true := by rfl) (hs : starEach (e :: es) X.env = (false, eval e X.env) :: starEach es X.env := by rfl) (hplain : (backTo pos (starEach es X.env)).any (·.1) = false := by rfl) :
    PEI X W (.Call (.Attribute o name apos) (e :: es) [] pos) (Mth chk g mo ma) := PE.weak (pe_bm pa slot hty hm ho ha hbase hfew hline hs hplain) fun σ H Q ⟨ι, h, env, R, S, r⟩ =>
  ⟨ι, h, env, R, S, (run_bind (rel1 := RV) r).mono fun v H1 ⟨ι1, h1, y, R1, F1, rv, r1⟩ => by
    obtain ⟨ty, r2⟩ := hck R1 rv r1
    refine ⟨ty, ι1, h1, env, R1, S.mono R F1, (run_bind (rel1 := RVs) r2).mono fun vs H2 ⟨ι2, h2, ys, R2, F2, rs, r3⟩ => ?_⟩
    exact hr ι2 h2 H2 v y vs ys Q R2 (R1.mono F2 rv) rs r3⟩
theorem pei_mth0 (hck : ∀ {ι : List Addr} {h : IH} {H : Hp} {v : V} {y : IV} {k : Unit → M IV} {Q : VK}, Rel ι h H → RV ι H v y → Run W RV (M.bind (chk y) k h) ι H Q → tyV X.K T v H ∧ Run W RV (k () h) ι H Q) (hr : RMt W r g) (pa : PlainAttrs T) (slot : Slot T name id) (hty : typeOf (.builtin id) = pure (.type "method_descriptor")) (hm : MtR X id r)
    (ho : PEI X W o mo) (hbase : attributeBase o name X.env (eval o X.env) = eval o X.env := by rfl) (hline : (apos.endLine == pos.line) = true := by rfl) :
    PEI X W (.Call (.Attribute o name apos) [] [] pos) (Mth chk g mo Nil) := PE.weak (pe_bm0 pa slot hty hm ho hbase hline) fun σ H Q ⟨ι, h, env, R, S, r⟩ =>
  ⟨ι, h, env, R, S, (run_bind (rel1 := RV) r).mono fun v H1 ⟨ι1, h1, y, R1, F1, rv, r1⟩ => by
    obtain ⟨ty, r2⟩ := hck R1 rv r1
    exact ⟨ty, hr ι1 h1 H1 v y [] [] Q R1 rv .nil r2⟩⟩
end
def appM : IV → List IV → M IV := fun x ys h => match x, ys with
  | .ref n, [y] => match h[n]? with
    | some (.lst xs) => if xs.length < lim then some (.ok .non, h.set n (.lst (xs ++ [y]))) else none
    | _ => none
  | _, _ => none
def extM : IV → List IV → M IV := fun x ys h => match x, ys with
  | .ref n, [.ref m] => match h[n]?, h[m]? with
    | some (.lst xs), some (.lst zs) => if xs.length + zs.length ≤ lim then some (.ok .non, h.set n (.lst (xs ++ zs))) else none
    | _, _ => none
  | _, _ => none
def popM : IV → List IV → M IV := fun x ys h => match x, ys with
  | .ref n, [] => match h[n]? with
    | some (.lst xs) => match xs[xs.length - 1]? with
      | some y => some (.ok y, h.set n (.lst xs.dropLast))
      | none => none
    | _ => none
  | _, _ => none
def popAtM : IV → List IV → M IV := fun x ys h => match x, ys with
  | .ref n, [.int i] => match h[n]? with
    | some (.lst xs) => if -rngLim ≤ i ∧ i < rngLim then (match seqIndex? i xs.length with
      | some k => match xs[k]? with
        | some y => some (.ok y, h.set n (.lst (xs.eraseIdx k)))
        | none => none
      | none => none) else none
    | _ => none
  | _, _ => none
def joinM : IV → List IV → M IV := fun x ys h => match x, ys with
  | .str a, [y] => match (seqI h y).bind strs? with
    | some zs => if (zs.map (·.length)).sum + zs.length * a.length ≤ lim then some (.ok (.str (Txt.join a zs)), h) else none
    | none => none
  | _, _ => none
def splitM : IV → List IV → M IV := fun x ys h => match x, ys with
  | .str a, [.str b] => if (b.length == 0) = false ∧ a.length + 2 ≤ lim then mkL ((Txt.split a b).map IV.str) h else none
  | _, _ => none
theorem run_set {ι : List Addr} {h : IH} {H : Hp} {n : Nat} {a : Addr} {o : HO} {u : IO} {y : IV} {v : V} {Q : VK} (R : Rel ι h H) (ea : ι[n]? = some a) (nf : NF H a) (new : RO ι (upd H a o) a u) (rv : RV ι H v y) (r : Run W RV (some (.ok y, h.set n u)) ι H Q) : Q v (upd H a o) :=
  r ι _ v (R.set ea new) (fr_set (List.mem_of_getElem? ea) nf) (R.monok (fk_set (List.mem_of_getElem? ea)) rv)
theorem rm_app : RMt W rAppend appM := by
  intro ι h H v x vs xs Q R rv rs r
  cases rv with
  | @ref n a ea =>
    cases rs with
    | nil => exact r.elim
    | @cons w y _ _ rw rs =>
      cases rs with
      | cons _ _ => exact r.elim
      | nil =>
        have r' : Run W RV (match h[n]? with
          | some (.lst xs) => if xs.length < lim then some (.ok .non, h.set n (.lst (xs ++ [y]))) else none
          | _ => none) ι H Q := r
        split at r'
        · rename_i zs e1
          split at r'
          · rename_i hl
            obtain ⟨a', ws, q1, q0, q2, r1⟩ := R.lst (.ref ea) e1
            cases q1
            exact ⟨_, ws, w, rfl, rfl, q2, by rw [r1.length]; exact sz_lt hl, run_set (u := .lst (zs ++ [y])) R ea (nf_lst q2) ⟨_, upd_same, (R.monosk (fk_set (List.mem_of_getElem? ea)) r1).append (.cons (R.monok (fk_set (List.mem_of_getElem? ea)) rw) .nil)⟩ .non r'⟩
          · exact r'.elim
        · exact r'.elim
  | _ => exact r.elim
theorem rm_pop : RMt W rPop popM := by
  intro ι h H v x vs xs Q R rv rs r
  cases rv with
  | @ref n a ea =>
    cases rs with
    | cons _ _ => exact r.elim
    | nil =>
      have r' : Run W RV (match h[n]? with
        | some (.lst xs) => match xs[xs.length - 1]? with
          | some y => some (.ok y, h.set n (.lst xs.dropLast))
          | none => none
        | _ => none) ι H Q := r
      split at r'
      · rename_i zs e1
        split at r'
        · rename_i y e2
          obtain ⟨a', ws, q1, q0, q2, r1⟩ := R.lst (.ref ea) e1
          cases q1
          obtain ⟨u, q3, ru⟩ := r1.get e2
          exact ⟨_, ws, u, rfl, rfl, q2, by rw [r1.length]; exact q3, run_set (u := .lst zs.dropLast) R ea (nf_lst q2) ⟨_, upd_same, (R.monosk (fk_set (List.mem_of_getElem? ea)) r1).dropLast⟩ ru r'⟩
        · exact r'.elim
      · exact r'.elim
  | _ => exact r.elim
theorem rm_popAt : RMt W rPopAt popAtM := by
  intro ι h H v x vs xs Q R rv rs r
  cases rv with
  | @ref n a ea =>
    cases rs with
    | nil => exact r.elim
    | @cons w y _ _ rw rs =>
      cases rs with
      | cons _ _ => cases rw <;> exact r.elim
      | nil =>
        cases rw with
        | int i =>
          have r' : Run W RV (match h[n]? with
            | some (.lst xs) => if -rngLim ≤ i ∧ i < rngLim then (match seqIndex? i xs.length with
              | some k => match xs[k]? with
                | some y => some (.ok y, h.set n (.lst (xs.eraseIdx k)))
                | none => none
              | none => none) else none
            | _ => none) ι H Q := r
          split at r'
          · rename_i zs e1
            split at r'
            · rename_i hb
              unfold rngLim at hb
              split at r'
              · rename_i k e2
                split at r'
                · rename_i y e3
                  obtain ⟨a', ws, q1, q0, q2, r1⟩ := R.lst (.ref ea) e1
                  cases q1
                  obtain ⟨u, q3, ru⟩ := r1.get e3
                  exact ⟨_, ws, i, k, u, rfl, rfl, q2, by omega, by omega, by rw [r1.length]; exact e2, q3, run_set (u := .lst (zs.eraseIdx k)) R ea (nf_lst q2) ⟨_, upd_same, (R.monosk (fk_set (List.mem_of_getElem? ea)) r1).eraseIdx k⟩ ru r'⟩
                · exact r'.elim
              · exact r'.elim
            · exact r'.elim
          · exact r'.elim
        | _ => exact r.elim
  | _ => exact r.elim
theorem rm_ext : RMt W rExtend extM := by
  intro ι h H v x vs xs Q R rv rs r
  cases rv with
  | @ref n a ea =>
    cases rs with
    | nil => exact r.elim
    | @cons w y _ _ rw rs =>
      cases rs with
      | cons _ _ => cases rw <;> exact r.elim
      | nil =>
        cases rw with
        | @ref k b eb =>
          have r' : Run W RV (match h[n]?, h[k]? with
            | some (.lst xs), some (.lst zs) => if xs.length + zs.length ≤ lim then some (.ok .non, h.set n (.lst (xs ++ zs))) else none
            | _, _ => none) ι H Q := r
          split at r'
          · rename_i zs us e1 e2
            split at r'
            · rename_i hl
              obtain ⟨a', ws, q1, q0, q2, r1⟩ := R.lst (.ref ea) e1
              cases q1
              obtain ⟨b', ts, q3, _, q4, r2⟩ := R.lst (.ref eb) e2
              cases q3
              exact ⟨_, _, ws, ts, rfl, rfl, q2, q4, by rw [r1.length, r2.length]; exact sz_of hl, run_set (u := .lst (zs ++ us)) R ea (nf_lst q2) ⟨_, upd_same, (R.monosk (fk_set (List.mem_of_getElem? ea)) r1).append (R.monosk (fk_set (List.mem_of_getElem? ea)) r2)⟩ .non r'⟩
            · exact r'.elim
          · exact r'.elim
        | _ => exact r.elim
  | _ => exact r.elim
def rJoin (K : PySem.W.Frag) : V → List V → Hp → VK → Prop := fun x xs H Q => ∃ a p, ∃ ys : List Str, x = .str a ∧ xs = [.ref p] ∧ (SqL K H p (ys.map V.str) ∨ SqT K H p (ys.map V.str)) ∧ (ys.map (·.length)).sum + ys.length * a.length ≤ 16777216 ∧ Q (.str (Txt.join a ys)) H
theorem rm_join : RMt W (rJoin X.K) joinM := by
  intro ι h H v x vs xs Q R rv rs r
  cases rv with
  | str a =>
    cases rs with
    | nil => exact r.elim
    | @cons w y _ _ rw rs =>
      cases rs with
      | cons _ _ => exact r.elim
      | nil =>
        have r' : Run W RV (match (seqI h y).bind strs? with
          | some zs => if (zs.map (·.length)).sum + zs.length * a.length ≤ lim then some (.ok (.str (Txt.join a zs)), h) else none
          | none => none) ι H Q := r
        cases q : seqI h y with
        | none => rw [q] at r'; exact r'.elim
        | some ys =>
          cases q2 : strs? ys with
          | none => rw [q] at r'; simp only [Option.bind_some, q2] at r'; exact r'.elim
          | some zs =>
            rw [q] at r'; simp only [Option.bind_some, q2] at r'
            split at r'
            · rename_i hl
              obtain ⟨p, ws, e1, rs, e2⟩ := seq_ok (K := X.K) R rw q
              subst e1
              rw [strs?_eq q2] at rs
              have e3 := rs.strs
              subst e3
              exact ⟨a, p, zs, rfl, rfl, e2, by have h9 := sz_of hl; rw [sizeLine_eq] at h9; exact h9, run_pure (x := IV.str _) r' R (.str _)⟩
            · exact r'.elim
  | _ => exact r.elim
def rSplit : V → List V → Hp → VK → Prop := fun x xs H Q => ∃ a b, x = .str a ∧ xs = [.str b] ∧ (b.length == 0) = false ∧ a.length + 2 ≤ sizeLine ∧ rNewStrs (Txt.split a b) H Q
theorem rm_split : RMt W rSplit splitM := by
  intro ι h H v x vs xs Q R rv rs r
  cases rv with
  | str a =>
    cases rs with
    | nil => exact r.elim
    | @cons w y _ _ rw rs =>
      cases rs with
      | cons _ _ => cases rw <;> exact r.elim
      | nil =>
        cases rw with
        | str b =>
          have r' : Run W RV (if (b.length == 0) = false ∧ a.length + 2 ≤ lim then mkL ((Txt.split a b).map IV.str) h else none) ι H Q := r
          split at r'
          · rename_i hl
            exact ⟨a, b, rfl, rfl, hl.1, sz_of hl.2, (new_lst R (RVs.of_strs _) r').2⟩
          · exact r'.elim
        | _ => exact r.elim
  | _ => exact r.elim
theorem pei_append (ho : PEI X W o mo) (ha : PAI X W [e] ma) (hbase : attributeBase o "append" X.env (eval o X.env) = eval o X.env := by rfl) (hline : (apos.endLine == pos.line) = true := by rfl) (hs : starEach [e] X.env = (false, eval e X.env) :: starEach [] X.env := by rfl) 
    (hfew : ((backTo pos (starEach [e] X.env)).all (fun x => !x.1) && (backToKw pos (keywordEach [] X.env)).all (fun x => x.1.isSome) && decide ([e].length + ([] : List Keyword).length + (if ([] : List Keyword).isEmpty then 0 else 1) < 30)) = true := by rfl) : PEI X W (.Call (.Attribute o "append" apos) [e] [] pos) (Mth chkL appM mo ma) :=
  pei_mth (fun R rv r => chkL_ok R rv r) rm_app PySem.F.plainAttrs_list PySem.F.slot_list_append PySem.F.type_list_append mt_append ho ha hbase hfew hline hs
theorem pei_extend (ho : PEI X W o mo) (ha : PAI X W [e] ma) (hbase : attributeBase o "extend" X.env (eval o X.env) = eval o X.env := by rfl) (hline : (apos.endLine == pos.line) = true := by rfl) (hs : starEach [e] X.env = (false, eval e X.env) :: starEach [] X.env := by rfl) 
    (hfew : ((backTo pos (starEach [e] X.env)).all (fun x => !x.1) && (backToKw pos (keywordEach [] X.env)).all (fun x => x.1.isSome) && decide ([e].length + ([] : List Keyword).length + (if ([] : List Keyword).isEmpty then 0 else 1) < 30)) = true := by rfl) : PEI X W (.Call (.Attribute o "extend" apos) [e] [] pos) (Mth chkL extM mo ma) :=
  pei_mth (fun R rv r => chkL_ok R rv r) rm_ext PySem.F.plainAttrs_list PySem.F.slot_list_extend PySem.F.type_list_extend mt_extend ho ha hbase hfew hline hs
theorem pei_popAt (ho : PEI X W o mo) (ha : PAI X W [e] ma) (hbase : attributeBase o "pop" X.env (eval o X.env) = eval o X.env := by rfl) (hline : (apos.endLine == pos.line) = true := by rfl) (hs : starEach [e] X.env = (false, eval e X.env) :: starEach [] X.env := by rfl) 
    (hfew : ((backTo pos (starEach [e] X.env)).all (fun x => !x.1) && (backToKw pos (keywordEach [] X.env)).all (fun x => x.1.isSome) && decide ([e].length + ([] : List Keyword).length + (if ([] : List Keyword).isEmpty then 0 else 1) < 30)) = true := by rfl) : PEI X W (.Call (.Attribute o "pop" apos) [e] [] pos) (Mth chkL popAtM mo ma) :=
  pei_mth (fun R rv r => chkL_ok R rv r) rm_popAt PySem.F.plainAttrs_list PySem.F.slot_list_pop PySem.F.type_list_pop mt_popAt ho ha hbase hfew hline hs
theorem pei_pop (ho : PEI X W o mo) (hbase : attributeBase o "pop" X.env (eval o X.env) = eval o X.env := by rfl) (hline : (apos.endLine == pos.line) = true := by rfl) : PEI X W (.Call (.Attribute o "pop" apos) [] [] pos) (Mth chkL popM mo Nil) :=
  pei_mth0 (fun R rv r => chkL_ok R rv r) rm_pop PySem.F.plainAttrs_list PySem.F.slot_list_pop PySem.F.type_list_pop mt_pop ho hbase hline
theorem pei_join (ho : PEI X W o mo) (ha : PAI X W [e] ma) (hbase : attributeBase o "join" X.env (eval o X.env) = eval o X.env := by rfl) (hline : (apos.endLine == pos.line) = true := by rfl) (hs : starEach [e] X.env = (false, eval e X.env) :: starEach [] X.env := by rfl) 
    (hfew : ((backTo pos (starEach [e] X.env)).all (fun x => !x.1) && (backToKw pos (keywordEach [] X.env)).all (fun x => x.1.isSome) && decide ([e].length + ([] : List Keyword).length + (if ([] : List Keyword).isEmpty then 0 else 1) < 30)) = true := by rfl) : PEI X W (.Call (.Attribute o "join" apos) [e] [] pos) (Mth chkS joinM mo ma) :=
  pei_mth (fun R rv r => chkS_ok rv r) rm_join PySem.F.plainAttrs_str PySem.F.slot_str_join PySem.F.type_str_join mt_join ho ha hbase hfew hline hs
theorem pei_split (ho : PEI X W o mo) (ha : PAI X W [e] ma) (hbase : attributeBase o "split" X.env (eval o X.env) = eval o X.env := by rfl) (hline : (apos.endLine == pos.line) = true := by rfl) (hs : starEach [e] X.env = (false, eval e X.env) :: starEach [] X.env := by rfl) 
    (hfew : ((backTo pos (starEach [e] X.env)).all (fun x => !x.1) && (backToKw pos (keywordEach [] X.env)).all (fun x => x.1.isSome) && decide ([e].length + ([] : List Keyword).length + (if ([] : List Keyword).isEmpty then 0 else 1) < 30)) = true := by rfl) : PEI X W (.Call (.Attribute o "split" apos) [e] [] pos) (Mth chkS splitM mo ma) :=
  pei_mth (fun R rv r => chkS_ok rv r) rm_split PySem.F.plainAttrs_str PySem.F.slot_str_split PySem.F.type_str_split mt_split ho ha hbase hfew hline hs
end

/-! ### isinstance -/
inductive Ty where
  | non | bl | int | str | lst | tup | dic
  deriving DecidableEq
def Ty.name : Ty → String
  | .non => "NoneType" | .bl => "bool" | .int => "int" | .str => "str" | .lst => "list" | .tup => "tuple" | .dic => "dict"
def Ty.isA : Ty → Ty → Bool
  | .bl, .int => true
  | a, b => decide (a = b)
def tyI (h : IH) : IV → Option Ty
  | .non => some .non
  | .bl _ => some .bl
  | .int _ => some .int
  | .str _ => some .str
  | .tup _ => some .tup
  | .fl _ => some .lst
  | .kl _ => none
  | .exo => none
  | .ref n => match h[n]? with
    | some (.lst _) => some .lst
    | some (.dic _) => some .dic
    | some (.fdc _) => none
    | none => none
def Isi (ts : List Ty) (m : Env → M IV) : Env → M IV := fun env => M.bind (m env) fun x => fun h => match tyI h x with
  | some t => some (.ok (.bl (ts.any fun u => t.isA u)), h)
  | none => none
theorem kit_isA (a b : Ty) : kitB a.name b.name = some (a.isA b) := by cases a <;> cases b <;> decide +kernel
theorem ty_ok {K : PySem.W.Frag} {ι : List Addr} {h : IH} {H : Hp} (R : Rel ι h H) {v : V} {x : IV} {t : Ty} (rv : RV ι H v x) (e : tyI h x = some t) : TyX K H v (.type t.name) := by
  cases rv with
  | non => cases e; exact .base .non
  | bl b => cases e; exact .base (.bl b)
  | int i => cases e; exact .base (.int i)
  | str s => cases e; exact .base (.str s)
  | tup e1 _ => cases e; exact .base (.tup e1)
  | fl e1 _ _ => cases e; exact .base (.frz e1)
  | kl _ _ => cases e
  | exo _ _ _ => cases e
  | @ref n a ea =>
    have e' : (match h[n]? with
      | some (.lst _) => some Ty.lst
      | some (.dic _) => some Ty.dic
      | some (.fdc _) => none
      | none => none) = some t := e
    split at e'
    · rename_i xs e2; cases e'
      obtain ⟨a', vs, q1, _, q2, r⟩ := R.lst (.ref ea) e2
      cases q1
      exact .base (.lst q2)
    · rename_i xs e2; cases e'
      obtain ⟨a', vs, q1, _, q2, r⟩ := R.dic (.ref ea) e2
      cases q1
      exact .base (.dK q2)
    · cases e'
    · cases e'
section
variable {X : Cx} {W : ExW} {e c1 c2 : Expr} {m : Env → M IV} {pos p p1 p2 p3 : Pos}
theorem ty_lst (hm : X.mg "list" = none) (hg : Gl X "list" := by rfl) : PE X (.Name "list" p) (tC (V.ty Ty.lst.name)) := pe_bltn (u := .type "list") hg hm (by decide +kernel) rfl
theorem ty_tup (hm : X.mg "tuple" = none) (hg : Gl X "tuple" := by rfl) : PE X (.Name "tuple" p) (tC (V.ty Ty.tup.name)) := pe_bltn (u := .type "tuple") hg hm (by decide +kernel) rfl
theorem ty_str (hm : X.mg "str" = none) (hg : Gl X "str" := by rfl) : PE X (.Name "str" p) (tC (V.ty Ty.str.name)) := pe_bltn (u := .type "str") hg hm (by decide +kernel) rfl
theorem ty_int (hm : X.mg "int" = none) (hg : Gl X "int" := by rfl) : PE X (.Name "int" p) (tC (V.ty Ty.int.name)) := pe_bltn (u := .type "int") hg hm (by decide +kernel) rfl
theorem ty_bl (hm : X.mg "bool" = none) (hg : Gl X "bool" := by rfl) : PE X (.Name "bool" p) (tC (V.ty Ty.bl.name)) := pe_bltn (u := .type "bool") hg hm (by decide +kernel) rfl
theorem pei_isi1 (t : Ty) (hm : X.mg "isinstance" = none) (h1 : PE X c1 (tC (V.ty t.name))) (he : PEI X W e m) (hg : Gl X "isinstance" := by rfl)
    (hs : starEach [e, c1] X.env = (false, eval e X.env) :: starEach [c1] X.env := by rfl) (hs1 : starEach [c1] X.env = (false, eval c1 X.env) :: starEach [] X.env := by rfl) (hpl : (backTo pos (starEach [c1] X.env)).any (·.1) = false := by rfl) : PEI X W (.Call (.Name "isinstance" p) [e, c1] [] pos) (Isi [t] m) := by
  refine PE.weak (pe_callB call_isi hg hm (by decide +kernel) (pa_cons he (pa_cons h1 pa_nil hs1) hs) (by decide) (by decide) hs hpl) fun σ H Q ⟨ι, h, env, R, S, r⟩ => ?_
  refine ⟨ι, h, env, R, S, (run_bind (rel1 := RV) r).mono fun v H1 ⟨ι1, h1, y, R1, F1, rv, r1⟩ => ?_⟩
  cases q : tyI h1 y with
  | none => simp only [q] at r1; exact r1.elim
  | some u =>
    simp only [q] at r1
    refine ⟨v, _, _, _, u.isA t, rfl, .ty _, ty_ok R1 rv q, kit_ty (kit_isA u t), ?_⟩
    have := run_pure (x := IV.bl ([t].any fun z => u.isA z)) r1 R1 (.bl _)
    simpa using this
theorem pei_isi2 (t t2 : Ty) {k : Nat} (hm : X.mg "isinstance" = none) (h1 : PE X c1 (tC (V.ty t.name))) (h2 : PE X c2 (tC (V.ty t2.name))) (he : PEI X W e m) (hg : Gl X "isinstance" := by rfl)
    (hs : starEach [e, .Tuple [c1, c2] k p3] X.env = (false, eval e X.env) :: starEach [.Tuple [c1, c2] k p3] X.env := by rfl) (hs0 : starEach [.Tuple [c1, c2] k p3] X.env = (false, eval (.Tuple [c1, c2] k p3) X.env) :: starEach [] X.env := by rfl)
    (hs1 : starEach [c1, c2] X.env = (false, eval c1 X.env) :: starEach [c2] X.env := by rfl) (hs2 : starEach [c2] X.env = (false, eval c2 X.env) :: starEach [] X.env := by rfl)
    (hpl : (backTo pos (starEach [.Tuple [c1, c2] k p3] X.env)).any (·.1) = false := by rfl) : PEI X W (.Call (.Name "isinstance" p) [e, .Tuple [c1, c2] k p3] [] pos) (Isi [t, t2] m) := by
  refine PE.weak (pe_callB call_isiT hg hm (by decide +kernel) (pa_cons he (pa_cons (pe_tup (pa_cons h1 (pa_cons h2 pa_nil hs2) hs1)) pa_nil hs0) hs) (by decide) (by decide) hs hpl) fun σ H Q ⟨ι, h, env, R, S, r⟩ => ?_
  refine ⟨ι, h, env, R, S, (run_bind (rel1 := RV) r).mono fun v H1 ⟨ι1, h1, y, R1, F1, rv, r1⟩ => ?_⟩
  cases q : tyI h1 y with
  | none => simp only [q] at r1; exact r1.elim
  | some u =>
    simp only [q] at r1
    refine ⟨by show 2 ≤ sizeLine; decide, fun tp htp => ?_⟩
    have R2 := R1.new (o := .tup [V.ty t.name, V.ty t2.name]) htp
    refine ⟨v, tp, _, _, [.type t.name, .type t2.name], (u.isA t || u.isA t2), rfl, upd_same, .cons (.ty _) (.cons (.ty _) .nil), ty_ok R2 (R1.mono (fr_new htp) rv) q, ?_, ?_⟩
    · refine kitAny_cons (kit_ty (kit_isA u t)) (fun z => ?_) fun z => by rw [z]; rfl
      rw [z, Bool.false_or]
      exact kitAny_cons (r := u.isA t2) (kit_ty (kit_isA u t2)) (fun z2 => by rw [z2]; rfl) fun z2 => z2
    · have := r1 ι1 _ (.bl ([t, t2].any fun z => u.isA z)) R2 (fr_new htp) (.bl _)
      simpa using this
end
end Iv
set_option Elab.async false
set_option linter.all false
set_option maxRecDepth 100000
set_option maxHeartbeats 2000000
set_option autoImplicit false
namespace Iv
open PySem L2
variable [KL]

/-! ### comprehensions -/
/-- a comprehension's target: a name, a tuple of names -/
inductive Pat where
  | n (i : Nat) | t (is : List Nat)
def setAll : List Nat → List IV → Env → Option Env
  | [], [], env => some env
  | i :: is, x :: xs, env => setAll is xs (env.set i (some x))
  | _, _, _ => none
theorem setAll_len : ∀ {is : List Nat} {xs : List IV} {env env' : Env}, setAll is xs env = some env' → xs.length = is.length
  | [], [], _, _, _ => rfl
  | [], _ :: _, _, _, e => by cases e
  | _ :: _, [], _, _, e => by cases e
  | _ :: is, _ :: xs, env, env', e => by
    have q := setAll_len (is := is) (xs := xs) e
    simp [q]
def Pat.set : Pat → IV → Env → Option Env
  | .n i, x, env => some (env.set i (some x))
  | .t is, .tup xs, env => setAll is xs env
  | .t _, _, _ => none
def Pat.ix : Pat → List Nat
  | .n i => [i]
  | .t is => is
def gNs : List Nat → TGs
  | [] => gNil
  | i :: is => gCons (gName i) (gNs is)
def gPat (K : PySem.W.Frag) : Pat → TG
  | .n i => gName i
  | .t is => gTup K is.length (gNs is)
def wipeE (env : Env) : List Nat → Env
  | [] => env
  | v :: vs => (wipeE env vs).set v none
theorem rst_wipe {ι : List Addr} {H : Hp} {σ : L2.St} {env : Env} (S : RSt ι H σ env) : ∀ vs, RSt ι H (wipe σ vs) (wipeE env vs)
  | [] => S
  | v :: vs => by
    have q := rst_wipe S vs
    refine ⟨by show ((wipe σ vs).set v none).length = ((wipeE env vs).set v none).length; simp [q.1], fun i x e => ?_⟩
    have e : ((wipeE env vs).set v none)[i]? = some (some x) := e
    show ∃ w, ((wipe σ vs).set v none)[i]? = some (some w) ∧ _
    by_cases hi : v = i
    · subst hi
      have hl : v < (wipeE env vs).length := by have := (List.getElem?_eq_some_iff.mp e).1; rwa [List.length_set] at this
      rw [List.getElem?_set_self hl] at e; cases e
    · rw [List.getElem?_set_ne hi] at e ⊢
      exact q.2 i x e
theorem wipe_set {v : Option V} : ∀ {vs : List Nat} {σ : L2.St} {i : Nat}, i ∈ vs → wipe (σ.set i v) vs = wipe σ vs
  | [], _, _, h => by simp at h
  | w :: vs, σ, i, h => by
    show (wipe (σ.set i v) vs).set w none = (wipe σ vs).set w none
    by_cases hm : i ∈ vs
    · rw [wipe_set hm]
    · have e : i = w := by rcases List.mem_cons.mp h with h | h; exact h; exact absurd h hm
      subst e
      have : ∀ (us : List Nat) (τ : L2.St), i ∉ us → wipe (τ.set i v) us = (wipe τ us).set i v := by
        intro us
        induction us with
        | nil => intro τ _; rfl
        | cons u us ih =>
          intro τ hn
          rw [List.mem_cons, not_or] at hn
          show (wipe (τ.set i v) us).set u none = ((wipe τ us).set u none).set i v
          rw [ih τ hn.2, List.set_comm _ _ hn.1]
      rw [this vs σ hm, List.set_set]
theorem wipe_wipe : ∀ (vs : List Nat) (σ : L2.St), wipe (wipe σ vs) vs = wipe σ vs := by
  intro vs
  have gen : ∀ (us : List Nat) (σ : L2.St), (∀ u ∈ us, u ∈ vs) → wipe (wipe σ us) vs = wipe σ vs := by
    intro us
    induction us with
    | nil => intro σ _; rfl
    | cons u us ih =>
      intro σ h
      show wipe ((wipe σ us).set u none) vs = wipe σ vs
      rw [wipe_set (h u List.mem_cons_self), ih σ fun w hw => h w (List.mem_cons_of_mem _ hw)]
  intro σ
  exact gen vs σ fun u hu => hu
theorem gNs_run {ι : List Addr} {H : Hp} {vs : List Nat} : ∀ {is : List Nat} {ws : List V} {xs : List IV} {σ : L2.St} {env env' : Env} {Q : L2.St → Hp → Prop}, RVs ι H ws xs → RSt ι H σ env → setAll is xs env = some env' → (∀ i ∈ is, i ∈ vs) → (∀ σ', wipe σ' vs = wipe σ vs → RSt ι H σ' env' → Q σ' H) → gNs is ws σ H Q
  | [], _, [], _, _, _, _, .nil, S, e, _, k => by cases e; exact ⟨rfl, k _ rfl S⟩
  | [], _, _ :: _, _, _, _, _, _, _, e, _, _ => by cases e
  | _ :: _, _, [], _, _, _, _, _, _, e, _, _ => by cases e
  | i :: is, _, x :: xs, σ, env, env', Q, .cons a r, S, e, hv, k => by
    refine ⟨_, _, rfl, ?_⟩
    show gNs is _ (σ.set i (some _)) H Q
    refine gNs_run r (S.set a) e (fun j hj => hv j (List.mem_cons_of_mem _ hj)) fun σ' w S' => k σ' ?_ S'
    rw [w, wipe_set (hv i List.mem_cons_self)]
theorem gPat_run {K : PySem.W.Frag} {ι : List Addr} {H : Hp} {vs : List Nat} {p : Pat} {v : V} {x : IV} {σ : L2.St} {env env' : Env} {Q : L2.St → Hp → Prop} (rv : RV ι H v x) (S : RSt ι H σ env) (e : p.set x env = some env') (hv : ∀ i ∈ p.ix, i ∈ vs) (k : ∀ σ', wipe σ' vs = wipe σ vs → RSt ι H σ' env' → Q σ' H) : gPat K p v σ H Q := by
  cases p with
  | n i =>
    cases e
    exact k _ (wipe_set (hv i (List.mem_singleton.mpr rfl))) (S.set rv)
  | t is =>
    cases rv with
    | @tup a ws xs e1 r =>
      have e : setAll is xs env = some env' := e
      have hl := setAll_len e
      exact ⟨a, ws, rfl, st_of e1, by rw [r.length]; exact hl, gNs_run r S e hv k⟩
    | _ => cases e
theorem run_eq {α β γ : Type} {rel : List Addr → Hp → β → α → Prop} {m : M α} {k : α → M γ} {z : γ} {h h' : IH} {ι : List Addr} {H : Hp} (e : M.bind m k h = some (.ok z, h')) : Run W0 rel (m h) ι H fun v H1 => ∃ ι1 h1 x, Rel ι1 h1 H1 ∧ Fr ι H ι1 H1 ∧ rel ι1 H1 v x ∧ k x h1 = some (.ok z, h') := by
  unfold M.bind at e
  unfold Run
  generalize m h = o at e ⊢
  match o, e with
  | some (.ok x, h1), e => exact fun ι' H' v R F r => ⟨ι', h1, x, R, F, r, e⟩
/-- the loop of a list comprehension over the new list d -/
def LcL (s : Src) (p : Pat) (c : Env → M Bool) (el : Env → M IV) (d : Nat) (env : Env) : Nat → Nat → M Unit
  | 0, _ => stuck
  | n + 1, i => fun h => match s h i with
    | none => none
    | some none => some (.ok (), h)
    | some (some x) => match p.set x env with
      | none => none
      | some env2 => M.bind (c env2) (fun k => if k = true then M.bind (el env2) (fun y => fun h3 => match h3[d]? with
          | some (.lst acc) => if acc.length < lim then LcL s p c el d env n (i + 1) (h3.set d (.lst (acc ++ [y]))) else none
          | _ => none) else LcL s p c el d env n (i + 1)) h
def LcE (n : Nat) (src : Env → M Src) (p : Pat) (c : Env → M Bool) (el : Env → M IV) (vs : List Nat) : Env → M IV := fun env => M.bind (src env) fun s => fun h => match LcL s p c el h.length (wipeE env vs) n 0 (h ++ [.lst []]) with
  | some (.ok _, h') => some (.ok (.ref h.length), h')
  | _ => none
def YesT : Env → M Bool := fun _ => M.pure true
section
variable {X : Cx} {W : ExW}
def PTsI (X : Cx) (ifs : List Expr) (t : Env → M Bool) : Prop := PTs X ifs (tIT W0 t)
theorem ptsi_nil : PTsI X [] YesT := ⟨fun pins s σ H Q I ⟨ι, h, env, R, S, r⟩ => pts_nil.run pins s σ H Q I (r ι H true R (Fr.refl _ _) rfl)⟩
theorem ptsi_one {c : Expr} {t : Env → M Bool} (h : PTI X W0 c t) : PTsI X [c] t := pts_one h
theorem pgp_name {i : Nat} {x : Str} {pos : Pos} {K : PySem.W.Frag} (hN : X.N.Nodup) (hi : X.N[i]? = some x := by rfl) (hx : Loc X.env.scope x := by first | exact Or.inl rfl | exact Or.inr rfl) (hf : X.fn x = true ∨ X.env.scope.names.lookup x = some .local := by first | exact .inl rfl | exact .inr rfl) : PG X (.Name x pos) (gPat K (.n i)) := pg_name hN hi hx hf
theorem lc_weak {wi : TI} {tt : TT} {te : TE} {src : Env → M Src} {p : Pat} {c : Env → M Bool} {el : Env → M IV} {vs : List Nat} {n : Nat} {σ : L2.St} {H : Hp} {Q : VK} (hwi : ∀ σ H R, tII W src σ H R → wi σ H R) (htt : ∀ σ H Q, tIT W0 c σ H Q → tt σ H Q) (hte : ∀ σ H Q, tI W0 el σ H Q → te σ H Q) (hv : ∀ i ∈ p.ix, i ∈ vs)
    (t : tI W (LcE n src p c el vs) σ H Q) : tLc wi (gPat X.K p) tt te vs σ H Q := by
  obtain ⟨ι, h, env, R, S, r⟩ := t
  refine hwi _ _ _ ⟨ι, h, env, R, S, (run_bind (rel1 := RJ) r).mono fun J H1 ⟨ι1, h1, s, R1, F1, rj, r1⟩ => ?_⟩
  intro D hD
  have r1' : Run W RV (match LcL s p c el h1.length (wipeE env vs) n 0 (h1 ++ [.lst []]) with
    | some (.ok _, h') => some (.ok (.ref h1.length), h')
    | _ => none) ι1 H1 Q := r1
  generalize hL : LcL s p c el h1.length (wipeE env vs) n 0 (h1 ++ [.lst []]) = o at r1'
  match o, r1', hL with
  | none, r1', _ => exact r1'.elim
  | some (.ex _, _), r1', _ => exact r1'.elim
  | some (.ok u, hf), r1', hL =>
    have RD : Rel (ι1 ++ [D]) (h1 ++ [.lst []]) (upd H1 D (.lst [])) := R1.push hD ⟨[], upd_same, .nil⟩
    have FD : Fr ι1 H1 (ι1 ++ [D]) (upd H1 D (.lst [])) := fr_push hD
    have eD : (ι1 ++ [D])[h1.length]? = some D := by
      rw [← R1.len, List.getElem?_append_right (Nat.le_refl _), Nat.sub_self]; rfl
    have Sw := rst_wipe (S.mono R F1) vs
    refine ⟨fun i k H2 => ∃ ι2 h2, Rel ι2 h2 H2 ∧ Fr (ι1 ++ [D]) (upd H1 D (.lst [])) ι2 H2 ∧ LcL s p c el h1.length (wipeE env vs) k i h2 = some (.ok u, hf), ⟨n, _, _, RD, Fr.refl _ _, hL⟩, ?_⟩
    rintro i k H2 ⟨ι2, h2, R2, F2, e2⟩
    cases k with
    | zero => cases e2
    | succ k =>
      have F12 := FD.trans F2
      have q := rj ι2 h2 H2 R2 F12 i
      unfold LcL at e2
      cases e0 : s h2 i with
      | none => simp only [e0] at e2; cases e2
      | some o =>
        cases o with
        | none =>
          simp only [e0] at e2 q
          cases e2
          exact .inl ⟨q, r1' ι2 H2 (.ref D) R2 F12 (.ref (pre_get F2.pre eD))⟩
        | some x =>
          simp only [e0] at e2 q
          cases e3 : p.set x (wipeE env vs) with
          | none => simp only [e3] at e2; cases e2
          | some env2 =>
            simp only [e3] at e2
            refine .inr ⟨q.1, fun H3 => ∃ ι3 h3, Rel ι3 h3 H3 ∧ Fr (ι1 ++ [D]) (upd H1 D (.lst [])) ι3 H3 ∧ LcL s p c el h1.length (wipeE env vs) k (i + 1) h3 = some (.ok u, hf), fun H' w => ⟨k, Nat.lt_succ_self _, w⟩, fun v H3 y => ?_⟩
            obtain ⟨ι3, R3, F3, rv⟩ := q.2 v H3 y
            have S3 : RSt ι3 H3 (wipe σ vs) (wipeE env vs) := (Sw.mono R1 F12).mono R2 F3
            refine gPat_run rv S3 e3 hv fun σ4 w4 S4 => ⟨by rw [w4, wipe_wipe], htt _ _ _ ⟨ι3, h2, env2, R3, S4, (run_eq (rel := RB) e2).mono fun b H4 ⟨ι4, h4, bb, R4, F4, rb, e4⟩ => ?_⟩⟩
            cases (show b = bb from rb)
            have F14 := (F2.trans F3).trans F4
            cases b with
            | false => exact iteF ⟨ι4, h4, R4, F14, e4⟩
            | true =>
              refine iteT (hte _ _ _ ⟨ι4, h4, env2, R4, S4.mono R3 F4, (run_eq (rel := RV) e4).mono fun w H5 ⟨ι5, h5, y5, R5, F5, rw5, e5⟩ => ?_⟩)
              have F15 := F14.trans F5
              have eD5 := pre_get F15.pre eD
              cases e6 : h5[h1.length]? with
              | none => simp only [e6] at e5; cases e5
              | some ob =>
                cases ob with
                | dic _ => simp only [e6] at e5; cases e5
                | fdc _ => simp only [e6] at e5; cases e5
                | lst acc =>
                  simp only [e6] at e5
                  obtain ⟨a', ws, z1, z0, z2, rs⟩ := R5.lst (.ref eD5) e6
                  cases z1
                  by_cases hl : acc.length < lim
                  · rw [if_pos hl] at e5
                    have hm := List.mem_of_getElem? eD5
                    exact ⟨ws, z2, by rw [rs.length]; exact sz_lt hl, ι5, _, R5.set eD5 (u := .lst (acc ++ [y5])) ⟨_, upd_same, (R5.monosk (fk_set hm) rs).append (.cons (R5.monok (fk_set hm) rw5) .nil)⟩, F15.trans (fr_set hm (nf_lst z2)), e5⟩
                  · rw [if_neg hl] at e5; cases e5
theorem pei_lc (n : Nat) {elt tg iter : Expr} {ifs : List Expr} {scope : Scope} (own : List (Str × Nat)) {pos : Pos} {src : Env → M Src} {p : Pat} {c : Env → M Bool} {el : Env → M IV} (hc : X.calm = true) (hN : X.N.Nodup) (hi : PII X W tg iter src) (ok : blkC X.N X.env.scope scope own = true)
    (hg : ∀ (s : Shared) (H : Hp) (C : Addr) (cl : List (Str × Addr)) (fp : List Addr), PG (X.blk s H scope (compEnvC scope cl C X.env) fp) tg (gPat X.K p)) (ht : ∀ (s : Shared) (H : Hp) (C : Addr) (cl : List (Str × Addr)) (fp : List Addr), PTsI (X.blk s H scope (compEnvC scope cl C X.env) fp) ifs c)
    (he : ∀ (s : Shared) (H : Hp) (C : Addr) (cl : List (Str × Addr)) (fp : List Addr), PEI (X.blk s H scope (compEnvC scope cl C X.env) fp) W0 elt el) (hv : ∀ i ∈ p.ix, i ∈ own.map (·.2) := by decide) (hs : ∀ x, foldedSetIterable iter X.env x = pure x := by intro _; rfl) :
    PEI X W (.ListComp elt [⟨tg, iter, ifs, 0⟩] scope pos) (LcE n src p c el (own.map (·.2))) :=
  PE.weak (pe_lc hc hN hi (blkOk_by ok) hg ht he hs) fun σ H Q t => lc_weak (fun _ _ _ q => q) (fun _ _ _ q => q) (fun _ _ _ q => q) hv t
/-- name = [..] on one line -/
theorem psi_setLc (n : Nat) (i : Nat) {y : Str} {py : Pos} {elt tg iter : Expr} {ifs : List Expr} {scope : Scope} (own : List (Str × Nat)) {pos spos : Pos} {src : Env → M Src} {p : Pat} {c : Env → M Bool} {el : Env → M IV} (hc : X.calm = true) (hN : X.N.Nodup) (hi : PII X W tg iter src) (ok : blkC X.N X.env.scope scope own = true)
    (hg : ∀ (s : Shared) (H : Hp) (C : Addr) (cl : List (Str × Addr)) (fp : List Addr), PG (X.blk s H scope (compEnvC scope cl C X.env) fp) tg (gPat X.K p)) (ht : ∀ (s : Shared) (H : Hp) (C : Addr) (cl : List (Str × Addr)) (fp : List Addr), PTsI (X.blk s H scope (compEnvC scope cl C X.env) fp) ifs c)
    (he : ∀ (s : Shared) (H : Hp) (C : Addr) (cl : List (Str × Addr)) (fp : List Addr), PEI (X.blk s H scope (compEnvC scope cl C X.env) fp) W0 elt el) (hsw : swapsWith (.ListComp elt [⟨tg, iter, ifs, 0⟩] scope pos) (some (.Name y py)) spos.line X.env = pure true) (hy : X.N[i]? = some y := by rfl) (hyl : X.env.scope.names.lookup y = some .local := by rfl)
    (hv : ∀ i ∈ p.ix, i ∈ own.map (·.2) := by decide) (hs : ∀ x, foldedSetIterable iter X.env x = pure x := by intro _; rfl) :
    PSI X W (.Assign [.Name y py] (.ListComp elt [⟨tg, iter, ifs, 0⟩] scope pos) spos) (AsgS (LcE n src p c el (own.map (·.2))) (TgN i)) :=
  PS.weak (ps_setLc hc hN hy hyl hsw hi (blkOk_by ok) hg ht he hs) fun D σ H t => by
    have q : tI W (LcE n src p c el (own.map (·.2))) σ H (fun x H1 => gName i x σ H1 D.nx) := by
      obtain ⟨ι, h, env, R, S, r⟩ := tIS_asg t
      exact ⟨ι, h, env, R, S, r.mono fun v H1 ⟨ι1, h1, env1, x, R1, S1, rv, r1⟩ => r1 ι1 H1 _ R1 (Fr.refl _ _) (S1.set rv)⟩
    exact lc_weak (fun _ _ _ q => q) (fun _ _ _ q => q) (fun _ _ _ q => q) hv q
end
end Iv
set_option Elab.async false
set_option linter.all false
set_option maxRecDepth 100000
set_option maxHeartbeats 4000000
set_option autoImplicit false
namespace Iv
open PySem L2
variable [KL]

/-! ### enumerate(tuple): the rule -/
theorem meets_enumerate_newB1 {v : Value} {o : Obj} {H : Heap → Prop} (B : Begins v o H) :
    Meets (Builtin.«enumerate.__new__» ⟨[.type "enumerate", v], []⟩) (fun _ R s => H s.heap ∧
      R (.ok (.ret (.ref (s.heap.push o).objs.size))) { s with heap := (s.heap.push o).push { cls := .type "enumerate", data := .fields #[.none, .bool false, .ref s.heap.objs.size, rawInt 0, .none, .none] } }) :=
  .of_wp fun prog w A R s h => by
    obtain ⟨hp, g, d, tk, os⟩ := s; obtain ⟨h1, h⟩ := h
    have hsub := sub_enumerate
    have q1 : ∀ {A' : Around} {E : Value → Shared → Prop} {Q : Value → Shared → Prop}, Q (.ref hp.objs.size) ⟨hp.push o, g, d, tk, os⟩ → wpAny (model prog w) A' (pyIter v) Q E ⟨hp, g, d, tk, os⟩ :=
      fun q => B.iter prog w _ _ ⟨hp, g, d, tk, os⟩ _ h1 q
    wp_walk using q1
    refine wpAny_stack_any fun st => wpAny_pure ?_
    split
    · rename_i c _ _ _ _ _
      cases (c == Value.type "enumerate")
      · wp_walk using q1
        exact ⟨_, rfl, h⟩
      · wp_walk using q1
        exact ⟨_, rfl, h⟩
    · wp_walk using q1
      exact ⟨_, rfl, h⟩
section
variable {prog : Program} {w : World} {A : Around} {E : Value → Shared → Prop} {s : Shared}
theorem enum_begins1 {v : Value} {o : Obj} {H : Heap → Prop} {Q : Value → Shared → Prop} (B : Begins v o H) (h1 : H s.heap)
    (h : ∀ h', IsEnum h' (s.heap.objs.size + 1) s.heap.objs.size 0 .none → h'.get? s.heap.objs.size = some o → h'.objs.size = s.heap.objs.size + 2 →
      (∀ b o, s.heap.get? b = some o → h'.get? b = some o) → Q (.ref (s.heap.objs.size + 1)) { s with heap := h' }) :
    wpAny (model prog w) A (call (.type "enumerate") [v]) Q E s := by
  refine callType_new F.called_enumerate (by decide) (F.typeCall_enumerate_1 _) (F.newCall_enumerate_1 _) (fun obj => F.args_object_init_2 obj _) F.entry_enumerate_new
    (meets_enumerate_newB1 B) ⟨h1, ?_⟩
  have hz : (s.heap.push o).objs.size = s.heap.objs.size + 1 := Heap.size_push ..
  show _ ∧ _
  rw [hz]
  have he : IsEnum ((s.heap.push o).push { cls := .type "enumerate", data := .fields #[.none, .bool false, .ref s.heap.objs.size, rawInt 0, .none, .none] }) (s.heap.objs.size + 1) s.heap.objs.size 0 .none := by
    have := Heap.get?_push_size (s.heap.push o) (o := { cls := .type "enumerate", data := .fields #[.none, .bool false, .ref s.heap.objs.size, rawInt 0, .none, .none] }) rfl
    rw [hz] at this; exact this
  refine ⟨⟨_, he, rfl⟩, h _ he (Heap.get?_push_of_some _ (Heap.get?_push_size _ B.free)) (by rw [Heap.size_push, hz]) fun b o x => Heap.get?_push_of_some _ (Heap.get?_push_of_some _ x)⟩
theorem wpAny_pyNext_enum_endT {e it t : Addr} {n : Int} {i : Nat} {items : Array Value} {old : Value} {Q : Option Value → Shared → Prop} (hh : A.in1.handled = none)
    (he : IsEnum s.heap e it n old) (hit : s.heap.IsTupleIter it t i) (ht : s.heap.IsTuple t items) (hx : items[i]? = none)
    (hQ : ∀ h', Heap.ExtBut it s.heap h' → Q none { s with heap := h' }) : wpAny (model prog w) A (pyNext (.ref e)) Q E s := by
  have hT : s.TypeIs (.ref e) "enumerate" := ⟨_, he, rfl⟩
  unfold pyNext
  refine wpAny_bind (wpAny_attempt (wpAny_callSpecial?_slot (name := Str.ofString "__next__") hT F.slot_enumerate_next
    (wpAny_call_entry F.slot_enumerate_next hT F.entry_enumerate_next ?_ (F.args_enumerate_next_1 _))))
  show wpAny _ _ (field (.ref e) 2 >>= _) _ _ _
  refine wpAny_bind (wpAny_field he rfl (x := .ref it) rfl ?_)
  refine wpAny_bind (wpAny_nextOf_tuple_end hh hit ht hx fun h' x he' hx' => ?_)
  obtain ⟨o, ho, hc⟩ := hx'
  refine wpAny_bind (wpAny_isInstance (T := "StopIteration") (b := true) ⟨o, ho, hc⟩ isSubtype_stop ?_)
  exact wpAny_pure (hQ _ he')
end
/-- the tuple at a, each item in a new pair -/
def IteT (K : PySem.W.Frag) (a : Addr) : It :=
  ⟨fun i H => ∃ (xs : List V) (x : V), SqT K H a xs ∧ xs[i]? = some x, fun i H v H' => ∃ T x, v = .ref T ∧ H T = none ∧ H' = upd H T (.tup [.int (i : Nat), x]) ∧ ∀ xs, SqT K H a xs → xs[i]? = some x, fun i H => ∃ xs : List V, SqT K H a xs ∧ xs.length ≤ i⟩
theorem turn_enumT {P : Program} {w : World} {K : PySem.W.Frag} {elts : List Expr} {kk : Nat} {tpos : Pos} (a e it : Addr) :
    Turn P w K (.Tuple elts kk tpos) (IteT K a) [e, it] e (fun i h => (∃ old, IsEnum h e it ((i : Nat) : Int) old) ∧ h.IsTupleIter it a i ∧ e ≠ it ∧ a ≠ it ∧ a ≠ e) where
  mem := by simp
  obj := fun i h st b hb => by
    obtain ⟨⟨old, he⟩, ⟨o, ho, hc, hd⟩, _⟩ := st
    have e' : b = e ∨ b = it := by simpa using hb
    rcases e' with z | z
    · rw [z]; exact ⟨_, he, fun v q => nomatch q⟩
    · rw [z]; exact ⟨o, ho, fun v q => by rw [hd] at q; cases q⟩
  keep := fun i h h' st k => let ⟨⟨old, he⟩, hi, hne⟩ := st; ⟨⟨old, k e (by simp) _ he⟩, hi.at fun o q => k it (by simp) o q, hne⟩
  item := by
    intro X hP hw hK hc i pins s σ H E I hf st hg
    subst hP hw hK
    obtain ⟨⟨old, he⟩, hit, hne, hai, hae⟩ := st
    obtain ⟨xs, x, hq, hx⟩ := hg
    obtain ⟨its, rv, p, hz⟩ := I.tuple hq
    obtain ⟨u, hu, ru⟩ := rv.get hx
    have hel : e < s.heap.objs.size := Heap.lt_size he
    have hil : it < s.heap.objs.size := by obtain ⟨_, q, _⟩ := hit; exact Heap.lt_size q
    have hh : X.A.in1.handled = none := by first | exact I.ok.hd hc | (rw [show X.A.in1.handled = X.A.handled from rfl]; exact I.ok.hd hc)
    refine wpAny_pyNext_enum_itemC (Draws.tuple (prog := X.prog) (w := X.w) hh it a hai its.toArray) he ⟨hit, p⟩ (i := i) (by have := (List.getElem?_eq_some_iff.mp hu).1; simpa using this) hne (by simp [hne, hae.symm]) fun v h' tk hv ho hst hT hsz hk => ?_
    obtain rfl : v = u := by have : its.toArray[i]? = some v := hv; simp [hu] at this; exact this.symm
    refine ⟨_, rfl, wpAny_letOwnedTupleGo_enum (s := { s with heap := h', toks := tk + 1 }) ho fun h'' he' sb => ?_⟩
    have hT2 : h''.get? s.heap.objs.size = some { cls := .type "tuple", data := .seq #[.int i tk, v] } := (sb.2 _ (Nat.ne_of_gt hel)).trans hT
    have new : ObjOk X.prog X.w (upd H s.heap.objs.size (.tup [.int (i : Nat), x])) h'' s.heap.objs.size (.tup [.int (i : Nat), x]) :=
      ⟨by show 2 ≤ sizeLine; decide, [.int i tk, v], .cons ⟨_, rfl⟩ (.cons ru .nil), ⟨_, hT2, rfl, _, rfl⟩⟩
    have I1 : Inv X pins σ (upd H s.heap.objs.size (.tup [.int (i : Nat), x])) { s with heap := h'', toks := tk + 1 } :=
      I.turnedNew (ch := [e, it]) (fun b ob hb q => (sb.2 b (fun z => hb (by simp [z]))).trans (hk b ob (fun z => hb (by simp [z])) (fun z => hb (by simp [z])) q)) hf (Nat.le_refl _) new
    refine ⟨.ref s.heap.objs.size, _, I1, rfl, ⟨_, x, rfl, I.hok.fresh (Nat.le_refl _), rfl, fun ys hy => by rw [I.tuple_inj hy hq]; exact hx⟩, ⟨⟨v, ?_⟩, hst.1.at fun o q => (sb.2 it (Ne.symm hne)).trans q, hne, hai, hae⟩, fun b hb => ?_⟩
    · have e1 : ((i + 1 : Nat) : Int) = (i : Int) + 1 := by omega
      rw [e1]; exact he'
    · have hb' : b < s.heap.objs.size := by
        have e' : b = e ∨ b = it := by simpa using hb
        rcases e' with z | z
        · rw [z]; exact hel
        · rw [z]; exact hil
      rw [upd_ne (Nat.ne_of_lt hb')]
      exact (hf b hb).1
  done := by
    intro X hP hw hK hc i pins s σ H E I hf st hg
    subst hP hw hK
    obtain ⟨⟨old, he⟩, hit, hne, hai, hae⟩ := st
    obtain ⟨xs, hq, hx⟩ := hg
    obtain ⟨its, rv, p, hz⟩ := I.tuple hq
    obtain ⟨f0, f1, f2, f3, f4, f5⟩ := hf it (by simp)
    have hl := rv.length
    have hh : X.A.in1.handled = none := by first | exact I.ok.hd hc | (rw [show X.A.in1.handled = X.A.handled from rfl]; exact I.ok.hd hc)
    obtain ⟨o, ho, hc', hd⟩ := id hit
    -- the iterator is at or behind its end: the rule by the element
    exact wpAny_pyNext_enum_endT hh he hit p (by simp; omega) fun h' eb => ⟨rfl, I.turned (t' := s.toks) (fun b o hb q => eb b o hb q) f0 f1 f3 f4 f5⟩
  self := fun A i s Q E st h => let ⟨⟨_, he⟩, _⟩ := st; wpAny_pyIter_enum he h
def iEnumT (K : PySem.W.Frag) (ta : TA) : TI := fun σ H R => ta σ H fun vs H1 => ∃ a xs, vs = [.ref a] ∧ SqT K H1 a xs ∧ R (IteT K a) H1
theorem pi_enumT {X : Cx} {e : Expr} {ta : TA} {p pos tpos : Pos} {elts : List Expr} {kk : Nat} (hg : Gl X "enumerate") (hm : X.mg "enumerate" = none) (ha : PA X [e] ta) (hs : starEach [e] X.env = [(false, eval e X.env)] := by rfl) :
    PI X (.Tuple elts kk tpos) (.Call (.Name "enumerate" p) [e] [] pos) (iEnumT X.K ta) := by
  refine ⟨fun pins s σ H R I h => ?_⟩
  refine PyProof.Rows.Call_ (ld_blt I hg hm PyProof.Rows.boot_enumerate (PyProof.Rows.callWith_type1 (thn (ha.run pos pins s σ H _ I h) fun us s1 ⟨vs, H1, I1, r1, q1⟩ => ?_) hs rfl))
  obtain ⟨a, xs, ex, hq, q⟩ := q1
  subst ex
  cases r1 with
  | cons r rr =>
    cases rr
    cases r
    obtain ⟨its, rv, p', hz⟩ := I1.tuple hq
    have hal : a < s1.heap.objs.size := by obtain ⟨_, q, _⟩ := p'; exact Heap.lt_size q
    refine enum_begins1 (begins_tuple a its.toArray) p' fun h' he hit hsz hk => wpAny_pyIter_enum he ?_
    have I2 : Inv X pins σ H1 { s1 with heap := h' } := I1.kept (t' := s1.toks) hk
    refine ⟨s1.heap.objs.size + 1, [s1.heap.objs.size + 1, s1.heap.objs.size], _, _, H1, rfl, I2, turn_enumT a (s1.heap.objs.size + 1) s1.heap.objs.size, ⟨⟨.none, he⟩, ⟨_, hit, rfl, rfl⟩, Nat.succ_ne_self _, Nat.ne_of_lt hal, Nat.ne_of_lt (Nat.lt_succ_of_lt hal)⟩, fun b hb => ?_, q⟩
    have e' : b = s1.heap.objs.size + 1 ∨ b = s1.heap.objs.size := by simpa using hb
    have hle : s1.heap.objs.size ≤ b := by
      rcases e' with z | z
      · rw [z]; exact Nat.le_add_right _ _
      · rw [z]; exact Nat.le_refl _
    exact I1.fpOk hle (I1.hok.fresh hle)

/-! ### lists and tuples as sources -/
def Lv (Sq : Hp → List V → Prop) (ι : List Addr) (H : Hp) (s : Src) : Prop := ∀ ι2 h2 H2, Rel ι2 h2 H2 → Fr ι H ι2 H2 → ∀ i, match s h2 i with
  | none => True
  | some none => ∃ vs, Sq H2 vs ∧ vs.length ≤ i
  | some (some x) => ∃ vs v, Sq H2 vs ∧ vs[i]? = some v ∧ RV ι2 H2 v x
section
variable {ι : List Addr} {h : IH} {H : Hp} {K : PySem.W.Frag}
theorem lv_items {Sq : Hp → List V → Prop} {vs : List V} {xs : List IV} (R : Rel ι h H) (hs : ∀ ι2 H2, Fr ι H ι2 H2 → Sq H2 vs) (rs : RVs ι H vs xs) : Lv Sq ι H (SItems xs) := by
  intro ι2 h2 H2 R2 F2 i
  have rs2 := R.monos F2 rs
  show match some xs[i]? with
    | none => True
    | some none => _
    | some (some x) => _
  cases q : xs[i]? with
  | none => exact ⟨vs, hs ι2 H2 F2, by rw [rs2.length]; exact List.getElem?_eq_none_iff.mp q⟩
  | some x =>
    obtain ⟨v, q1, rv⟩ := rs2.get q
    exact ⟨vs, v, hs ι2 H2 F2, q1, rv⟩
theorem lv_live {n : Nat} {a : Addr} (ea : ι[n]? = some a) : Lv (fun H vs => SqL K H a vs) ι H (SLive n) := by
  intro ι2 h2 H2 R2 F2 i
  have ea2 := pre_get F2.pre ea
  unfold SLive
  cases q0 : h2[n]? with
  | none => trivial
  | some o =>
    cases o with
    | dic _ => trivial
    | fdc _ => trivial
    | lst xs =>
      obtain ⟨a', vs, z1, _, e2, rs2⟩ := R2.lst (.ref ea2) q0
      cases z1
      show match some xs[i]? with
        | none => True
        | some none => _
        | some (some x) => _
      cases q : xs[i]? with
      | none => exact ⟨vs, sq_of e2, by rw [rs2.length]; exact List.getElem?_eq_none_iff.mp q⟩
      | some x =>
        obtain ⟨v, q1, rv⟩ := rs2.get q
        exact ⟨vs, v, sq_of e2, q1, rv⟩
theorem rj_enumJ {Sq : Hp → List V → Prop} {s : Src} {J : It} (lv : Lv Sq ι H s) (hst : ∀ i H vs, Sq H vs → vs.length ≤ i → J.stop i H) (hgo : ∀ i H vs v, Sq H vs → vs[i]? = some v → J.go i H)
    (hy : ∀ i H v H', J.yld i H v H' → ∃ T x, v = V.ref T ∧ H T = none ∧ H' = upd H T (.tup [.int (i : Nat), x]) ∧ ∀ vs, Sq H vs → vs[i]? = some x) : RJ ι H J (SEnum s) := by
  intro ι2 h2 H2 R2 F2 i
  have q := lv ι2 h2 H2 R2 F2 i
  unfold SEnum
  cases e : s h2 i with
  | none => trivial
  | some o =>
    simp only [e] at q
    cases o with
    | none => obtain ⟨vs, q1, q2⟩ := q; exact hst _ _ _ q1 q2
    | some x =>
      obtain ⟨vs, v, q1, q2, rv⟩ := q
      refine ⟨hgo _ _ _ _ q1 q2, fun w H3 y => ?_⟩
      obtain ⟨T, u, y1, y2, y3, y4⟩ := hy _ _ _ _ y
      have e2 := y4 vs q1
      rw [q2] at e2
      cases e2
      subst y1 y3
      exact ⟨ι2, R2.new y2, fr_new y2, .tup upd_same (.cons (.int _) (.cons (R2.mono (fr_new y2) rv) .nil))⟩
theorem rj_zipJ {Sq Sr : Hp → List V → Prop} {s t : Src} {J : It} (lv : Lv Sq ι H s) (lw : Lv Sr ι H t) (hst : ∀ i H vs ws, Sq H vs → Sr H ws → vs.length ≤ i ∨ ws.length ≤ i → J.stop i H) (hgo : ∀ i H vs ws v w, Sq H vs → Sr H ws → vs[i]? = some v → ws[i]? = some w → J.go i H)
    (hy : ∀ i H v H', J.yld i H v H' → ∃ T x y, v = V.ref T ∧ H T = none ∧ H' = upd H T (.tup [x, y]) ∧ (∀ vs, Sq H vs → vs[i]? = some x) ∧ ∀ ws, Sr H ws → ws[i]? = some y) : RJ ι H J (SZip s t) := by
  intro ι2 h2 H2 R2 F2 i
  have q := lv ι2 h2 H2 R2 F2 i
  have r := lw ι2 h2 H2 R2 F2 i
  unfold SZip
  cases e : s h2 i with
  | none => trivial
  | some o =>
    simp only [e] at q
    cases e' : t h2 i with
    | none => cases o <;> trivial
    | some o' =>
      simp only [e'] at r
      cases o with
      | none =>
        obtain ⟨vs, q1, q2⟩ := q
        cases o' with
        | none => obtain ⟨ws, r1, r2⟩ := r; exact hst _ _ _ _ q1 r1 (.inl q2)
        | some _ => obtain ⟨ws, w, r1, r2, _⟩ := r; exact hst _ _ _ _ q1 r1 (.inl q2)
      | some x =>
        obtain ⟨vs, v, q1, q2, rv⟩ := q
        cases o' with
        | none => obtain ⟨ws, r1, r2⟩ := r; exact hst _ _ _ _ q1 r1 (.inr r2)
        | some x' =>
          obtain ⟨ws, w, r1, r2, rw'⟩ := r
          refine ⟨hgo _ _ _ _ _ _ q1 r1 q2 r2, fun z H3 y => ?_⟩
          obtain ⟨T, u, u', y1, y2, y3, y4, y5⟩ := hy _ _ _ _ y
          have e2 := y4 vs q1
          rw [q2] at e2
          cases e2
          have e3 := y5 ws r1
          rw [r2] at e3
          cases e3
          subst y1 y3
          exact ⟨ι2, R2.new y2, fr_new y2, .tup upd_same (.cons (R2.mono (fr_new y2) rv) (.cons (R2.mono (fr_new y2) rw') .nil))⟩
end
def enumM : List IV → M Src
  | [.tup xs] => M.pure (SEnum (SItems xs))
  | [.fl xs] => M.pure (SEnum (SItems xs))
  | [.ref n] => fun h => match h[n]? with
    | some (.lst _) => some (.ok (SEnum (SLive n)), h)
    | _ => none
  | _ => stuck
def zipM : List IV → M Src
  | [.tup xs, .tup ys] => M.pure (SZip (SItems xs) (SItems ys))
  | [.ref n, .ref m] => fun h => match h[n]?, h[m]? with
    | some (.lst _), some (.lst _) => some (.ok (SZip (SLive n) (SLive m)), h)
    | _, _ => none
  | _ => stuck
def revM : List IV → M Src
  | [.ref n] => fun h => match h[n]? with
    | some (.lst xs) => some (.ok (SRev n xs.length), h)
    | _ => none
  | _ => stuck
section
variable {X : Cx} {W : ExW} {e e2 tg : Expr} {elts : List Expr} {ma : Env → M (List IV)} {pos p tpos : Pos} {kk : Nat}
theorem pii_enum (hm : X.mg "enumerate" = none) (ha : PAI X W [e] ma) (hg : Gl X "enumerate" := by rfl) (hs : starEach [e] X.env = [(false, eval e X.env)] := by rfl) : PII X W (.Tuple elts kk tpos) (.Call (.Name "enumerate" p) [e] [] pos) (IterA enumM ma) := by
  refine PI.weak (PI.or (pi_enum hg hm ha hs) (pi_enumT hg hm ha hs)) fun σ H Rr ⟨ι, h, env, R, S, r⟩ => ?_
  cases q : ma env h with
  | none => unfold IterA M.bind at r; rw [q] at r; exact r.elim
  | some oh =>
    obtain ⟨o, h1⟩ := oh
    cases o with
    | ex ee =>
      refine .inl ⟨ι, h, env, R, S, ?_⟩
      rw [q]
      have r' : Run W RJ (some (Out.ex ee, h1)) ι H Rr := by unfold IterA M.bind at r; rw [q] at r; exact r
      exact r'
    | ok xs =>
      have r' : Run W RJ (enumM xs h1) ι H Rr := by unfold IterA M.bind at r; rw [q] at r; exact r
      have mk : ∀ (P : List V → Hp → Prop), (∀ ι' H' v, Rel ι' h1 H' → Fr ι H ι' H' → RVs ι' H' v xs → P v H') → tIA W ma σ H P := fun P k => ⟨ι, h, env, R, S, by rw [q]; exact k⟩
      match xs, r', mk with
      | [.tup ys], r', mk => exact .inr (mk _ fun ι' H' v R' F' rs => by
          cases rs with
          | cons a rs => cases rs; cases a with
            | tup e1 r1 => exact ⟨_, _, rfl, st_of e1, r' ι' H' _ R' F' (rj_enumJ (Sq := fun H vs => SqT X.K H _ vs) (lv_items R' (fun ι2 H2 F2 => st_of (F2.keep _ _ e1 (R'.tup_out e1)).1) r1) (fun _ _ vs z1 z2 => ⟨vs, z1, z2⟩) (fun _ _ vs v z1 z2 => ⟨vs, v, z1, z2⟩) (fun _ _ _ _ y => y))⟩)
      | [.fl ys], r', mk => exact .inl (mk _ fun ι' H' v R' F' rs => by
          cases rs with
          | cons a rs => cases rs; cases a with
            | fl e1 hn r1 => exact ⟨_, _, rfl, sf_of e1, r' ι' H' _ R' F' (rj_enumJ (Sq := fun H vs => SqL X.K H _ vs) (lv_items R' (fun ι2 H2 F2 => sf_of (F2.keep _ _ e1 hn).1) r1) (fun _ _ vs z1 z2 => ⟨vs, z1, z2⟩) (fun _ _ vs v z1 z2 => ⟨vs, v, z1, z2⟩) (fun _ _ _ _ y => y))⟩)
      | [.ref n], r', mk =>
        have r'' : Run W RJ (match h1[n]? with
          | some (.lst _) => some (.ok (SEnum (SLive n)), h1)
          | _ => none) ι H Rr := r'
        split at r''
        · rename_i ys e1
          exact .inl (mk _ fun ι' H' v R' F' rs => by
            cases rs with
            | cons a rs =>
              cases rs
              obtain ⟨a', vs, z1, ea, e2, rs⟩ := R'.lst a e1
              subst z1
              exact ⟨a', vs, rfl, sq_of e2, r'' ι' H' _ R' F' (rj_enumJ (lv_live ea) (fun _ _ vs z1 z2 => ⟨vs, z1, z2⟩) (fun _ _ vs v z1 z2 => ⟨vs, v, z1, z2⟩) (fun _ _ _ _ y => y))⟩)
        · exact r''.elim
      | [], r', _ => exact r'.elim
      | [.non], r', _ => exact r'.elim
      | [.bl _], r', _ => exact r'.elim
      | [.int _], r', _ => exact r'.elim
      | [.str _], r', _ => exact r'.elim
      | [.kl _], r', _ => exact r'.elim
      | [.exo], r', _ => exact r'.elim
      | a :: b :: c, r', _ => cases a <;> exact r'.elim
theorem pii_zip (hm : X.mg "zip" = none) (ha : PAI X W [e, e2] ma) (hg : Gl X "zip" := by rfl) (hs : starEach [e, e2] X.env = (false, eval e X.env) :: starEach [e2] X.env := by rfl) (hpl : (backTo pos (starEach [e2] X.env)).any (·.1) = false := by rfl) : PII X W (.Tuple elts kk tpos) (.Call (.Name "zip" p) [e, e2] [] pos) (IterA zipM ma) := by
  refine PI.weak (RZ.pi_zipA hg hm ha hs hpl) fun σ H Rr ⟨ι, h, env, R, S, r⟩ => ?_
  refine ⟨ι, h, env, R, S, (run_bind (rel1 := RVs) r).mono fun vs H1 ⟨ι1, h1, xs, R1, F1, rs, r1⟩ => ?_⟩
  cases rs with
  | nil => exact r1.elim
  | cons a rs => cases rs with
    | nil => cases a <;> exact r1.elim
    | cons b rs => cases rs with
      | cons _ _ => cases a <;> cases b <;> exact r1.elim
      | nil =>
        cases a with
        | tup e1 q1 => cases b with
          | tup e2 q2 => exact ⟨_, _, _, _, rfl, .inr ⟨st_of e1, st_of e2, r1 ι1 H1 _ R1 (Fr.refl _ _) (rj_zipJ (Sq := fun H vs => SqT X.K H _ vs) (Sr := fun H vs => SqT X.K H _ vs) (lv_items R1 (fun ι2 H2 F2 => st_of (F2.keep _ _ e1 (R1.tup_out e1)).1) q1) (lv_items R1 (fun ι2 H2 F2 => st_of (F2.keep _ _ e2 (R1.tup_out e2)).1) q2)
              (fun _ _ vs ws z1 z2 z3 => ⟨vs, ws, z1, z2, z3⟩) (fun _ _ vs ws v w z1 z2 z3 z4 => ⟨vs, ws, v, w, z1, z2, z3, z4⟩) (fun _ _ _ _ y => y))⟩⟩
          | _ => exact r1.elim
        | @ref n a ea => cases b with
          | @ref m b eb =>
            have r' : Run W RJ (match h1[n]?, h1[m]? with
              | some (.lst _), some (.lst _) => some (.ok (SZip (SLive n) (SLive m)), h1)
              | _, _ => none) ι1 H1 Rr := r1
            split at r'
            · rename_i ys zs e1 e2
              obtain ⟨a', vs, z1, ea, e3, _⟩ := R1.lst (.ref ea) e1
              cases z1
              obtain ⟨b', ws, z2, eb, e4, _⟩ := R1.lst (.ref eb) e2
              cases z2
              exact ⟨_, _, vs, ws, rfl, .inl ⟨sq_of e3, sq_of e4, r' ι1 H1 _ R1 (Fr.refl _ _) (rj_zipJ (lv_live ea) (lv_live eb) (fun _ _ vs ws z1 z2 z3 => ⟨vs, ws, z1, z2, z3⟩) (fun _ _ vs ws v w z1 z2 z3 z4 => ⟨vs, ws, v, w, z1, z2, z3, z4⟩) (fun _ _ _ _ y => y))⟩⟩
            · exact r'.elim
          | _ => exact r1.elim
        | _ => exact r1.elim
theorem rj_rev {ι : List Addr} {H : Hp} {K : PySem.W.Frag} {n k : Nat} {a : Addr} (ea : ι[n]? = some a) : RJ ι H (Itv K a k) (SRev n k) := by
  intro ι2 h2 H2 R2 F2 i
  have ea2 := pre_get F2.pre ea
  unfold SRev
  by_cases hi : i < k
  · rw [if_pos hi]
    cases q0 : h2[n]? with
    | none => trivial
    | some o =>
      cases o with
      | dic _ => trivial
      | fdc _ => trivial
      | lst xs =>
        obtain ⟨a', vs, z1, _, e2, rs2⟩ := R2.lst (.ref ea2) q0
        cases z1
        show match (xs[k - 1 - i]?).map some with
          | none => True
          | some none => _
          | some (some x) => _
        cases q : xs[k - 1 - i]? with
        | none => trivial
        | some x =>
          obtain ⟨v, q1, rv⟩ := rs2.get q
          refine ⟨⟨hi, vs, v, sq_of e2, q1⟩, fun w H3 y => ?_⟩
          obtain ⟨y1, y2⟩ := y
          subst y1
          have := y2 vs (sq_of e2)
          rw [q1] at this
          cases this
          exact ⟨ι2, R2, Fr.refl _ _, rv⟩
  · rw [if_neg hi]
    exact Nat.le_of_not_lt hi
theorem pii_rev (hm : X.mg "reversed" = none) (ha : PAI X W [e] ma) (hg : Gl X "reversed" := by rfl) (hs : starEach [e] X.env = [(false, eval e X.env)] := by rfl) : PII X W tg (.Call (.Name "reversed" p) [e] [] pos) (IterA revM ma) :=
  PI.weak (pi_reversed hg hm ha hs) fun σ H Rr ⟨ι, h, env, R, S, r⟩ => ⟨ι, h, env, R, S, (run_bind (rel1 := RVs) r).mono fun vs H1 ⟨ι1, h1, xs, R1, F1, rs, r1⟩ => by
    cases rs with
    | nil => exact r1.elim
    | cons a rs =>
      cases a with
      | @ref n a ea => cases rs with
        | nil =>
          have r' : Run W RJ (match h1[n]? with
            | some (.lst xs) => some (.ok (SRev n xs.length), h1)
            | _ => none) ι1 H1 Rr := r1
          split at r'
          · rename_i ys e1
            obtain ⟨a', vs, z1, ea, e2, rs⟩ := R1.lst (.ref ea) e1
            cases z1
            exact ⟨_, vs, rfl, sq_of e2, r' ι1 H1 _ R1 (Fr.refl _ _) (by rw [rs.length]; exact rj_rev ea)⟩
          · exact r'.elim
        | cons _ _ => exact r1.elim
      | _ => cases rs <;> exact r1.elim⟩
end

/-! ### dicts made -/
def DNew : Env → M IV := fun _ h => some (.ok (.ref h.length), h ++ [.dic []])
def DOne (a b : Env → M IV) : Env → M IV := fun env => fun h => (M.bind (a env) fun x => M.bind (b env) fun y => fun h2 => match h2[h.length]?, keyI x with
  | some (.dic []), some k => some (.ok (.ref h.length), h2.set h.length (.dic (putI [] k y)))
  | _, _ => none) (h ++ [.dic []])
section
variable {X : Cx} {W : ExW} {a b : Expr} {ma mb : Env → M IV} {pos : Pos}
theorem pei_dnew : PEI X W (.Dict [] [] pos) DNew := PE.weak pe_dnewK fun σ H Q ⟨ι, h, env, R, S, r⟩ p hp => by
  have r' : Run W RV (some (.ok (.ref h.length), h ++ [.dic []])) ι H Q := r
  refine r' (ι ++ [p]) _ _ (R.push hp (u := .dic []) ⟨[], upd_same, .nil⟩) (fr_push hp) (.ref ?_)
  rw [← R.len, List.getElem?_append_right (Nat.le_refl _), Nat.sub_self]
  rfl
theorem pei_done (ha : PEI X W a ma) (hb : PEI X W b mb) : PEI X W (.Dict [some a] [b] pos) (DOne ma mb) := PE.weak (pe_disp (pps_cons ha hb pps_nil) rfl rfl (by simp) (by show 1 ≤ 15; decide)) fun σ H Q ⟨ι, h, env, R, S, r⟩ p hp => by
  have RD := R.push hp (u := .dic []) (o := .dK []) ⟨[], upd_same, .nil⟩
  have FD : Fr ι H (ι ++ [p]) (upd H p (.dK [])) := fr_push hp
  have eD : (ι ++ [p])[h.length]? = some p := by
    rw [← R.len, List.getElem?_append_right (Nat.le_refl _), Nat.sub_self]; rfl
  have r0 : Run W RV ((M.bind (ma env) fun x => M.bind (mb env) fun y => fun h2 => match h2[h.length]?, keyI x with
    | some (.dic []), some k => some (.ok (.ref h.length), h2.set h.length (.dic (putI [] k y)))
    | _, _ => none) (h ++ [.dic []])) (ι ++ [p]) (upd H p (.dK [])) Q := by
    have r : Run W RV ((M.bind (ma env) fun x => M.bind (mb env) fun y => fun h2 => match h2[h.length]?, keyI x with
      | some (.dic []), some k => some (.ok (.ref h.length), h2.set h.length (.dic (putI [] k y)))
      | _, _ => none) (h ++ [.dic []])) ι H Q := r
    unfold Run at r ⊢
    split <;> rename_i e9 <;> simp only [e9] at r
    · exact fun ι' H' v R F z => r ι' H' v R (FD.trans F) z
    · exact fun ι' H' R F => r ι' H' R (FD.trans F)
  have SD := S.mono R FD
  refine ⟨_, _, env, RD, SD, (run_bind (rel1 := RV) r0).mono fun v H1 ⟨ι1, h1, x, R1, F1, rv, r1⟩ => ?_⟩
  refine ⟨ι1, h1, env, R1, SD.mono RD F1, (run_bind (rel1 := RV) r1).mono fun w H2 ⟨ι2, h2, y, R2, F2, rw, r2⟩ => ?_⟩
  have r2' : Run W RV (match h2[h.length]?, keyI x with
    | some (.dic []), some k => some (.ok (.ref h.length), h2.set h.length (.dic (putI [] k y)))
    | _, _ => none) ι2 H2 Q := r2
  split at r2'
  · rename_i k e1 e2
    have eD2 := pre_get (F1.trans F2).pre eD
    obtain ⟨a', ks, z1, z0, z2, rk⟩ := R2.dic (.ref eD2) e1
    cases z1
    cases rk
    refine ⟨z2, [(k, w)], ?_, by show 1 ≤ 15; decide, ?_⟩
    · rw [key_ok (R1.mono F2 rv) e2]; rfl
    · have hm := List.mem_of_getElem? eD2
      exact r2' ι2 _ _ (R2.set eD2 (u := .dic (putI [] k y)) ⟨_, upd_same, RKs.monok R2 (fk_set hm) (RKs.put .nil rw)⟩) (fr_set hm (nf_dk z2)) (.ref eD2)
  · exact r2'.elim
/-- {k: v for ..} -/
def DcL (s : Src) (p : Pat) (c : Env → M Bool) (kx el : Env → M IV) (d : Nat) (env : Env) : Nat → Nat → M Unit
  | 0, _ => stuck
  | n + 1, i => fun h => match s h i with
    | none => none
    | some none => some (.ok (), h)
    | some (some x) => match p.set x env with
      | none => none
      | some env2 => M.bind (c env2) (fun k => if k = true then M.bind (kx env2) (fun y => M.bind (el env2) (fun z => fun h3 => match h3[d]?, keyI y with
          | some (.dic kvs), some kk => if kvs.length < lim then DcL s p c kx el d env n (i + 1) (h3.set d (.dic (putI kvs kk z))) else none
          | _, _ => none)) else DcL s p c kx el d env n (i + 1)) h
def DcE (n : Nat) (src : Env → M Src) (p : Pat) (c : Env → M Bool) (kx el : Env → M IV) (vs : List Nat) : Env → M IV := fun env => M.bind (src env) fun s => fun h => match DcL s p c kx el h.length (wipeE env vs) n 0 (h ++ [.dic []]) with
  | some (.ok _, h') => some (.ok (.ref h.length), h')
  | _ => none
theorem dc_weak (n : Nat) {src : Env → M Src} {p : Pat} {c : Env → M Bool} {mk el : Env → M IV} {vs : List Nat} {σ : L2.St} {H : Hp} {Q : VK} (hv : ∀ i ∈ p.ix, i ∈ vs) (t : tI W (DcE n src p c mk el vs) σ H Q) : tDc (tII W src) (gPat X.K p) (tIT W0 c) (tI W0 mk) (tI W0 el) vs σ H Q := by
  obtain ⟨ι, h, env, R, S, r⟩ := t
  refine ⟨ι, h, env, R, S, (run_bind (rel1 := RJ) r).mono fun J H1 ⟨ι1, h1, s, R1, F1, rj, r1⟩ => ?_⟩
  intro D hD
  have r1' : Run W RV (match DcL s p c mk el h1.length (wipeE env vs) n 0 (h1 ++ [.dic []]) with
    | some (.ok _, h') => some (.ok (.ref h1.length), h')
    | _ => none) ι1 H1 Q := r1
  generalize hL : DcL s p c mk el h1.length (wipeE env vs) n 0 (h1 ++ [.dic []]) = o at r1'
  match o, r1', hL with
  | none, r1', _ => exact r1'.elim
  | some (.ex _, _), r1', _ => exact r1'.elim
  | some (.ok u, hf), r1', hL =>
    have RD : Rel (ι1 ++ [D]) (h1 ++ [.dic []]) (upd H1 D (.dK [])) := R1.push hD (u := .dic []) ⟨[], upd_same, .nil⟩
    have FD : Fr ι1 H1 (ι1 ++ [D]) (upd H1 D (.dK [])) := fr_push hD
    have eD : (ι1 ++ [D])[h1.length]? = some D := by
      rw [← R1.len, List.getElem?_append_right (Nat.le_refl _), Nat.sub_self]; rfl
    have Sw := rst_wipe (S.mono R F1) vs
    refine ⟨fun i k H2 => ∃ ι2 h2, Rel ι2 h2 H2 ∧ Fr (ι1 ++ [D]) (upd H1 D (.dK [])) ι2 H2 ∧ DcL s p c mk el h1.length (wipeE env vs) k i h2 = some (.ok u, hf), ⟨n, _, _, RD, Fr.refl _ _, hL⟩, ?_⟩
    rintro i k H2 ⟨ι2, h2, R2, F2, e2⟩
    cases k with
    | zero => cases e2
    | succ k =>
      have F12 := FD.trans F2
      have q := rj ι2 h2 H2 R2 F12 i
      unfold DcL at e2
      cases e0 : s h2 i with
      | none => simp only [e0] at e2; cases e2
      | some o =>
        cases o with
        | none =>
          simp only [e0] at e2 q
          cases e2
          exact .inl ⟨q, r1' ι2 H2 (.ref D) R2 F12 (.ref (pre_get F2.pre eD))⟩
        | some x =>
          simp only [e0] at e2 q
          cases e3 : p.set x (wipeE env vs) with
          | none => simp only [e3] at e2; cases e2
          | some env2 =>
            simp only [e3] at e2
            refine .inr ⟨q.1, fun H3 => ∃ ι3 h3, Rel ι3 h3 H3 ∧ Fr (ι1 ++ [D]) (upd H1 D (.dK [])) ι3 H3 ∧ DcL s p c mk el h1.length (wipeE env vs) k (i + 1) h3 = some (.ok u, hf), fun H' w => ⟨k, Nat.lt_succ_self _, w⟩, fun v H3 y => ?_⟩
            obtain ⟨ι3, R3, F3, rv⟩ := q.2 v H3 y
            have S3 : RSt ι3 H3 (wipe σ vs) (wipeE env vs) := (Sw.mono R1 F12).mono R2 F3
            refine gPat_run rv S3 e3 hv fun σ4 w4 S4 => ⟨by rw [w4, wipe_wipe], ι3, h2, env2, R3, S4, (run_eq (rel := RB) e2).mono fun b H4 ⟨ι4, h4, bb, R4, F4, rb, e4⟩ => ?_⟩
            cases (show b = bb from rb)
            have F14 := (F2.trans F3).trans F4
            cases b with
            | false => exact iteF ⟨ι4, h4, R4, F14, e4⟩
            | true =>
              refine iteT ⟨ι4, h4, env2, R4, S4.mono R3 F4, (run_eq (rel := RV) e4).mono fun w H5 ⟨ι5, h5, y5, R5, F5, rw5, e5⟩ => ?_⟩
              refine ⟨ι5, h5, env2, R5, (S4.mono R3 F4).mono R4 F5, (run_eq (rel := RV) e5).mono fun w6 H6 ⟨ι6, h6, z6, R6, F6, rw6, e6⟩ => ?_⟩
              have F16 := (F14.trans F5).trans F6
              have eD6 := pre_get F16.pre eD
              cases e7 : h6[h1.length]? with
              | none => simp only [e7] at e6; cases e6
              | some ob =>
                cases ob with
                | lst _ => simp only [e7] at e6; cases e6
                | fdc _ => simp only [e7] at e6; cases e6
                | dic kvs =>
                  cases e8 : keyI y5 with
                  | none => simp only [e7, e8] at e6; cases e6
                  | some kk =>
                    simp only [e7, e8] at e6
                    obtain ⟨a', ks, z1, z0, z2, rk⟩ := R6.dic (.ref eD6) e7
                    cases z1
                    by_cases hl : kvs.length < lim
                    · rw [if_pos hl] at e6
                      have hm := List.mem_of_getElem? eD6
                      exact ⟨ks, kk, key_ok (R5.mono F6 rw5) e8, z2, by rw [rk.length]; exact sz_lt hl, ι6, _, R6.set eD6 (u := .dic (putI kvs kk z6)) ⟨_, upd_same, RKs.monok R6 (fk_set hm) (rk.put rw6)⟩, F16.trans (fr_set hm (nf_dk z2)), e6⟩
                    · rw [if_neg hl] at e6; cases e6
theorem pei_dc (n : Nat) {kx elt tg iter : Expr} {ifs : List Expr} {scope : Scope} (own : List (Str × Nat)) {src : Env → M Src} {p : Pat} {c : Env → M Bool} {mk el : Env → M IV} (hc : X.calm = true) (hN : X.N.Nodup) (hi : PII X W tg iter src) (ok : blkC X.N X.env.scope scope own = true)
    (hg : ∀ (s : Shared) (H : Hp) (C : Addr) (cl : List (Str × Addr)) (fp : List Addr), PG (X.blk s H scope (compEnvC scope cl C X.env) fp) tg (gPat X.K p)) (ht : ∀ (s : Shared) (H : Hp) (C : Addr) (cl : List (Str × Addr)) (fp : List Addr), PTsI (X.blk s H scope (compEnvC scope cl C X.env) fp) ifs c)
    (hk : ∀ (s : Shared) (H : Hp) (C : Addr) (cl : List (Str × Addr)) (fp : List Addr), PEI (X.blk s H scope (compEnvC scope cl C X.env) fp) W0 kx mk) (he : ∀ (s : Shared) (H : Hp) (C : Addr) (cl : List (Str × Addr)) (fp : List Addr), PEI (X.blk s H scope (compEnvC scope cl C X.env) fp) W0 elt el) (hv : ∀ i ∈ p.ix, i ∈ own.map (·.2) := by decide) (hs : ∀ x, foldedSetIterable iter X.env x = pure x := by intro _; rfl) :
    PEI X W (.DictComp kx elt [⟨tg, iter, ifs, 0⟩] scope pos) (DcE n src p c mk el (own.map (·.2))) := by
  generalize hvs : own.map (·.2) = vs at hv
  refine PE.weak (pe_dc hc hN hi (blkOk_by ok) hg ht hk he hs) fun σ H Q t => ?_
  rw [hvs]
  exact dc_weak n hv t
end
end Iv
set_option Elab.async false
set_option linter.all false
set_option maxRecDepth 100000
set_option maxHeartbeats 2000000
set_option autoImplicit false
namespace Iv
open PySem L2
variable [KL]

/-! ### unpacking a list or a tuple -/
theorem PG.or {X : Cx} {e : Expr} {t t' : TG} (h : PG X e t) (h' : PG X e t') : PG X e (fun v σ H Q => t v σ H Q ∨ t' v σ H Q) := ⟨fun pins s σ H v u Q I r q => q.elim (h.run pins s σ H v u Q I r) (h'.run pins s σ H v u Q I r)⟩
def TgUn (n : Nat) (u : List IV → Env → M Env) : MTg := fun x env => fun h => match seqI h x with
  | some xs => if xs.length = n then u xs env h else none
  | none => none
section
variable {X : Cx} {W : ExW} {e : Expr} {es : List Expr} {ma : Env → M (List IV)} {pos p kpos : Pos} {x : Str}
theorem pgi_un (n : Nat) {k : Nat} {um : List IV → Env → M Env} (hc : X.calm = true) (h : PGsI X W es um) (hn : (assignEach es X.env).length = n := by rfl) (hst : (assignEach es X.env).findIdx? (·.1) = none := by rfl) : PGI X W (.Tuple es k pos) (TgUn n um) :=
  PG.weak (PG.or (pg_tup hc h hn hst) (pg_unl hc h hn hst)) fun v σ H Q ⟨ι, h, env, x, R, S, rv, r⟩ => by
    have r' : Run W RE (match seqI h x with
      | some xs => if xs.length = n then um xs env h else none
      | none => none) ι H Q := r
    cases q : seqI h x with
    | none => simp only [q] at r'; exact r'.elim
    | some xs =>
      simp only [q] at r'
      by_cases hl : xs.length = n
      · rw [if_pos hl] at r'
        obtain ⟨a, vs, e1, rs, e2⟩ := seq_ok (K := X.K) R rv q
        rcases e2 with e2 | e2
        · exact .inr ⟨a, vs, e1, e2, by rw [rs.length]; exact hl, ι, h, env, xs, R, S, rs, r'⟩
        · exact .inl ⟨a, vs, e1, e2, by rw [rs.length]; exact hl, ι, h, env, xs, R, S, rs, r'⟩
      · rw [if_neg hl] at r'; exact r'.elim

/-! ### calls by keywords alone -/
def PKI (X : Cx) (W : ExW) (kws : List Keyword) (m : Env → M (List IV)) : Prop := PK X kws (tIA W m)
theorem PK.weak {kws : List Keyword} {t t' : TA} (h : PK X kws t) (k : ∀ σ H Q, t' σ H Q → t σ H Q) : PK X kws t' := ⟨fun pos pins s σ H Q I q => h.run pos pins s σ H Q I (k σ H Q q)⟩
theorem pki_nil : PKI X W [] Nil := PK.weak pk_nil fun σ H Q ⟨ι, h, env, R, S, r⟩ => run_pure r R .nil
theorem pki_cons {nm : Option Str} {kws : List Keyword} {m : Env → M IV} {mr : Env → M (List IV)} (ha : PEI X W e m) (hr : PKI X W kws mr) : PKI X W (⟨nm, e, kpos⟩ :: kws) (Cons m mr) := PK.weak (pk_cons ha hr) fun σ H Q ⟨ι, h, env, R, S, r⟩ =>
  ⟨ι, h, env, R, S, (run_bind (rel1 := RV) r).mono fun v H1 ⟨ι1, h1, x, R1, F1, rv, r1⟩ => ⟨ι1, h1, env, R1, S.mono R F1, (run_bind (rel1 := RVs) r1).mono fun w H2 ⟨ι2, h2, y, R2, F2, rw, r2⟩ => run_pure r2 R2 (.cons (R1.mono F2 rv) rw)⟩⟩
/-- the values of the keywords in the parameters' order: the i-th parameter is the (p i)-th keyword -/
def perm {α : Type} (ps : List Nat) (xs : List α) : List α := ps.filterMap fun i => xs[i]?
/-- how keywords bind -/
def KwOk (K : PySem.W.Frag) (fd : FuncData) (ps ks : List Str) (p : List Nat) : Prop := ∀ (s : Shared) (ws : List Value), K.In s.heap → ws.length = p.length → BindsTo s fd ⟨[], ks.zip ws⟩ (ps.zip (perm p ws))
theorem vals_perm {vs : List V} {us : List Value} (r : Vals vs us) : ∀ p : List Nat, Vals (perm p vs) (perm p us)
  | [] => .nil
  | i :: p => by
    unfold perm
    rw [List.filterMap_cons, List.filterMap_cons]
    cases q : vs[i]? with
    | none => rw [Vals.none_of r q]; exact vals_perm r p
    | some v =>
      obtain ⟨u, h1, h2⟩ := r.get q
      rw [h1]
      exact .cons h2 (vals_perm r p)
theorem RVs.perm {ι : List Addr} {H : Hp} {vs : List V} {xs : List IV} (r : RVs ι H vs xs) : ∀ p : List Nat, RVs ι H (Iv.perm p vs) (Iv.perm p xs)
  | [] => .nil
  | i :: p => by
    unfold Iv.perm
    rw [List.filterMap_cons, List.filterMap_cons]
    cases q : xs[i]? with
    | none =>
      have : vs[i]? = none := by rw [List.getElem?_eq_none_iff] at q ⊢; rw [r.length]; exact q
      rw [this]; exact RVs.perm r p
    | some v =>
      obtain ⟨u, h1, h2⟩ := r.get q
      rw [h1]
      exact .cons h2 (RVs.perm r p)
def CallOkK (P : Program) (w : World) (K : PySem.W.Frag) (mg : Str → Option Value) (base : Heap) (x : Str) (k n : Nat) (F : List IV → M IV) (ks : List Str) (p : List Nat) : Prop :=
  ∃ f fd ps, FnOk P w K mg base CX0 k f fd ps (sp0 n F) ∧ mg x = some (.ref f) ∧ PySem.W.keepIn K (.ref f) = true ∧ KwOk K fd ps ks p
def CallK (n : Nat) (F : List IV → M IV) (p : List Nat) (a : Env → M (List IV)) : Env → M IV := fun env => M.bind (a env) fun xs => if (perm p xs).length = n ∧ xs.length = p.length then noex (F (perm p xs)) else stuck
theorem pei_callK {F : List IV → M IV} {k n : Nat} {ks : List Str} {pm : List Nat} {kws : List Keyword} (C : CallOkK X.prog X.w X.K X.mg X.base x k n F ks pm) (hr : Room k X.A) (hkw : PKI X W kws ma) (hg : Gl X x := by rfl) (hall : (backToKw pos (keywordEach kws X.env)).all (·.1.isSome) = true := by rfl) (hks : (backToKw pos (keywordEach kws X.env)).filterMap (·.1) = ks := by rfl)
    (hdb : (x == ("__debug__" : Str)) = false := by decide) (hpl : ((backTo pos (starEach [] X.env)).any (·.1) || (backToKw pos (keywordEach kws X.env)).any (·.1.isNone)) = false := by rfl) : PEI X W (.Call (.Name x p) [] kws pos) (CallK n F pm ma) := by
  obtain ⟨f, fd, ps, FO, hm, hk, hb⟩ := C
  refine ⟨fun pins s σ H Q I t => ?_⟩
  obtain ⟨ι, h, env, R, S, r⟩ := t
  refine PySem.wpAny_Call_Name_kw (ld_glob I hg hm ?_ hdb)
  refine PySem.W.callWith_KW0 (h₀ := X.base) I.ok.mod.kin hk hall ?_ hpl
  refine thn (hkw.run pos pins s σ H (fun zs H1 => sp0 n F (perm pm zs) H1 Q E0 ∧ zs.length = pm.length) I ⟨ι, h, env, R, S, (run_bind (rel1 := RVs) r).mono fun vs H1 ⟨ι1, h1, xs, R1, F1, rs, r1⟩ => ?_⟩) fun ws s2 ⟨zs, H2, I2, rz, q2, hz⟩ => ⟨I2.kIn, ?_⟩
  · obtain ⟨hl, r1⟩ := run_if r1
    exact ⟨⟨by rw [(rs.perm pm).length]; exact hl.1, ι1, h1, _, R1, rs.perm pm, run_noex r1⟩, by rw [rs.length]; exact hl.2⟩
  · rw [hks]
    have KB : KBinds X.K fd ps ks (fun _ ws => perm pm ws) (fun _ zs => perm pm zs) → True := fun _ => trivial
    have r2 := vals_perm rz pm
    have hl : (perm pm ws).length = ps.length := by rw [← r2.length]; exact FO.len _ _ _ _ q2
    refine wpAny_call (codeAny_mono (FO.run X.A X.stack s2 H2 ⟨[], ks.zip ws⟩ (perm pm ws) (perm pm zs) Q E0 hr I2.env0 (hb s2 ws I2.kIn (by rw [← rz.length]; exact hz)) r2 q2) fun r s' hq => ?_)
    cases r with
    | error e => exact hq.elim
    | ok fl =>
      cases fl with
      | ret u => exact I2.after hq
      | next => exact False.elim hq
      | brk => exact False.elim hq
      | cont => exact False.elim hq

/-! ### a call in a heap of its own: values without lists in and out -/
mutual
def pureI : IV → Bool
  | .tup xs => pureIs xs
  | .non => true
  | .bl _ => true
  | .int _ => true
  | .str _ => true
  | .fl _ => false
  | .kl _ => false
  | .exo => false
  | .ref _ => false
def pureIs : List IV → Bool
  | [] => true
  | x :: xs => pureI x && pureIs xs
end
mutual
theorem RV.shift {ι ι' : List Addr} {H : Hp} : ∀ {x : IV} {v : V}, pureI x = true → RV ι H v x → RV ι' H v x
  | .non, _, _, .non => .non
  | .bl _, _, _, .bl b => .bl b
  | .int _, _, _, .int i => .int i
  | .str _, _, _, .str x => .str x
  | .tup xs, _, p, .tup e r => .tup e (RVs.shift (by simpa [pureI] using p) r)
  | .fl _, _, p, _ => by simp [pureI] at p
  | .kl _, _, p, _ => by simp [pureI] at p
  | .exo, _, p, _ => by simp [pureI] at p
  | .ref _, _, p, _ => by simp [pureI] at p
theorem RVs.shift {ι ι' : List Addr} {H : Hp} : ∀ {xs : List IV} {vs : List V}, pureIs xs = true → RVs ι H vs xs → RVs ι' H vs xs
  | [], _, _, .nil => .nil
  | x :: xs, _, p, .cons a r => by
    rw [pureIs, Bool.and_eq_true] at p
    exact .cons (RV.shift p.1 a) (RVs.shift p.2 r)
end
def CallP (n : Nat) (F : List IV → M IV) (a : Env → M (List IV)) : Env → M IV := fun env => M.bind (a env) fun xs => fun h => if xs.length = n ∧ pureIs xs = true then (match F xs [] with
  | some (.ok y, _) => if pureI y = true then some (.ok y, h) else none
  | _ => none) else none
theorem callP_run {F : List IV → M IV} {n : Nat} {ι : List Addr} {h : IH} {H : Hp} {vs : List V} {xs : List IV} {Q : VK} {E : XK} (R : Rel ι h H) (rs : RVs ι H vs xs) (r : Run W RV (if xs.length = n ∧ pureIs xs = true then (match F xs [] with
  | some (.ok y, _) => if pureI y = true then some (.ok y, h) else none
  | _ => none) else none) ι H Q) : sp0 n F vs H Q E := by
  split at r
  · rename_i hc
    refine ⟨by rw [rs.length]; exact hc.1, [], [], xs, ⟨rfl, List.nodup_nil, fun n o a e _ => by simp at e⟩, rs.shift hc.2, ?_⟩
    cases q : F xs [] with
    | none => simp only [q] at r; exact r.elim
    | some oh =>
      obtain ⟨o, h'⟩ := oh
      cases o with
      | ex e => simp only [q] at r; exact r.elim
      | ok y =>
        simp only [q] at r
        by_cases hp : pureI y = true
        · rw [if_pos hp] at r
          intro ι' H' v R' F' rv
          have FF : Fr ι H ι H' := ⟨⟨List.prefix_refl _, fun a o e na => ⟨(F'.keep a o e (by simp)).1, na⟩⟩, fun a o u e => F'.frz a o u e⟩
          refine r ι H' v ⟨R.len, R.nd, fun n u a e1 e2 => RO.mono R FF ?_ (R.obj n u a e1 e2)⟩ FF (rv.shift hp)
          have hro := R.obj n u a e1 e2
          cases u with
          | lst xs => obtain ⟨vs, z, _⟩ := hro; rw [z]; exact (F'.keep a _ z (by simp)).1
          | dic xs => obtain ⟨vs, z, _⟩ := hro; rw [z]; exact (F'.keep a _ z (by simp)).1
          | fdc xs => obtain ⟨_, vs, z, _⟩ := hro; rw [z]; exact (F'.keep a _ z (by simp)).1
        · rw [if_neg hp] at r; exact r.elim
  · exact r.elim
theorem pei_callP {F : List IV → M IV} {k n : Nat} (C : CallOk X.prog X.w X.K X.mg X.base x k n F) (hr : Room k X.A) (ha : PAI X W (e :: es) ma) (hg : Gl X x := by rfl) (hdb : (x == ("__debug__" : Str)) = false := by decide) (he : starEach (e :: es) X.env = (false, eval e X.env) :: starEach es X.env := by rfl)
    (hpl : (backTo pos (starEach es X.env)).any (·.1) = false := by rfl) : PEI X W (.Call (.Name x p) (e :: es) [] pos) (CallP n F ma) :=
  let ⟨_, _, _, FO, hm, hk, hb⟩ := C
  PE.weak (pe_call FO hr hg hm hk hb .nil pass0 ha hdb he hpl) fun σ H Q ⟨ι, h, env, R, S, r⟩ =>
    ⟨ι, h, env, R, S, (run_bind (rel1 := RVs) r).mono fun vs H1 ⟨ι1, h1, xs, R1, F1, rs, r1⟩ => by
      rw [List.append_nil]
      exact callP_run R1 rs r1⟩
theorem pei_callP0 {F : List IV → M IV} {k n : Nat} (C : CallOk X.prog X.w X.K X.mg X.base x k n F) (hr : Room k X.A) (hg : Gl X x := by rfl) (hdb : (x == ("__debug__" : Str)) = false := by decide) : PEI X W (.Call (.Name x p) [] [] pos) (CallP n F Nil) :=
  let ⟨_, _, _, FO, hm, hk, hb⟩ := C
  PE.weak (pe_call0 FO hr hg hm hk hb .nil pass0 hdb) fun σ H Q ⟨ι, h, env, R, S, r⟩ => callP_run (xs := []) (E := E0) R .nil r
end
/-- a call whose result holds no list if its arguments hold none: in a heap of its own then -/
def CallD (n : Nat) (F : List IV → M IV) (a : Env → M (List IV)) : Env → M IV := fun env => M.bind (a env) fun xs => fun h => if pureIs xs = true then (if xs.length = n ∧ pureIs xs = true then (match F xs [] with
  | some (.ok y, _) => if pureI y = true then some (.ok y, h) else none
  | _ => none) else none) else (if xs.length = n then noex (F xs) else stuck) h
section
variable {X : Cx} {W : ExW} {e : Expr} {es : List Expr} {ma : Env → M (List IV)} {pos p : Pos} {x : Str}
theorem pei_callD {F : List IV → M IV} {k n : Nat} (C : CallOk X.prog X.w X.K X.mg X.base x k n F) (hr : Room k X.A) (ha : PAI X W (e :: es) ma) (hg : Gl X x := by rfl) (hdb : (x == ("__debug__" : Str)) = false := by decide) (he : starEach (e :: es) X.env = (false, eval e X.env) :: starEach es X.env := by rfl)
    (hpl : (backTo pos (starEach es X.env)).any (·.1) = false := by rfl) : PEI X W (.Call (.Name x p) (e :: es) [] pos) (CallD n F ma) :=
  let ⟨_, _, _, FO, hm, hk, hb⟩ := C
  PE.weak (pe_call FO hr hg hm hk hb .nil pass0 ha hdb he hpl) fun σ H Q ⟨ι, h, env, R, S, r⟩ =>
    ⟨ι, h, env, R, S, (run_bind (rel1 := RVs) r).mono fun vs H1 ⟨ι1, h1, xs, R1, F1, rs, r1⟩ => by
      rw [List.append_nil]
      by_cases hp : pureIs xs = true
      · rw [if_pos hp] at r1
        exact callP_run R1 rs r1
      · rw [if_neg hp] at r1
        obtain ⟨hl, r1⟩ := run_if r1
        exact ⟨by rw [rs.length]; exact hl, ι1, h1, xs, R1, rs, run_noex r1⟩⟩
end
/-- a def of the text, by what the head shows of it -/
theorem topFn_of {K : PySem.W.Frag} {h : Heap} {mg : Str → Option Value} (X : K.In h) (G : h.Ns mainGlobals mg) {x : Str} {st : Stmt} {ps : List Str} {f : Addr} {oc kV dc pm cd ct : Value} {od an : Option Addr} {sl : Array (Option Value)}
    (a : PySem.W.nsIn K mainGlobals x = some (some (.ref f))) (l : K.lookup f = some ⟨oc, od, .func (PySem.W.fnOf x x (defArgs st) (defBody st) (defScope st) .none kV dc pm an cd ct), sl⟩) (c : PySem.W.codeIn K cd x = true) (k : PySem.W.keepIn K (.ref f) = true)
    (hb : ∀ (kV doc pm : Value) (an : Option Addr) (cdv ct : Value) (us : List Value), us.length = ps.length → bindArgs (PySem.W.fnOf x x (defArgs st) (defBody st) (defScope st) .none kV doc pm an cdv ct) ⟨us, []⟩ = pure (ps.zip us)) : TopFn K mg x st ps :=
  ⟨f, _, fun_mk (st := st) l c k, PySem.W.mg_of X G a, (fun_mk (st := st) l c k).binds hb⟩
/-- .. and how it binds keywords -/
def TopK (K : PySem.W.Frag) (mg : Str → Option Value) (x : Str) (st : Stmt) (ps ks : List Str) (p : List Nat) : Prop := ∀ f fd, Fun K x x st f fd → KwOk K fd ps ks p
theorem callK_of {P : Program} {w : World} {K : PySem.W.Frag} {mg : Str → Option Value} {base : Heap} {x : Str} {st : Stmt} {ps ks : List Str} {p : List Nat} {k n : Nat} {F : List IV → M IV} (T : TopFn K mg x st ps) (hk : TopK K mg x st ps ks p)
    (h : ∀ f fd, Fun K x x st f fd → FnOk P w K mg base CX0 k f fd ps (sp0 n F)) : CallOkK P w K mg base x k n F ks p :=
  let ⟨f, fd, Fn, m, _⟩ := T; ⟨f, fd, ps, h f fd Fn, m, Fn.kp, hk f fd Fn⟩
theorem topK_of {K : PySem.W.Frag} {mg : Str → Option Value} {x : Str} {st : Stmt} {ps ks : List Str} {p : List Nat} (hb : ∀ (kV doc pm : Value) (an : Option Addr) (cdv ct : Value) (ws : List Value), ws.length = p.length → bindArgs (PySem.W.fnOf x x (defArgs st) (defBody st) (defScope st) .none kV doc pm an cdv ct) ⟨[], ks.zip ws⟩ = pure (ps.zip (perm p ws))) : TopK K mg x st ps ks p := by
  intro f fd Fn s ws _ hl
  obtain ⟨oc, od, kV, doc, pm, an, cdv, ct, osl, rfl, lk, hcd⟩ := Fn.ex
  exact .of_eq (hb kV doc pm an cdv ct ws hl)
/-- the law's promise -/
def spLaw (K : PySem.W.Frag) : Sp := fun vs H Q _ => ∃ (a : Addr) (ns : List Int), vs = [.ref a] ∧ SqL K H a (ns.map V.int) ∧ ns.length ≤ 63 ∧ Only H ∧ ∀ H', Q (.bl true) H'
theorem law_imp {K : PySem.W.Frag} {F : List IV → M IV} (hKL : ∀ a vs, (∀ H, SqL K H a vs) → KL.p a vs) (pureT : ∀ (ns : List Int) (x : IV), ns.length ≤ 63 → x = .fl (ns.map IV.int) ∨ x = .kl (ns.map IV.int) → ∃ h', F [x] [] = some (.ok (.bl true), h')) :
    ∀ vs H Q E, spLaw K vs H Q E → sp0 1 F vs H Q E := by
  rintro vs H Q E ⟨a, ns, rfl, hs, hl, hO, k⟩
  have fin : ∀ x, x = .fl (ns.map IV.int) ∨ x = .kl (ns.map IV.int) → RV [] H (.ref a) x → sp0 1 F [.ref a] H Q E := fun x hx rv => by
    obtain ⟨h', e⟩ := pureT ns x hl hx
    refine ⟨rfl, [], [], [x], ⟨rfl, List.nodup_nil, fun n o a e _ => by simp at e⟩, .cons rv .nil, ?_⟩
    rw [e]
    intro ι' H' v R' F' rv
    cases rv
    exact k H'
  rcases hs with (hs | ⟨o, hs⟩) | hs
  · rcases hO a with z | ⟨_, _, z⟩ <;> rw [hs] at z <;> cases z
  · exact fin _ (.inl rfl) (.fl hs (by simp) (RVs.of_ints ns))
  · exact fin _ (.inr rfl) (.kl (hKL a _ fun H => .inr hs) (RVs.of_ints ns))
end Iv
set_option Elab.async false
set_option linter.all false
set_option maxRecDepth 100000
set_option maxHeartbeats 2000000
set_option autoImplicit false
namespace Iv
open PySem L2

/-! ### what a mirror gives -/
def Ok {α : Type} (m : M α) (h : IH) (P : α → IH → Prop) : Prop := ∃ x h', m h = some (.ok x, h') ∧ P x h'
section
variable {α β : Type} {m : M α} {k : α → M β} {h h1 : IH} {P P' : α → IH → Prop} {Q : β → IH → Prop} {x : α}
theorem ok_pure (p : P x h) : Ok (M.pure x) h P := ⟨x, h, rfl, p⟩
theorem ok_of (e : m h = some (.ok x, h1)) (p : P x h1) : Ok m h P := ⟨x, h1, e, p⟩
theorem Ok.mono (o : Ok m h P) (f : ∀ x h', P x h' → P' x h') : Ok m h P' := let ⟨x, h', e, p⟩ := o; ⟨x, h', e, f x h' p⟩
theorem ok_bind (o : Ok m h P) (f : ∀ x h', P x h' → Ok (k x) h' Q) : Ok (M.bind m k) h Q := by
  obtain ⟨x, h1, e, p⟩ := o
  obtain ⟨y, h2, e2, q⟩ := f x h1 p
  exact ⟨y, h2, by unfold M.bind; rw [e]; exact e2, q⟩
theorem bind_ok (e : m h = some (.ok x, h1)) : M.bind m k h = k x h1 := by unfold M.bind; rw [e]
theorem noex_ok (e : m h = some (.ok x, h1)) : noex m h = some (.ok x, h1) := by unfold noex; rw [e]
theorem ok_noex (o : Ok m h P) : Ok (noex m) h P := let ⟨x, h', e, p⟩ := o; ⟨x, h', noex_ok e, p⟩
end
theorem LN_pos : True := trivial
/-- what stood stands -/
def Gr (h h' : IH) : Prop := ∀ (n : Nat) (o : IO), h[n]? = some o → h'[n]? = some o
theorem Gr.refl (h : IH) : Gr h h := fun _ _ e => e
theorem Gr.trans {h h1 h2 : IH} (a : Gr h h1) (b : Gr h1 h2) : Gr h h2 := fun n o e => b n o (a n o e)
theorem Gr.push (h l : IH) : Gr h (h ++ l) := fun n o e => by
  have hl := (List.getElem?_eq_some_iff.mp e).1
  rw [List.getElem?_append_left hl]; exact e
/-- all but one -/
def GrX (u : Nat) (h h' : IH) : Prop := ∀ (n : Nat) (o : IO), n ≠ u → h[n]? = some o → h'[n]? = some o
theorem GrX.refl (u : Nat) (h : IH) : GrX u h h := fun _ _ _ e => e
theorem GrX.trans {u : Nat} {h h1 h2 : IH} (a : GrX u h h1) (b : GrX u h1 h2) : GrX u h h2 := fun n o z e => b n o z (a n o z e)
theorem Gr.x {u : Nat} {h h' : IH} (a : Gr h h') : GrX u h h' := fun n o _ e => a n o e
theorem GrX.set {u : Nat} {h : IH} {o : IO} : GrX u h (h.set u o) := fun n p z e => by rw [List.getElem?_set_ne (Ne.symm z)]; exact e

/-! ### the environment's slots -/
theorem var_ok {env : Env} {i : Nat} {x : IV} {h : IH} (e : env[i]? = some (some x)) : Var i env h = some (.ok x, h) := by unfold Var; rw [e]; rfl

/-! ### bounds -/
theorem smallI_of {i : Int} (h1 : -18446744073709551616 < i) (h2 : i < 18446744073709551616) : smallI i = true := by
  unfold smallI wordLim
  simp [h1, h2]
theorem mulOk_r {i j : Int} (h1 : -18446744073709551616 < j) (h2 : j < 18446744073709551616) : mulOk i j = true := by
  unfold mulOk; rw [smallI_of h1 h2]; simp
theorem mulOk_l {i j : Int} (h1 : -18446744073709551616 < i) (h2 : i < 18446744073709551616) : mulOk i j = true := by
  unfold mulOk; rw [smallI_of h1 h2]; simp
theorem divOk_of {i j : Int} (h1 : 0 < j) (h2 : j < 18446744073709551616) : divOk i j = true := by
  unfold divOk
  have e : j.natAbs.log2 < divLim := by
    unfold divLim
    have h3 : j.natAbs < 2 ^ 64 := by omega
    by_cases hz : j.natAbs = 0
    · omega
    · have := (Nat.log2_lt hz).mpr h3
      omega
  simp [h1, e]
theorem modOk_of {i j : Int} (h1 : 0 < j) : modOk i j = true := by unfold modOk; simp [h1]
theorem le_lim {n : Nat} (h : n ≤ 100000) : n ≤ lim := by rw [lim_eq]; exact h
theorem lt_lim {n : Nat} (h : n < 100000) : n < lim := by rw [lim_eq]; exact h
theorem pos_bind_pure {α β : Type} (x : α) (k : α → M β) : M.bind (M.pure x) k = k x := rfl
end Iv
set_option Elab.async false
set_option linter.all false
set_option maxRecDepth 100000
set_option maxHeartbeats 1000000
set_option autoImplicit false
namespace Iv
open PySem L2

/-! ### the loops, on the mirrors' side -/
theorem forL_ok {s : Src} {t : MTg} {b : Env → M Fl} {n : Nat} (I : Nat → Env → IH → Prop)
    (hs : ∀ i env h, i < n → I i env h → ∃ x, s h i = some (some x) ∧ Ok (M.bind (t x env) b) h fun f h' => ∃ e, (f = .nx e ∨ f = .ct e) ∧ I (i + 1) e h')
    (he : ∀ env h, I n env h → s h n = some none) : ∀ (k i : Nat) (env : Env) (h : IH), i ≤ n → n - i < k → I i env h → Ok (ForL s t b k i env) h fun f h' => ∃ e, f = .nx e ∧ I n e h'
  | 0, i, env, h, a1, a2, a3 => by omega
  | k + 1, i, env, h, a1, a2, a3 => by
    by_cases c : i < n
    · obtain ⟨x, e1, f, h', e2, e, e3, e4⟩ := hs i env h c a3
      obtain ⟨f2, h2, e5, e6⟩ := forL_ok I hs he k (i + 1) e h' (by omega) (by omega) e4
      refine ⟨f2, h2, ?_, e6⟩
      unfold ForL
      simp only [e1]
      unfold M.bind at e2 ⊢
      cases q : t x env h with
      | none => rw [q] at e2; cases e2
      | some oh =>
        obtain ⟨o, h1⟩ := oh
        cases o with
        | ex _ => rw [q] at e2; cases e2
        | ok env' =>
          rw [q] at e2
          simp only at e2 ⊢
          rw [e2]
          rcases e3 with e3 | e3 <;> (subst e3; exact e5)
    · have ei : i = n := by omega
      subst ei
      refine ⟨.nx env, h, ?_, env, rfl, a3⟩
      unfold ForL
      simp only [he env h a3]
theorem forS_ok {src : Env → M Src} {s : Src} {t : MTg} {b : Env → M Fl} {n k : Nat} {env : Env} {h h1 : IH} (I : Nat → Env → IH → Prop) (e0 : src env h = some (.ok s, h1)) (hk : n < k) (h0 : I 0 env h1)
    (hs : ∀ i env h, i < n → I i env h → ∃ x, s h i = some (some x) ∧ Ok (M.bind (t x env) b) h fun f h' => ∃ e, (f = .nx e ∨ f = .ct e) ∧ I (i + 1) e h')
    (he : ∀ env h, I n env h → s h n = some none) : Ok (ForS k src t b env) h fun f h' => ∃ e, f = .nx e ∧ I n e h' := by
  unfold ForS
  obtain ⟨x, h', e, p⟩ := forL_ok I hs he k 0 env h1 (by omega) (by omega) h0
  exact ⟨x, h', by rw [bind_ok e0]; exact e, p⟩
theorem lcL_ok {s : Src} {p : Pat} {c : Env → M Bool} {el : Env → M IV} {d : Nat} {env : Env} {n : Nat} (J : Nat → List IV → IH → Prop)
    (hs : ∀ i acc h, i < n → J i acc h → ∃ x env2, s h i = some (some x) ∧ p.set x env = some env2 ∧ Ok (c env2) h fun k h1 => if k = true then Ok (el env2) h1 (fun y h3 => h3[d]? = some (.lst acc) ∧ acc.length < 100000 ∧ J (i + 1) (acc ++ [y]) (h3.set d (.lst (acc ++ [y])))) else J (i + 1) acc h1)
    (he : ∀ acc h, J n acc h → s h n = some none) : ∀ (k i : Nat) (acc : List IV) (h : IH), i ≤ n → n - i < k → J i acc h → Ok (LcL s p c el d env k i) h fun _ h' => ∃ acc', J n acc' h'
  | 0, i, acc, h, a1, a2, a3 => by omega
  | k + 1, i, acc, h, a1, a2, a3 => by
    by_cases ci : i < n
    · obtain ⟨x, env2, e1, e2, kk, h1, e3, e4⟩ := hs i acc h ci a3
      unfold LcL
      by_cases hk : kk = true
      · rw [if_pos hk] at e4
        obtain ⟨y, h3, e5, e6, e7, e8⟩ := e4
        obtain ⟨u, h4, e9, e10⟩ := lcL_ok J hs he k (i + 1) _ _ (by omega) (by omega) e8
        refine ⟨u, h4, ?_, e10⟩
        simp only [e1, e2]
        rw [bind_ok e3, if_pos hk]
        refine (bind_ok e5).trans ?_
        simp only [e6]
        rw [if_pos (lt_lim e7)]
        exact e9
      · rw [if_neg hk] at e4
        obtain ⟨u, h4, e9, e10⟩ := lcL_ok J hs he k (i + 1) _ _ (by omega) (by omega) e4
        refine ⟨u, h4, ?_, e10⟩
        simp only [e1, e2]
        rw [bind_ok e3, if_neg hk]
        exact e9
    · have ei : i = n := by omega
      subst ei
      refine ⟨(), h, ?_, acc, a3⟩
      unfold LcL
      simp only [he acc h a3]
theorem lcE_ok {src : Env → M Src} {s : Src} {p : Pat} {c : Env → M Bool} {el : Env → M IV} {vs : List Nat} {env : Env} {n k : Nat} {h h1 : IH} (J : Nat → List IV → IH → Prop) (e0 : src env h = some (.ok s, h1)) (hk : n < k)
    (h0 : J 0 [] (h1 ++ [.lst []]))
    (hs : ∀ i acc h, i < n → J i acc h → ∃ x env2, s h i = some (some x) ∧ p.set x (wipeE env vs) = some env2 ∧ Ok (c env2) h fun k h2 => if k = true then Ok (el env2) h2 (fun y h3 => h3[h1.length]? = some (.lst acc) ∧ acc.length < 100000 ∧ J (i + 1) (acc ++ [y]) (h3.set h1.length (.lst (acc ++ [y])))) else J (i + 1) acc h2)
    (he : ∀ acc h, J n acc h → s h n = some none) : Ok (LcE k src p c el vs env) h fun v h' => v = .ref h1.length ∧ ∃ acc', J n acc' h' := by
  unfold LcE
  obtain ⟨x, h', e, p⟩ := lcL_ok (env := wipeE env vs) J hs he k 0 [] _ (by omega) (by omega) h0
  refine ⟨_, h', ?_, rfl, p⟩
  refine (bind_ok e0).trans ?_
  simp only [e]
/-- a comprehension whose parts change nothing -/
theorem lcE_pure {src : Env → M Src} {s : Src} {p : Pat} {c : Env → M Bool} {el : Env → M IV} {vs : List Nat} {env : Env} {k : Nat} {h h1 : IH} (xs : List IV) (f : IV → Bool) (g : IV → IV) (e0 : src env h = some (.ok s, h1)) (hk : xs.length < k) (hl : xs.length < 100000)
    (hs : ∀ acc i, s (h1 ++ [.lst acc]) i = some xs[i]?)
    (hx : ∀ x ∈ xs, ∃ e2, p.set x (wipeE env vs) = some e2 ∧ ∀ acc, c e2 (h1 ++ [.lst acc]) = some (.ok (f x), h1 ++ [.lst acc]) ∧ (f x = true → el e2 (h1 ++ [.lst acc]) = some (.ok (g x), h1 ++ [.lst acc]))) :
    LcE k src p c el vs env h = some (.ok (.ref h1.length), h1 ++ [.lst ((xs.filter f).map g)]) := by
  obtain ⟨v, h', e, ev, acc, ea, _⟩ := lcE_ok (k := k) (p := p) (c := c) (el := el) (vs := vs) (n := xs.length) (fun i acc h => h = h1 ++ [.lst acc] ∧ acc = ((xs.take i).filter f).map g) e0 hk ⟨rfl, rfl⟩ (by
    rintro i acc h hi ⟨rfl, ea⟩
    obtain ⟨e2, p1, p2⟩ := hx xs[i] (List.getElem_mem hi)
    obtain ⟨q1, q2⟩ := p2 acc
    refine ⟨xs[i], e2, by rw [hs]; simp [hi], p1, f xs[i], _, q1, ?_⟩
    have et : xs.take (i + 1) = xs.take i ++ [xs[i]] := by rw [List.take_succ]; simp [hi]
    show if f xs[i] = true then _ else _
    by_cases hf : f xs[i] = true
    · rw [if_pos hf]
      refine ⟨g xs[i], _, q2 hf, by simp, ?_, by simp, ?_⟩
      · rw [ea, List.length_map]
        exact Nat.lt_of_le_of_lt (List.length_filter_le _ _) (by rw [List.length_take]; omega)
      · rw [et, List.filter_append, List.map_append, ea]
        simp [hf]
    · rw [if_neg hf]
      refine ⟨rfl, ?_⟩
      rw [et, List.filter_append, List.map_append, ea]
      simp [hf]) (by
    rintro acc h ⟨rfl, _⟩
    rw [hs]; simp)
  rw [List.take_length] at *
  rename_i ea2
  rw [e, ev, ea, ea2]
end Iv
set_option Elab.async false
set_option linter.all false
set_option maxRecDepth 100000
set_option maxHeartbeats 1000000
set_option autoImplicit false
namespace Iv
open PySem L2
variable {h : IH} {n m : Nat} {xs ys : List IV} {kvs : List (Key × IV)} {i j : Int} {a b s : Str} {x y z : IV}

theorem GrX.pushx {u : Nat} {h h' l : IH} (g : GrX u h h') : GrX u h (h' ++ l) := fun m p z q => by
  have q2 := g m p z q
  rw [List.getElem?_append_left (List.getElem?_eq_some_iff.mp q2).1]; exact q2
theorem GrX.le {u : Nat} {h h' : IH} (g : GrX u h h') (hu : u < h'.length) : h.length ≤ h'.length := by
  rcases Nat.lt_or_ge h'.length h.length with c | c
  · exfalso
    have hl : h.length - 1 < h.length := by omega
    have q := g (h.length - 1) h[h.length - 1] (by omega) (List.getElem?_eq_getElem hl)
    have := (List.getElem?_eq_some_iff.mp q).1
    omega
  · exact c
theorem GrX.setx {u n : Nat} {h h' : IH} {o : IO} (g : GrX u h h') (e : h.length ≤ n) : GrX u h (h'.set n o) := fun m p z q => by
  have := (List.getElem?_eq_some_iff.mp q).1
  rw [List.getElem?_set_ne (by omega)]; exact g m p z q
theorem perm_erase {α : Type} : ∀ {xs : List α} {i : Nat} (h : i < xs.length), (xs[i] :: xs.eraseIdx i).Perm xs
  | x :: xs, 0, h => .refl _
  | x :: xs, i + 1, h => by
    have := perm_erase (xs := xs) (i := i) (by simpa using h)
    show (xs[i]'_ :: x :: xs.eraseIdx i).Perm (x :: xs)
    exact (List.Perm.swap _ _ _).trans (this.cons x)
/-! ### small numbers -/
theorem rngs {i : Int} (h0 : -1000000 ≤ i) (h1 : i < 1000000) : -rngLim ≤ i ∧ i < rngLim := by unfold rngLim; omega
theorem atI_nn {α : Type} {xs : List α} {i : Int} (h0 : 0 ≤ i) (h1 : i < xs.length) : atI xs i = xs[i.toNat]? := by
  unfold atI ixN
  rw [if_pos h0, if_pos h1]; rfl
theorem atI_last {α : Type} {xs : List α} {x : α} : atI (xs ++ [x]) (-1) = some x := by
  unfold atI ixN
  have h0 : ¬ (0 : Int) ≤ -1 := by omega
  have h1 : -(((xs ++ [x]).length : Nat) : Int) ≤ -1 := by simp; omega
  rw [if_neg h0, if_pos h1]
  have e : ((-1 : Int) + (((xs ++ [x]).length : Nat) : Int)).toNat = xs.length := by simp; omega
  show (some _).bind _ = _
  rw [Option.bind_some, e]
  simp
theorem sq_nn {i : Int} {n : Nat} (h0 : 0 ≤ i) (h1 : i < n) : seqIndex? i n = some i.toNat := by
  unfold seqIndex?
  have : ¬ i < 0 := by omega
  simp [this, h0, h1]

/-! ### what the operations give -/
theorem addI_int : addI (.int i) (.int j) = M.pure (.int (i + j)) := rfl
theorem addI_str (e : a.length + b.length ≤ 100000) : addI (.str a) (.str b) h = some (.ok (.str (a ++ b)), h) := by
  show (if a.length + b.length ≤ lim then M.pure (IV.str (a ++ b)) else stuck) h = _
  rw [if_pos (le_lim e)]; rfl
theorem addI_tup (e : xs.length + ys.length ≤ 100000) : addI (.tup xs) (.tup ys) h = some (Out.ok (IV.tup (xs ++ ys)), h) := by
  show (if xs.length + ys.length ≤ lim then M.pure (IV.tup (xs ++ ys)) else stuck) h = _
  rw [if_pos (le_lim e)]; rfl
theorem mkL_ok (e : xs.length ≤ 100000) : mkL xs h = some (.ok (.ref h.length), h ++ [.lst xs]) := by
  unfold mkL; rw [if_pos (le_lim e)]
theorem addI_lst (e1 : h[m]? = some (.lst xs)) (e2 : h[n]? = some (.lst ys)) (e : xs.length + ys.length ≤ 100000) : addI (.ref m) (.ref n) h = some (.ok (.ref h.length), h ++ [.lst (xs ++ ys)]) := by
  show (match h[m]?, h[n]? with
    | some (.lst xs), some (.lst ys) => mkL (xs ++ ys) h
    | _, _ => none) = _
  simp only [e1, e2]
  exact mkL_ok (by rw [List.length_append]; exact e)
theorem mulI_int (e : mulOk i j = true) : mulI (.int i) (.int j) = M.pure (.int (i * j)) := by
  show (if mulOk i j = true then M.pure (IV.int (i * j)) else stuck) = _
  rw [if_pos e]
theorem intC_ok {c : Int → Int → Bool} {f : Int → Int → IV} (e : c i j = true) : intC c f (.int i) (.int j) h = some (.ok (f i j), h) := by
  show (if c i j = true then M.pure (f i j) else stuck) h = _
  rw [if_pos e]; rfl
theorem modI_ok (e : 0 < j) : modI (.int i) (.int j) h = some (Out.ok (IV.int (i % j)), h) := intC_ok (modOk_of e)
theorem eqI_int : eqI (.int i) (.int j) h = some (.ok (.bl (decide (i = j))), h) := rfl
theorem eqI_str : eqI (.str a) (.str b) h = some (.ok (.bl (decide (a = b))), h) := rfl
theorem len_lst (e : h[n]? = some (.lst xs)) : lenM [.ref n] h = some (Out.ok (IV.int xs.length), h) := by
  show (match h[n]? with
    | some (.lst xs) => some (Out.ok (IV.int xs.length), h)
    | some (.dic kvs) => some (Out.ok (IV.int kvs.length), h)
    | some (.fdc _) => none
    | none => none) = _
  simp only [e]
theorem len_tup : lenM [.tup xs] h = some (Out.ok (IV.int xs.length), h) := rfl
theorem len_fl : lenM [.fl xs] h = some (Out.ok (IV.int xs.length), h) := rfl
theorem len_str (e : s.length ≤ 100000) : lenM [.str s] h = some (Out.ok (IV.int s.length), h) := by
  show (if s.length ≤ lim then some (Out.ok (IV.int s.length), h) else none) = _
  rw [if_pos (le_lim e)]
theorem list_lst (e : h[n]? = some (.lst xs)) (e1 : xs.length ≤ 100000) : listM [.ref n] h = some (.ok (.ref h.length), h ++ [.lst xs]) := by
  show (match (match h[n]? with
    | some (.lst xs) => some xs
    | some (.dic kvs) => some (kvs.map fun kv => match kv.1 with | .inl i => .int i | .inr s => .str s)
    | some (.fdc kvs) => some (kvs.map fun kv => match kv.1 with | .inl i => .int i | .inr s => .str s)
    | none => none) with
    | some xs => mkL xs h
    | none => none) = _
  simp only [e]
  exact mkL_ok e1
theorem list_dic (e : h[n]? = some (.dic kvs)) (e1 : kvs.length ≤ 100000) : listM [.ref n] h = some (.ok (.ref h.length), h ++ [.lst (kvs.map fun kv => match kv.1 with | .inl i => .int i | .inr s => .str s)]) := by
  show (match (match h[n]? with
    | some (.lst xs) => some xs
    | some (.dic kvs) => some (kvs.map fun kv => match kv.1 with | .inl i => .int i | .inr s => .str s)
    | some (.fdc kvs) => some (kvs.map fun kv => match kv.1 with | .inl i => .int i | .inr s => .str s)
    | none => none) with
    | some xs => mkL xs h
    | none => none) = _
  simp only [e]
  exact mkL_ok (by rw [List.length_map]; exact e1)
theorem seq_lst (e : h[n]? = some (.lst xs)) : seqI h (.ref n) = some xs := by
  show (match h[n]? with
    | some (.lst xs) => some xs
    | _ => none) = _
  simp only [e]
theorem lst_lst (e : h[n]? = some (.lst xs)) : lstI h (.ref n) = some xs := by
  show (match h[n]? with
    | some (.lst xs) => some xs
    | _ => none) = _
  simp only [e]
theorem tuple_lst (e : h[n]? = some (.lst xs)) : tupleM [.ref n] h = some (Out.ok (IV.tup xs), h) := by
  show (match seqI h (.ref n) with
    | some xs => some (Out.ok (IV.tup xs), h)
    | none => none) = _
  rw [seq_lst e]
theorem ints_map : ∀ ns : List Int, ints? (ns.map .int) = some ns
  | [] => rfl
  | n :: ns => by show (ints? (ns.map .int)).map (n :: ·) = _; rw [ints_map ns]; rfl
theorem bools_map : ∀ ns : List Bool, bools? (ns.map .bl) = some ns
  | [] => rfl
  | n :: ns => by show (bools? (ns.map .bl)).map (n :: ·) = _; rw [bools_map ns]; rfl
theorem strs_map : ∀ ns : List Str, strs? (ns.map .str) = some ns
  | [] => rfl
  | n :: ns => by show (strs? (ns.map .str)).map (n :: ·) = _; rw [strs_map ns]; rfl
theorem sum_lst {ns : List Int} (e : h[n]? = some (.lst (ns.map .int))) : sumI [.ref n] h = some (Out.ok (IV.int ns.sum), h) := by
  show (match (lstI h (.ref n)).bind ints? with
    | some ns => (some (IV.int ns.sum)).map fun y => (Out.ok y, h)
    | none => none) = _
  rw [lst_lst e, Option.bind_some, ints_map]; rfl
theorem all_lst {ns : List Bool} (e : h[n]? = some (.lst (ns.map .bl))) : allI [.ref n] h = some (.ok (.bl (ns.all id)), h) := by
  show (match (lstI h (.ref n)).bind bools? with
    | some ns => some (Out.ok (IV.bl (ns.all id)), h)
    | none => none) = _
  rw [lst_lst e, Option.bind_some, bools_map]
theorem ix_lst (e : h[n]? = some (.lst xs)) (e1 : atI xs i = some x) : ixM (.ref n) (.int i) h = some (.ok x, h) := by
  show (match h[n]? with
    | some (.lst xs) => ixS h xs (.int i)
    | some (.dic _) => ixD h n (.int i)
    | some (.fdc _) => ixD h n (.int i)
    | none => none) = _
  simp only [e]
  show (match atI xs i with
    | some z => some (Out.ok z, h)
    | none => none) = _
  rw [e1]
theorem ix_tup (e1 : atI xs i = some x) : ixM (.tup xs) (.int i) h = some (.ok x, h) := by
  show (match atI xs i with
    | some z => some (Out.ok z, h)
    | none => none) = _
  rw [e1]
theorem ix_fl (e1 : atI xs i = some x) : ixM (.fl xs) (.int i) h = some (.ok x, h) := by
  show (match atI xs i with
    | some z => some (Out.ok z, h)
    | none => none) = _
  rw [e1]
theorem ix_dic {k : Key} (e : h[n]? = some (.dic kvs)) (e1 : keyI y = some k) (e2 : valI kvs k = some x) : ixM (.ref n) y h = some (.ok x, h) := by
  show (match h[n]? with
    | some (.lst xs) => ixS h xs y
    | some (.dic _) => ixD h n y
    | some (.fdc _) => ixD h n y
    | none => none) = _
  simp only [e]
  unfold ixD
  simp only [e, e1, e2]
theorem ix_str {c : Nat} (e : s.length ≤ 100000) (e1 : atI s.cps.toList i = some c) : ixM (.str s) (.int i) h = some (.ok (.str ⟨#[c]⟩), h) := by
  show (if s.length ≤ lim then (match atI s.cps.toList i with | some c => some (Out.ok (IV.str ⟨#[c]⟩), h) | none => none) else none) = _
  rw [if_pos (le_lim e), e1]
theorem sl_lst {lo hi : Option Int} (e : h[n]? = some (.lst xs)) (e1 : (cutI xs lo hi).length ≤ 100000) : slM (.ref n) lo hi h = some (.ok (.ref h.length), h ++ [.lst (cutI xs lo hi)]) := by
  show (match h[n]? with
    | some (.lst xs) => mkL (cutI xs lo hi) h
    | _ => none) = _
  simp only [e]
  exact mkL_ok e1
theorem app_lst (e : h[n]? = some (.lst xs)) (e1 : xs.length < 100000) : appM (.ref n) [y] h = some (Out.ok IV.non, h.set n (.lst (xs ++ [y]))) := by
  show (match h[n]? with
    | some (.lst xs) => if xs.length < lim then some (Out.ok IV.non, h.set n (.lst (xs ++ [y]))) else none
    | _ => none) = _
  simp only [e]
  rw [if_pos (lt_lim e1)]
theorem popAt_lst (e : h[n]? = some (.lst xs)) (h0 : 0 ≤ i) (h1 : i < xs.length) (h2 : i < 1000000) (e1 : xs[i.toNat]? = some x) : popAtM (.ref n) [.int i] h = some (.ok x, h.set n (.lst (xs.eraseIdx i.toNat))) := by
  show (match h[n]? with
    | some (.lst xs) => if -rngLim ≤ i ∧ i < rngLim then (match seqIndex? i xs.length with
      | some k => match xs[k]? with
        | some y => some (Out.ok y, h.set n (.lst (xs.eraseIdx k)))
        | none => none
      | none => none) else none
    | _ => none) = _
  simp only [e]
  rw [if_pos (rngs (by omega) h2), sq_nn h0 h1]
  simp only [e1]
theorem chk_lst (e : h[n]? = some (.lst xs)) : chkL (.ref n) h = some (Out.ok (), h) := by
  show (match h[n]? with
    | some (.lst _) => some (Out.ok (), h)
    | _ => none) = _
  simp only [e]
theorem src_lst (e : h[n]? = some (.lst xs)) : srcI (.ref n) h = some (Out.ok (SLive n), h) := by
  show (match h[n]? with
    | some (.lst _) => some (Out.ok (SLive n), h)
    | some (.fdc _) => some (Out.ok (SKeys n), h)
    | _ => none) = _
  simp only [e]
theorem slive (e : h[n]? = some (.lst xs)) (i : Nat) : SLive n h i = some xs[i]? := by
  unfold SLive; simp only [e]
theorem enum_lst (e : h[n]? = some (.lst xs)) : enumM [.ref n] h = some (Out.ok (SEnum (SLive n)), h) := by
  show (match h[n]? with
    | some (.lst _) => some (Out.ok (SEnum (SLive n)), h)
    | _ => none) = _
  simp only [e]
theorem rng1_ok {k : Nat} (e : k < 1000000) : rng1 [.int k] h = some (.ok (SRange 0 k), h) := by
  show (if -rngLim ≤ (k : Int) ∧ (k : Int) < rngLim then M.pure (SRange 0 (k : Int).toNat) else stuck) h = _
  rw [if_pos (rngs (by omega) (by omega))]; rfl
theorem srange {k i : Nat} (e : i < k) : SRange 0 k h i = some (some (.int i)) := by
  unfold SRange; rw [if_pos e]; simp
theorem srange_end {k : Nat} : SRange 0 k h k = some none := by unfold SRange; rw [if_neg (Nat.lt_irrefl k)]
end Iv
set_option Elab.async false
set_option linter.all false
set_option maxRecDepth 100000
set_option maxHeartbeats 1000000
set_option autoImplicit false
namespace Iv
open PySem L2
variable {h : IH} {n m : Nat} {xs ys : List IV} {a b s : Str}

/-! ### sorted -/
theorem sort_perm {ds : List PyData} (e : h[n]? = some (.lst xs)) (e1 : xs.mapM (encH h 66) = some ds) (ha : alikeB ds = true) (hs : sortableB ds = true) (hd : (ds.all fun d => decide (d.depth ≤ 60)) = true) (hl : xs.length ≤ 100000) (hz : ds.length = xs.length) :
    ∃ ys, ys.Perm xs ∧ sortM [.ref n] h = some (.ok (.ref h.length), h ++ [.lst ys]) := by
  refine ⟨((xs.zip ds).mergeSort (PySem.W.dataLe false fun p => p.2)).map (·.1), ?_, ?_⟩
  · have p := (List.mergeSort_perm (xs.zip ds) (PySem.W.dataLe false fun p => p.2)).map (·.1)
    have q : (xs.zip ds).map (·.1) = xs := List.map_fst_zip (by omega)
    exact p.trans (by rw [q])
  · show (match lstI h (.ref n) with
      | some xs => match xs.mapM (encH h 66) with
        | some ds => if alikeB ds = true ∧ sortableB ds = true ∧ (ds.all fun d => decide (d.depth ≤ depLim)) = true then mkL (((xs.zip ds).mergeSort (PySem.W.dataLe false fun p : IV × PyData => p.2)).map (fun p : IV × PyData => p.1)) h else none
        | none => none
      | none => none) = _
    have hd2 : (ds.all fun d => decide (d.depth ≤ depLim)) = true := by unfold depLim; exact hd
    rw [lst_lst e]
    simp only [e1]
    rw [if_pos ⟨ha, hs, hd2⟩]
    refine mkL_ok ?_
    rw [List.length_map, (List.mergeSort_perm _ _).length_eq, List.length_zip]
    omega
theorem enc_strs (k : Nat) : ∀ ss : List Str, (ss.map IV.str).mapM (encH h (k + 1)) = some (ss.map PyData.str)
  | [] => rfl
  | s :: ss => by
    show ((IV.str s :: ss.map IV.str).mapM (encH h (k + 1))) = _
    rw [List.mapM_cons, enc_strs k ss]; rfl
theorem alike_strs (ss : List Str) : alikeB (ss.map PyData.str) = true := by
  unfold alikeB
  rw [List.all_eq_true]
  intro d hd
  rw [List.all_eq_true]
  intro e he
  obtain ⟨x, _, rfl⟩ := List.mem_map.mp hd
  obtain ⟨y, _, rfl⟩ := List.mem_map.mp he
  rfl
theorem sort_strs {ss : List Str} (e : h[n]? = some (.lst (ss.map .str))) (hl : ss.length ≤ 100000) :
    ∃ zs : List Str, zs.Perm ss ∧ sortM [.ref n] h = some (.ok (.ref h.length), h ++ [.lst (zs.map .str)]) := by
  obtain ⟨ys, p, q⟩ := sort_perm e (enc_strs 65 ss) (alike_strs ss) (by
      unfold sortableB
      rw [Bool.or_eq_true]; right
      rw [List.all_eq_true]
      intro d hd
      obtain ⟨x, _, rfl⟩ := List.mem_map.mp hd
      rfl) (by
      rw [List.all_eq_true]
      intro d hd
      obtain ⟨x, _, rfl⟩ := List.mem_map.mp hd
      rfl) (by simpa using hl) (by simp)
  have hm : ∀ y ∈ ys, ∃ s, y = IV.str s := fun y hy => by
    obtain ⟨s, _, e⟩ := List.mem_map.mp (p.mem_iff.mp hy)
    exact ⟨s, e.symm⟩
  have : ∃ zs : List Str, ys = zs.map .str := by
    clear p q
    induction ys with
    | nil => exact ⟨[], rfl⟩
    | cons y ys ih =>
      obtain ⟨s, rfl⟩ := hm y (by simp)
      obtain ⟨zs, rfl⟩ := ih fun y hy => hm y (by simp [hy])
      exact ⟨s :: zs, rfl⟩
  obtain ⟨zs, rfl⟩ := this
  refine ⟨zs, ?_, q⟩
  have f : ∀ l : List Str, (l.map IV.str).filterMap (fun x => match x with | .str s => some s | _ => none) = l := fun l => by
    rw [List.filterMap_map]
    have : ((fun x => match x with | IV.str s => some s | _ => none) ∘ IV.str) = fun s : Str => some s := by funext s; rfl
    rw [this, List.filterMap_some]
  have := p.filterMap (fun x => match x with | .str s => some s | _ => none)
  rwa [f, f] at this

/-! ### words -/
theorem str_ext {a b : Str} (e : a.cps.toList = b.cps.toList) : a = b := by
  cases a; cases b
  simp at e
  rw [show (Str.mk _) = _ from rfl]
  congr
theorem str_app (a b : Str) : (a ++ b).cps.toList = a.cps.toList ++ b.cps.toList := by
  show (a.cps ++ b.cps).toList = _
  simp
theorem str_len (a : Str) : a.length = a.cps.toList.length := by
  show a.cps.size = _
  simp
theorem app_len (a b : Str) : (a ++ b).length = a.length + b.length := by rw [str_len, str_app, List.length_append, ← str_len, ← str_len]
theorem glued_go (g : Str) (hg : g.cps.toList = []) : ∀ (l : List Str) (acc : Array Nat), (l.foldl (fun acc p => acc ++ g.cps ++ p.cps) acc).toList = acc.toList ++ (l.map fun s => s.cps.toList).flatten
  | [], acc => by simp
  | s :: l, acc => by
    rw [List.foldl_cons, glued_go g hg l]
    simp [hg]
/-- ''.join(..) -/
theorem join_empty (g : Str) (hg : g.cps.toList = []) (l : List Str) : (Txt.join g l).cps.toList = (l.map fun s => s.cps.toList).flatten := by
  show ((l.drop 1).foldl (fun acc p => acc ++ g.cps ++ p.cps) (l.headD Str.empty).cps).toList = _
  rw [glued_go g hg]
  cases l with
  | nil => rfl
  | cons s l => rfl
theorem join_lst {g : Str} {zs : List Str} (hg : g.length = 0) (e : h[n]? = some (.lst (zs.map .str))) (hl : (zs.map (·.length)).sum ≤ 100000) : joinM (.str g) [.ref n] h = some (.ok (.str (Txt.join g zs)), h) := by
  show (match (seqI h (.ref n)).bind strs? with
    | some zs => if (zs.map (fun s : Str => s.length)).sum + zs.length * g.length ≤ lim then some (Out.ok (IV.str (Txt.join g zs)), h) else none
    | none => none) = _
  rw [seq_lst e, Option.bind_some, strs_map]
  simp only [hg, Nat.mul_zero, Nat.add_zero]
  rw [if_pos (le_lim hl)]
theorem sl_str {lo hi : Option Int} (e : s.length ≤ 100000) : slM (.str s) lo hi h = some (.ok (.str (cutS s lo hi)), h) := by
  show (if s.length ≤ lim then some (Out.ok (IV.str (cutS s lo hi)), h) else none) = _
  rw [if_pos (le_lim e)]
theorem cutI_to {k : Nat} : cutI xs none (some (k : Int)) = xs.take k := by
  unfold cutI
  rw [HT.sIx_nat]
  show (xs.drop 0).take (min k xs.length - 0) = _
  rw [List.drop_zero, Nat.sub_zero]
  rcases Nat.le_total k xs.length with c | c
  · rw [Nat.min_eq_left c]
  · rw [Nat.min_eq_right c, List.take_length, List.take_of_length_le c]
theorem cutI_from {k : Nat} : cutI xs (some (k : Int)) none = xs.drop k := by
  unfold cutI
  rw [HT.sIx_nat]
  show (xs.drop (min k xs.length)).take (xs.length - min k xs.length) = _
  rcases Nat.le_total k xs.length with c | c
  · rw [Nat.min_eq_left c, List.take_of_length_le (by simp)]
  · rw [Nat.min_eq_right c]; simp [List.drop_of_length_le c]
theorem cutS_to {k : Nat} : (cutS s none (some (k : Int))).cps.toList = s.cps.toList.take k := by
  unfold cutS
  rw [HT.sIx_nat]
  show ((s.cps.toList.drop 0).take (min k s.length - 0)).toArray.toList = _
  rw [List.drop_zero, Nat.sub_zero, str_len]
  rcases Nat.le_total k s.cps.toList.length with c | c
  · rw [Nat.min_eq_left c]
  · rw [Nat.min_eq_right c, List.take_length, List.take_of_length_le c]
theorem cutS_from {k : Nat} : (cutS s (some (k : Int)) none).cps.toList = s.cps.toList.drop k := by
  unfold cutS
  rw [HT.sIx_nat, str_len]
  show ((s.cps.toList.drop (min k s.cps.toList.length)).take (s.cps.toList.length - min k s.cps.toList.length)).toArray.toList = _
  rcases Nat.le_total k s.cps.toList.length with c | c
  · rw [Nat.min_eq_left c, List.take_of_length_le (by simp)]
  · rw [Nat.min_eq_right c]; simp [List.drop_of_length_le c]
end Iv
set_option Elab.async false
set_option linter.all false
set_option maxRecDepth 100000
set_option maxHeartbeats 1000000
set_option autoImplicit false
namespace Iv
open PySem L2
/-! rules that run a mirror part by part: their parts are variables, so the kernel never evaluates a loop -/
variable {a b o : Env → M IV} {r : Env → M (List IV)} {c d : Env → M Bool} {s t : Env → M Fl} {env : Env} {h h1 h2 h3 : IH} {x y : IV} {xs : List IV} {n : Nat} {k : Bool}
theorem cons_ok (e1 : a env h = some (.ok x, h1)) (e2 : r env h1 = some (.ok xs, h2)) : Cons a r env h = some (.ok (x :: xs), h2) := by
  unfold Cons; exact (bind_ok e1).trans (bind_ok e2)
theorem nil_ok : Nil env h = some (.ok [], h) := rfl
theorem one_ok (e1 : a env h = some (.ok x, h1)) : Cons a Nil env h = some (.ok [x], h1) := cons_ok e1 nil_ok
theorem two_ok (e1 : a env h = some (.ok x, h1)) (e2 : b env h1 = some (.ok y, h2)) : Cons a (Cons b Nil) env h = some (.ok [x, y], h2) := cons_ok e1 (one_ok e2)
theorem bin_ok {g : IV → IV → M IV} {z : Option (Out IV × IH)} (e1 : a env h = some (.ok x, h1)) (e2 : b env h1 = some (.ok y, h2)) (e3 : g x y h2 = z) : Bin g a b env h = z := by
  unfold Bin; exact (bind_ok e1).trans ((bind_ok e2).trans e3)
theorem un_ok {g : IV → M IV} {z : Option (Out IV × IH)} (e1 : a env h = some (.ok x, h1)) (e3 : g x h1 = z) : Un g a env h = z := by
  unfold Un; exact (bind_ok e1).trans e3
theorem callB_ok {g : List IV → M IV} {z : Option (Out IV × IH)} (e1 : r env h = some (.ok xs, h1)) (e2 : g xs h1 = z) : CallB g r env h = z := by
  unfold CallB; exact (bind_ok e1).trans e2
theorem callF_ok {F : List IV → M IV} (e1 : r env h = some (.ok xs, h1)) (e2 : xs.length = n) (e3 : F xs h1 = some (.ok y, h2)) : CallF n F r env h = some (.ok y, h2) := by
  unfold CallF
  refine (bind_ok e1).trans ?_
  rw [if_pos e2]; exact noex_ok e3
theorem iterA_ok {g : List IV → M Src} {z : Option (Out Src × IH)} (e1 : r env h = some (.ok xs, h1)) (e2 : g xs h1 = z) : IterA g r env h = z := by
  unfold IterA; exact (bind_ok e1).trans e2
theorem iter_ok {z : Option (Out Src × IH)} (e1 : a env h = some (.ok x, h1)) (e2 : srcI x h1 = z) : Iter a env h = z := by
  unfold Iter; exact (bind_ok e1).trans e2
theorem mth_ok {chk : IV → M Unit} {g : IV → List IV → M IV} {z : Option (Out IV × IH)} (e1 : o env h = some (.ok x, h1)) (e2 : chk x h1 = some (.ok (), h2)) (e3 : r env h2 = some (.ok xs, h3)) (e4 : g x xs h3 = z) : Mth chk g o r env h = z := by
  unfold Mth; exact (bind_ok e1).trans ((bind_ok e2).trans ((bind_ok e3).trans e4))
theorem tst_ok (e : a env h = some (.ok (.bl k), h1)) : Tst a env h = some (.ok k, h1) := by
  unfold Tst; exact (bind_ok e).trans rfl
theorem tru_ok {z : Option (Out Bool × IH)} (e : a env h = some (.ok x, h1)) (e2 : truM x h1 = z) : Tru a env h = z := by
  unfold Tru; exact (bind_ok e).trans e2
theorem not_ok (e : c env h = some (.ok k, h1)) : NotT c env h = some (.ok (!k), h1) := by
  unfold NotT; exact (bind_ok e).trans rfl
theorem and_tt {z : Option (Out Bool × IH)} (e : c env h = some (.ok true, h1)) (e2 : d env h1 = z) : AndT c d env h = z := by
  unfold AndT; exact (bind_ok e).trans (by rw [if_pos rfl]; exact e2)
theorem and_ff (e : c env h = some (.ok false, h1)) : AndT c d env h = some (.ok false, h1) := by
  unfold AndT; exact (bind_ok e).trans rfl
theorem ifS_tt {z : Option (Out Fl × IH)} (e : c env h = some (.ok true, h1)) (e2 : s env h1 = z) : IfS c s t env h = z := by
  unfold IfS; exact (bind_ok e).trans (by rw [if_pos rfl]; exact e2)
theorem ifS_ff {z : Option (Out Fl × IH)} (e : c env h = some (.ok false, h1)) (e2 : t env h1 = z) : IfS c s t env h = z := by
  unfold IfS; exact (bind_ok e).trans e2
theorem ifE_tt {z : Option (Out IV × IH)} (e : c env h = some (.ok true, h1)) (e2 : a env h1 = z) : IfE c a b env h = z := by
  unfold IfE; exact (bind_ok e).trans (by rw [if_pos rfl]; exact e2)
theorem ifE_ff {z : Option (Out IV × IH)} (e : c env h = some (.ok false, h1)) (e2 : b env h1 = z) : IfE c a b env h = z := by
  unfold IfE; exact (bind_ok e).trans e2
theorem seq_nx {env2 : Env} (e : s env h = some (.ok (.nx env2), h1)) : SeqS s t env h = t env2 h1 := by
  unfold SeqS; exact (bind_ok e).trans rfl
theorem seq_rt (e : s env h = some (.ok (.rt x), h1)) : SeqS s t env h = some (.ok (.rt x), h1) := by
  unfold SeqS; exact (bind_ok e).trans rfl
theorem asg_ok {i : Nat} (e : a env h = some (.ok x, h1)) : AsgS a (TgN i) env h = some (.ok (.nx (env.set i (some x))), h1) := by
  unfold AsgS; exact (bind_ok e).trans rfl
theorem asgT_ok {g : MTg} {env2 : Env} (e : a env h = some (.ok x, h1)) (e2 : g x env h1 = some (.ok env2, h2)) : AsgS a g env h = some (.ok (.nx env2), h2) := by
  unfold AsgS; exact (bind_ok e).trans (bind_ok e2)
theorem drop_ok (e : a env h = some (.ok x, h1)) : DropS a env h = some (.ok (.nx env), h1) := by
  unfold DropS; exact (bind_ok e).trans rfl
theorem ret_ok (e : a env h = some (.ok x, h1)) : RetS a env h = some (.ok (.rt x), h1) := by
  unfold RetS; exact (bind_ok e).trans rfl
theorem fn_rt (e : s (xs.map some ++ List.replicate (n - xs.length) none) h = some (.ok (.rt x), h1)) : Fn n s xs h = some (.ok x, h1) := by
  unfold Fn; exact (bind_ok e).trans rfl
theorem tup_ok (e : r env h = some (.ok xs, h1)) (e2 : xs.length ≤ 100000) : Tup r env h = some (.ok (.tup xs), h1) := by
  unfold Tup; refine (bind_ok e).trans ?_
  rw [if_pos (le_lim e2)]; rfl
theorem lst_ok2 {z : Option (Out IV × IH)} (e : r env h = some (.ok xs, h1)) (e2 : mkL xs h1 = z) : Lst r env h = z := by
  unfold Lst; exact (bind_ok e).trans e2
theorem sl_to {j : Int} {z : Option (Out IV × IH)} (e : o env h = some (.ok x, h1)) (e1 : a env h1 = some (.ok (.int j), h2)) (e2 : slM x none (some j) h2 = z) : Sl o NoO (SoO a) env h = z := by
  have q : SoO a env h1 = some (.ok (some j), h2) := by unfold SoO; exact (bind_ok e1).trans rfl
  unfold Sl; exact (bind_ok e).trans ((bind_ok (m := NoO env) rfl).trans ((bind_ok q).trans e2))
theorem sl_from {j : Int} {z : Option (Out IV × IH)} (e : o env h = some (.ok x, h1)) (e1 : a env h1 = some (.ok (.int j), h2)) (e2 : slM x (some j) none h2 = z) : Sl o (SoO a) NoO env h = z := by
  have q : SoO a env h1 = some (.ok (some j), h2) := by unfold SoO; exact (bind_ok e1).trans rfl
  unfold Sl; exact (bind_ok e).trans ((bind_ok q).trans ((bind_ok (m := NoO env) rfl).trans e2))
theorem lt_int {i j : Int} : ltI (.int i) (.int j) h = some (.ok (.bl (decide (i < j))), h) := rfl
end Iv
set_option Elab.async false
set_option linter.all false
set_option maxRecDepth 100000
set_option maxHeartbeats 2000000
set_option autoImplicit false
/-! a dict that is walked is locked meanwhile -/
namespace Iv
open PySem L2
variable [KL]
/-- m, with the dict of slot i locked, if there is one -/
def lockM {α : Type} (i : Nat) (m : Env → M α) : Env → M α := fun env h => match env[i]? with
  | some (some (.ref n)) => match h[n]? with
    | some (.dic kvs) => (match m env (h.set n (.fdc kvs)) with
      | some (.ok f, h2) => (match h2[n]? with
        | some (.fdc kvs2) => some (.ok f, h2.set n (.dic kvs2))
        | _ => none)
      | _ => none)
    | _ => m env h
  | _ => m env h
section
variable {X : Cx} {W : ExW}
theorem PS.or {st : Stmt} {t t' : TS} (h : PS X st t) (h' : PS X st t') : PS X st (fun D σ H => t D σ H ∨ t' D σ H) := ⟨fun pins s σ H D I q => q.elim (h.run pins s σ H D I) (h'.run pins s σ H D I)⟩
/-- relations that outlive a change of a tracked object -/
def Lasts {α β : Type} (rel : List Addr → Hp → β → α → Prop) : Prop := ∀ (ι : List Addr) (h : IH) (H : Hp) (a : Addr) (o : HO) (v : β) (x : α), Rel ι h H → a ∈ ι → rel ι H v x → rel ι (upd H a o) v x
theorem lasts_rv : Lasts RV := fun _ _ _ _ _ _ _ R ha r => R.monok (fk_set ha) r
theorem lasts_fl : Lasts RFl := fun _ _ _ _ _ _ _ R ha r => by
  cases r with
  | nx s => exact .nx (s.monok R (fk_set ha))
  | rt s => exact .rt (R.monok (fk_set ha) s)
  | bk s => exact .bk (s.monok R (fk_set ha))
  | ct s => exact .ct (s.monok R (fk_set ha))
/-- what a locked run is -/
theorem lock_run {α β : Type} {rel : List Addr → Hp → β → α → Prop} (L : Lasts rel) {i : Nat} {m : Env → M α} {ι : List Addr} {h : IH} {H : Hp} {σ : L2.St} {env : Env} {Q : β → Hp → Prop} (R : Rel ι h H) (S : RSt ι H σ env) (r : Run W rel (lockM i m env h) ι H Q) :
    (∃ (a : Addr) (ks : List (Key × V)), H a = some (.dK ks) ∧ ∀ od, ∃ ι h env, Rel ι h (upd H a (.frz od (.dK ks))) ∧ RSt ι (upd H a (.frz od (.dK ks))) σ env ∧ Run W rel (m env h) ι (upd H a (.frz od (.dK ks))) fun v H' => H' a = some (.frz od (.dK ks)) ∧ Q v (upd H' a (.dK ks))) ∨
    Run W rel (m env h) ι H Q := by
  have r0 : Run W rel (match env[i]? with
    | some (some (.ref n)) => match h[n]? with
      | some (.dic kvs) => (match m env (h.set n (.fdc kvs)) with
        | some (.ok f, h2) => (match h2[n]? with
          | some (.fdc kvs2) => some (.ok f, h2.set n (.dic kvs2))
          | _ => none)
        | _ => none)
      | _ => m env h
    | _ => m env h) ι H Q := r
  split at r0
  · rename_i n e1
    split at r0
    · rename_i kvs e2
      left
      obtain ⟨v, e3, rv⟩ := S.2 i _ e1
      obtain ⟨a, ks, z1, ea, eH, rk⟩ := R.dic rv e2
      have ha := List.mem_of_getElem? ea
      refine ⟨a, ks, eH, fun od => ?_⟩
      have R1 : Rel ι (h.set n (.fdc kvs)) (upd H a (.frz od (.dK ks))) := R.set ea (u := .fdc kvs) ⟨od, ks, upd_same, RKs.monok R (fk_set ha) rk⟩
      refine ⟨ι, _, env, R1, S.monok R (fk_set ha), ?_⟩
      generalize m env (h.set n (.fdc kvs)) = o at r0 ⊢
      match o, r0 with
      | none, r0 => exact r0.elim
      | some (.ex _, _), r0 => exact r0.elim
      | some (.ok f, h2), r0 =>
        intro ι' H' v R' F' rf
        have ea' := pre_get F'.pre ea
        have eH' := F'.frz a od _ upd_same
        have r1 : Run W rel (match h2[n]? with
          | some (.fdc kvs2) => some (.ok f, h2.set n (.dic kvs2))
          | _ => none) ι H Q := r0
        split at r1
        · rename_i kvs2 e4
          obtain ⟨a', ob', ks', z2, _, e5, rk'⟩ := R'.fdc (.ref ea') e4
          cases z2
          rw [eH'] at e5
          cases e5
          have hm := List.mem_of_getElem? ea'
          have R2 : Rel ι' (h2.set n (.dic kvs2)) (upd H' a (.dK ks)) := R'.set ea' (u := .dic kvs2) ⟨ks, upd_same, RKs.monok R' (fk_set hm) rk'⟩
          have F2 : Fr ι H ι' (upd H' a (.dK ks)) := ⟨⟨F'.pre, fun b u e nb => by
            have hb : b ≠ a := fun z => nb (by rw [z]; exact ha)
            obtain ⟨q1, q2⟩ := F'.keep b u (by rw [upd_ne hb]; exact e) nb
            exact ⟨by rw [upd_ne hb]; exact q1, q2⟩⟩, fun b u w e => by
            have hb : b ≠ a := fun z => by rw [z, eH] at e; cases e
            rw [upd_ne hb]
            exact F'.frz b u w (by rw [upd_ne hb]; exact e)⟩
          exact ⟨eH', r1 ι' _ v R2 F2 (L _ _ _ _ _ _ _ R' hm rf)⟩
        · exact r1.elim
    · exact .inr r0
  · exact .inr r0
theorem psi_lock (i : Nat) {st : Stmt} {m : Env → M Fl} (h : PSI X W st m) : PSI X W st (lockM i m) := by
  refine PS.weak (PS.or (ps_lock h) h) fun D σ H ⟨ι, hp, env, R, S, r⟩ => ?_
  rcases lock_run lasts_fl R S r with ⟨a, ks, eH, k⟩ | r
  · refine .inl ⟨a, .dK ks, eH, trivial, fun od => ?_⟩
    obtain ⟨ι1, h1, env1, R1, S1, r1⟩ := k od
    refine ⟨ι1, h1, env1, R1, S1, r1.mono fun f H' q => ?_⟩
    cases f <;> exact q
  · exact .inr ⟨ι, hp, env, R, S, r⟩
theorem pei_lock (i : Nat) {e : Expr} {m : Env → M IV} (h : PEI X W e m) : PEI X W e (lockM i m) := by
  refine PE.weak (PE.or (pe_lock h) h) fun σ H Q ⟨ι, hp, env, R, S, r⟩ => ?_
  rcases lock_run lasts_rv R S r with ⟨a, ks, eH, k⟩ | r
  · exact .inl ⟨a, .dK ks, eH, trivial, fun od => k od⟩
  · exact .inr ⟨ι, hp, env, R, S, r⟩
end
end Iv
set_option Elab.async false
set_option linter.all false
set_option maxRecDepth 100000
set_option maxHeartbeats 2000000
set_option autoImplicit false
/-! more of Python: tests of texts, tuple(text), list * int, dict(pairs), reversed(range(..)), max(.., default=..) -/
namespace Iv
open PySem L2 PyProof.Rows
variable [KL]
section
variable {X : Cx} {W : ExW} {e e2 o : Expr} {es : List Expr} {ma : Env → M (List IV)} {m n mo : Env → M IV} {pos p apos : Pos} {ι : List Addr} {h : IH} {H : Hp}
/-! s.isascii(), s.isalpha(), s.islower() -/
def tstB (f : Str → Bool) : IV → List IV → M IV := fun x ys => match x, ys with
  | .str a, [] => M.pure (.bl (f a))
  | _, _ => stuck
theorem rm_tst (f : Str → Bool) : RMt W (fun x xs H Q => ∃ a, x = V.str a ∧ xs = [] ∧ True ∧ Q (.bl (f a)) H) (tstB f) := by
  intro ι h H v x vs xs Q R rv rs r
  cases rv with
  | str a =>
    cases rs with
    | nil => exact ⟨a, rfl, rfl, trivial, run_pure (x := IV.bl _) r R (.bl _)⟩
    | cons _ _ => exact r.elim
  | _ => exact r.elim
theorem pei_isascii (ho : PEI X W o mo) (hbase : attributeBase o "isascii" X.env (eval o X.env) = eval o X.env := by rfl) (hline : (apos.endLine == pos.line) = true := by rfl) : PEI X W (.Call (.Attribute o "isascii" apos) [] [] pos) (Mth chkS (tstB Txt.isascii) mo Nil) :=
  pei_mth0 (fun R rv r => chkS_ok rv r) (rm_tst _) PySem.F.plainAttrs_str PySem.F.slot_str_isascii PySem.F.type_str_isascii mt_isascii ho hbase hline
theorem pei_isalpha (ho : PEI X W o mo) (hbase : attributeBase o "isalpha" X.env (eval o X.env) = eval o X.env := by rfl) (hline : (apos.endLine == pos.line) = true := by rfl) : PEI X W (.Call (.Attribute o "isalpha" apos) [] [] pos) (Mth chkS (tstB Txt.isalpha) mo Nil) :=
  pei_mth0 (fun R rv r => chkS_ok rv r) (rm_tst _) PySem.F.plainAttrs_str PySem.F.slot_str_isalpha PySem.F.type_str_isalpha mt_isalpha ho hbase hline
theorem pei_islower (ho : PEI X W o mo) (hbase : attributeBase o "islower" X.env (eval o X.env) = eval o X.env := by rfl) (hline : (apos.endLine == pos.line) = true := by rfl) : PEI X W (.Call (.Attribute o "islower" apos) [] [] pos) (Mth chkS (tstB Txt.islower) mo Nil) :=
  pei_mth0 (fun R rv r => chkS_ok rv r) (rm_tst _) PySem.F.plainAttrs_str PySem.F.slot_str_islower PySem.F.type_str_islower mt_islower ho hbase hline
/-! xs * k, xs a list -/
def repI : IV → IV → M IV := fun x y h => match x, y with
  | .ref n, .int k => match h[n]? with
    | some (.lst xs) => if -rngLim ≤ k ∧ k < rngLim ∧ xs.length * k.toNat ≤ lim then mkL (List.replicate k.toNat xs).flatten h else none
    | _ => none
  | _, _ => none
theorem RVs.rep {vs : List V} {xs : List IV} (r : RVs ι H vs xs) : ∀ k : Nat, RVs ι H (List.replicate k vs).flatten (List.replicate k xs).flatten
  | 0 => .nil
  | k + 1 => by
    rw [List.replicate_succ, List.replicate_succ, List.flatten_cons, List.flatten_cons]
    exact r.append (RVs.rep r k)
theorem ri_rep : RI2 W rRep repI := by
  intro ι h H v w x y Q R rv rw r
  cases rv with
  | @ref n a ea =>
    cases rw with
    | int k =>
      have r' : Run W RV (match h[n]? with
        | some (.lst xs) => if -rngLim ≤ k ∧ k < rngLim ∧ xs.length * k.toNat ≤ lim then mkL (List.replicate k.toNat xs).flatten h else none
        | _ => none) ι H Q := r
      split at r'
      · rename_i xs e1
        split at r'
        · rename_i hk
          obtain ⟨a', vs, q1, _, q2, rs⟩ := R.lst (.ref ea) e1
          cases q1
          have b1 : -(2 ^ 63 : Int) ≤ k := by have := hk.1; unfold rngLim at this; omega
          have b2 : k < (2 ^ 63 : Int) := by have := hk.2.1; unfold rngLim at this; omega
          exact ⟨_, k, vs, rfl, rfl, q2, b1, b2, by rw [rs.length]; exact sz_of hk.2.2, (new_lst R (rs.rep k.toNat) r').2⟩
        · exact r'.elim
      · exact r'.elim
    | _ => exact r.elim
  | _ => exact r.elim
theorem pei_rep (ha : PEI X W e m) (hb : PEI X W e2 n) : PEI X W (.BinOp e .Mult e2 pos) (Bin repI m n) := pei_op ri_rep op_rep ha hb
/-! tuple(text) -/
def signsV (s : Str) : List V := s.cps.toList.map fun c => .str ⟨#[c]⟩
def tupStrM : List IV → M IV
  | [.str s] => if s.length ≤ lim then M.pure (.tup (s.cps.toList.map fun c => .str ⟨#[c]⟩)) else stuck
  | _ => stuck
theorem vals_signs {x : Str} : ∀ {us : List Value} {cs : List Nat}, us.length = cs.length → (∀ (j : Nat) (v : Value), us[j]? = some v → ∃ c u, cs[j]? = some c ∧ v = .str ⟨#[c]⟩ u) → Vals (cs.map fun c => V.str ⟨#[c]⟩) us
  | [], [], _, _ => .nil
  | u :: us, c :: cs, hl, k => by
    refine .cons ?_ (vals_signs (x := x) (by simpa using hl) fun j v e => by simpa using k (j + 1) v (by simpa using e))
    obtain ⟨c', t, e1, e2⟩ := k 0 u rfl
    simp at e1
    subst e1
    exact ⟨t, e2⟩
  | [], _ :: _, hl, _ => by simp at hl
  | _ :: _, [], hl, _ => by simp at hl
theorem call_tupleS (hc : X.calm = true) : CallR X (.type "tuple") (fun xs H Q => ∃ s : Str, xs = [.str s] ∧ s.length ≤ lim ∧ ∀ l, H l = none → Q (.ref l) (upd H l (.tup (signsV s)))) := by
  intro pins s σ H vs us Q I r hh
  obtain ⟨x, rfl, hl, q⟩ := hh
  cases r with
  | cons ru rn =>
    cases rn
    obtain ⟨t, rfl⟩ := ru
    have hl2 : x.cps.size ≤ 100000 := by have := hl; rw [lim_eq] at this; exact this
    refine PySem.call_tuple_str (I.ok.hd hc) x t (fun h' tk acc k ia => ?_) (Nat.le_trans hl2 (by rw [sizeLine_eq]; decide))
    have I1 : Inv X pins σ H { s with heap := h', toks := tk } := I.kept k
    have hv : Vals (signsV x) acc.toList := vals_signs (x := x) (by rw [Array.length_toList, Array.length_toList]; exact ia.1) fun j v e => by
      obtain ⟨c, u, e1, e2⟩ := ia.2 j v (by simpa using e)
      exact ⟨c, u, by simpa using e1, e2⟩
    refine ⟨.ref _, _, I1.laid (t' := tk) (o := .tup (signsV x)) (fun b ob z => Heap.get?_push_of_some _ z) (Nat.le_refl _) ?_, rfl, q _ (I1.hok.fresh (Nat.le_refl _))⟩
    refine ⟨?_, acc.toList, hv, ?_⟩
    · unfold signsV
      rw [List.length_map, Array.length_toList]
      exact Nat.le_trans hl2 (by rw [sizeLine_eq]; decide)
    · exact ⟨_, Heap.get?_push_size _ rfl, rfl, 0, by simp⟩
theorem RVs.signs (s : Str) : RVs ι H (signsV s) (s.cps.toList.map fun c => .str ⟨#[c]⟩) := by
  unfold signsV
  generalize s.cps.toList = l
  induction l with
  | nil => exact .nil
  | cons c l ih => exact .cons (.str _) ih
theorem ri_tupStr : RIL W (fun xs H Q => ∃ s : Str, xs = [.str s] ∧ s.length ≤ lim ∧ ∀ l, H l = none → Q (.ref l) (upd H l (.tup (signsV s)))) tupStrM := by
  intro ι h H vs xs Q R rs r
  cases rs with
  | nil => exact r.elim
  | @cons v x _ _ rv rs =>
    cases rs with
    | cons _ _ => cases rv <;> exact r.elim
    | nil =>
      cases rv with
      | str s =>
        have r' : Run W RV (if s.length ≤ lim then some (.ok (.tup (s.cps.toList.map fun c => .str ⟨#[c]⟩)), h) else none) ι H Q := by
          have : (if s.length ≤ lim then M.pure (IV.tup (s.cps.toList.map fun c => .str ⟨#[c]⟩)) else stuck) h = (if s.length ≤ lim then some (.ok (.tup (s.cps.toList.map fun c => .str ⟨#[c]⟩)), h) else none) := by split <;> rfl
          rw [← this]; exact r
        split at r'
        · rename_i hl
          exact ⟨s, rfl, hl, fun l hn => r' ι _ _ (R.new hn) (fr_new hn) (.tup upd_same (RVs.signs s))⟩
        · exact r'.elim
      | _ => exact r.elim
theorem pei_tupStr (hc : X.calm = true) (hm : X.mg "tuple" = none) (ha : PAI X W [e] ma) (hg : Gl X "tuple" := by rfl) (he : starEach [e] X.env = (false, eval e X.env) :: starEach [] X.env := by rfl) : PEI X W (.Call (.Name "tuple" p) [e] [] pos) (CallB tupStrM ma) :=
  pei_callT ri_tupStr (call_tupleS hc) hm (by decide +kernel) ha hg (by decide) (by decide) he
/-! max(xs, default=d) -/
def maxDM : List IV → IV → M IV
  | [.ref n], d => fun h => match h[n]? with
    | some (.lst xs) => match ints? xs with
      | some [] => some (.ok d, h)
      | some (i :: is) => some (.ok (.int (maxL (i :: is))), h)
      | none => none
    | _ => none
  | _, _ => stuck
theorem maxL_fold (n : Int) (r : List Int) : r.foldl max n = maxL (n :: r) := by
  have f : (fun a b : Int => if a < b then b else a) = max := by
    funext a b
    rcases Int.lt_or_le a b with h | h
    · rw [if_pos h]; omega
    · rw [if_neg (by omega)]; omega
  unfold maxL
  rw [f, List.foldl_cons]
  show _ = r.foldl max (max n n)
  rw [Int.max_self]
def rMaxDf (K : PySem.W.Frag) : List V → List V → Hp → VK → Prop := fun xs zs H Q => ∃ (a : Addr) (ns : List Int) (d : V), xs = [.ref a] ∧ zs = [d] ∧ SqL K H a (ns.map V.int) ∧ (ns = [] → Q d H) ∧ ∀ n r, ns = n :: r → Q (.int (maxL (n :: r))) H
theorem reads_ints (hp : Heap) : ∀ {ns : List Int} {us : List Value}, Vals (ns.map V.int) us → ∃ as, ReadsAll hp us (ns.map PyData.int) as
  | [], _, .nil => ⟨_, .nil⟩
  | n :: ns, _, .cons ru r => by
    obtain ⟨as, q⟩ := reads_ints hp (ns := ns) r
    obtain ⟨t, rfl⟩ := ru
    exact ⟨_, .cons (.int n t) q⟩
theorem depth_ints : ∀ ns : List Int, PyData.depthAll (ns.map PyData.int) = 0
  | [] => rfl
  | n :: ns => by
    have := depth_ints ns
    simp [PyData.depthAll, PyData.depth, this]
theorem call_maxDf (hc : X.calm = true) (hu : X.A.units + 65 < cLine) : CallRK X (.builtin "max") ["default"] (rMaxDf X.K) := by
  intro pins s σ H xs zs us ws Q I r1 r2 hh
  obtain ⟨a, ns, d, rfl, rfl, hs, q0, q1⟩ := hh
  obtain ⟨its, rv, hl, _⟩ := I.list hs
  rw [Vals.ref1 r1]
  cases r2 with
  | cons rd rn =>
    rename_i dv _
    cases rn
    obtain ⟨as, ra⟩ := reads_ints s.heap rv
    have ra' : ReadsAll s.heap its.toArray.toList (ns.map PyData.int) as := by simpa using ra
    show wpAny _ _ (call (.builtin "max") [.ref a] [(Str.ofString "default", dv)]) _ _ _
    refine PySem.W.max_list_default (I.ok.hd hc) hl.isList ra' ?_ ?_ (fun e h' tk k => ⟨d, H, I.kept k, rd, q0 (List.map_eq_nil_iff.mp e)⟩) fun y ys i v h' tk bs e hi r k => ?_
    · refine ⟨fun x hx z hz => ?_, fun x hx => ?_⟩
      · obtain ⟨i, _, rfl⟩ := List.mem_map.mp hx
        obtain ⟨j, _, rfl⟩ := List.mem_map.mp hz
        simp [PySem.W.alike]
      · obtain ⟨i, _, rfl⟩ := List.mem_map.mp hx
        exact fun z => nomatch z
    · rw [depth_ints]; omega
    · cases ns with
      | nil => cases e
      | cons n nr =>
        rw [List.map_cons] at e
        injection e with e1 e2
        subst e1; subst e2
        rw [PySem.W.maxD_ints, maxL_fold] at r
        cases r with
        | int _ t => exact ⟨.int _, H, I.kept k, ⟨t, rfl⟩, q1 n nr rfl⟩
def MaxDf (a : Env → M (List IV)) (d : Env → M IV) : Env → M IV := fun env => M.bind (a env) fun xs => M.bind (d env) fun y => maxDM xs y
theorem pei_maxDf (hc : X.calm = true) (hu : X.A.units + 65 < cLine) (hm : X.mg "max" = none) (ha : PAI X W [e] ma) (hd : PEI X W e2 n) {kpos : Pos} (hg : Gl X "max" := by rfl)
    (he : backTo pos (starEach [e] X.env) = (false, eval e X.env) :: backTo pos (starEach [] X.env) := by rfl) (hpl : (backTo pos (starEach [e] X.env)).any (·.1) = false := by rfl)
    (hall : (backToKw pos (keywordEach [⟨some ("default" : Str), e2, kpos⟩] X.env)).all (·.1.isSome) = true := by rfl) (hnone : (backToKw pos (keywordEach [⟨some ("default" : Str), e2, kpos⟩] X.env)).any (·.1.isNone) = false := by rfl) (hks : (backToKw pos (keywordEach [⟨some ("default" : Str), e2, kpos⟩] X.env)).filterMap (·.1) = [("default" : Str)] := by rfl) :
    PEI X W (.Call (.Name "max" p) [e] [⟨some ("default" : Str), e2, kpos⟩] pos) (MaxDf ma n) := by
  refine PE.weak (pe_callBK (call_maxDf hc hu) hg hm (by decide +kernel) ha (pki_cons hd pki_nil) (by decide) (by decide) he hpl hall hnone hks) fun σ H Q ⟨ι, h, env, R, S, r⟩ => ?_
  refine ⟨ι, h, env, R, S, (run_bind (rel1 := RVs) r).mono fun vs H1 ⟨ι1, h1, xs, R1, F1, rs, r1⟩ => ?_⟩
  refine ⟨ι1, h1, env, R1, S.mono R F1, ?_⟩
  have r2 : Run W RV (M.bind (n env) (fun y => maxDM xs y) h1) ι1 H1 Q := r1
  have r3 : Run W RVs (Cons n Nil env h1) ι1 H1 fun zs H2 => ∃ ι2 h2 y v, Rel ι2 h2 H2 ∧ Fr ι1 H1 ι2 H2 ∧ zs = [v] ∧ RV ι2 H2 v y ∧ Run W RV (maxDM xs y h2) ι2 H2 Q := by
    have q := run_bind (rel1 := RV) r2
    unfold Cons
    unfold M.bind
    generalize n env h1 = o at q ⊢
    match o, q with
    | none, q => exact q
    | some (.ex _, _), q => exact q
    | some (.ok y, h2), q =>
      intro ι2 H2 zs R2 F2 rz
      cases rz with
      | cons rv rn =>
        cases rn
        obtain ⟨ι3, h3, y3, R3, F3, rv3, r4⟩ := q ι2 H2 _ R2 F2 rv
        exact ⟨ι3, h3, y3, _, R3, F3, rfl, rv3, r4⟩
  refine r3.mono fun zs H2 ⟨ι2, h2, y, v, R2, F2, ez, rv, r4⟩ => ?_
  subst ez
  have rs2 := R1.monos F2 rs
  cases rs2 with
  | nil => exact r4.elim
  | @cons w x _ _ rx rr =>
    cases rr with
    | cons _ _ => cases rx <;> exact r4.elim
    | nil =>
      cases rx with
      | @ref k a ea =>
        have r5 : Run W RV (match h2[k]? with
          | some (.lst xs) => match ints? xs with
            | some [] => some (.ok y, h2)
            | some (i :: is) => some (.ok (.int (maxL (i :: is))), h2)
            | none => none
          | _ => none) ι2 H2 Q := r4
        split at r5
        · rename_i ys e1
          obtain ⟨a', vs', z1, _, z2, rs3⟩ := R2.lst (.ref ea) e1
          cases z1
          split at r5
          · rename_i e3
            have := ints?_eq e3
            subst this
            have ev := rs3.ints
            subst ev
            exact ⟨_, [], v, rfl, rfl, sq_of z2, fun _ => run_pure (x := y) r5 R2 rv, fun _ _ z => nomatch z⟩
          · rename_i i is e3
            have := ints?_eq e3
            subst this
            have ev := rs3.ints
            subst ev
            exact ⟨_, i :: is, v, rfl, rfl, sq_of z2, (fun z => nomatch z), fun n' r' z => by cases z; exact run_pure (x := IV.int _) r5 R2 (.int _)⟩
          · exact r5.elim
        · exact r5.elim
      | _ => exact r4.elim
/-! reversed(range(k)) -/
def SDown (n : Nat) : Src := fun _ i => some (if i < n then some (.int ((n : Int) - 1 - i)) else none)
def RevRg (m : Env → M IV) : Env → M Src := fun env => M.bind (m env) fun x => match x with
  | .int k => fun h => if -rngLim ≤ k ∧ k < rngLim then some (.ok (SDown k.toNat), h) else none
  | _ => stuck
theorem rj_down {k : Int} : RJ ι H (Itc (0 + (((k - 0).toNat : Nat) : Int) - 1) (-1) (k - 0).toNat) (SDown k.toNat) := by
  intro ι2 h2 H2 R2 F2 i
  have e0 : (k - 0).toNat = k.toNat := by rw [Int.sub_zero]
  rw [e0]
  unfold SDown
  by_cases hi : i < k.toNat
  · rw [if_pos hi]
    refine ⟨hi, fun v H3 y => ?_⟩
    obtain ⟨y1, y2⟩ := y
    subst y1; subst y2
    refine ⟨ι2, R2, Fr.refl _ _, ?_⟩
    have e : (0 : Int) + ((k.toNat : Nat) : Int) - 1 + (i : Nat) * (-1) = (k.toNat : Int) - 1 - i := by omega
    rw [e]; exact .int _
  · rw [if_neg hi]
    exact Nat.le_of_not_lt hi
theorem pii_revRg {tg : Expr} {p2 pos2 : Pos} (hm : X.mg "reversed" = none) (hm2 : X.mg "range" = none) (he : PEI X W e m) (hg : Gl X "reversed" := by rfl) (hg2 : Gl X "range" := by rfl)
    (hs : starEach [.Call (.Name "range" p2) [e] [] pos2] X.env = (false, eval (.Call (.Name "range" p2) [e] [] pos2) X.env) :: starEach [] X.env := by rfl) (hs2 : starEach [e] X.env = (false, eval e X.env) :: starEach [] X.env := by rfl) :
    PII X W tg (.Call (.Name "reversed" p) [.Call (.Name "range" p2) [e] [] pos2] [] pos) (RevRg m) := by
  refine PI.weak (pi_revR hg hm (prg_1 hg2 hm2 he hs2) hs) fun σ H Rr ⟨ι, h, env, R, S, r⟩ => ?_
  refine ⟨ι, h, env, R, S, (run_bind (rel1 := RV) r).mono fun v H1 ⟨ι1, h1, x, R1, F1, rv, r1⟩ => ?_⟩
  cases rv with
  | int k =>
    have r2 : Run W RJ (if -rngLim ≤ k ∧ k < rngLim then some (.ok (SDown k.toNat), h1) else none) ι1 H1 Rr := r1
    split at r2
    · rename_i hk
      have b1 : -(2 ^ 62 : Int) ≤ k := by have := hk.1; unfold rngLim at this; omega
      have b2 : k < (2 ^ 62 : Int) := by have := hk.2; unfold rngLim at this; omega
      exact ⟨k, rfl, by omega, by omega, b1, b2, r2 ι1 H1 _ R1 (Fr.refl _ _) rj_down⟩
    · exact r2.elim
  | _ => exact r1.elim
/-! dict(xs), xs a list of pairs -/
def pairsI : List IV → Option (List (Key × IV))
  | [] => some []
  | .tup [x, v] :: r => match keyI x, pairsI r with
    | some k, some q => some ((k, v) :: q)
    | _, _ => none
  | _ => none
def mergeI (kvs more : List (Key × IV)) : List (Key × IV) := more.foldl (fun acc kv => putI acc kv.1 kv.2) kvs
def dictM : List IV → M IV
  | [.ref n] => fun h => match h[n]? with
    | some (.lst xs) => match pairsI xs with
      | some kvs => some (.ok (.ref h.length), h ++ [.dic (mergeI [] kvs)])
      | none => none
    | _ => none
  | _ => stuck
theorem RKs.merge {more : List (Key × V)} {moreI : List (Key × IV)} (m : RKs ι H more moreI) : ∀ {kvs : List (Key × V)} {kvsI : List (Key × IV)}, RKs ι H kvs kvsI → RKs ι H (mergeK kvs more) (mergeI kvsI moreI) := by
  induction m with
  | nil => exact fun r => r
  | cons a _ ih => exact fun r => ih (r.put a)
theorem pairs_ok {K : PySem.W.Frag} : ∀ {xs : List IV} {vs : List V} {kvs : List (Key × IV)}, RVs ι H vs xs → pairsI xs = some kvs → ∃ (ps : List Addr) (ks : List (Key × V)), vs = ps.map V.ref ∧ Paired (fun p kv => SqT K H p [kV kv.1, kv.2]) ps ks ∧ RKs ι H ks kvs
  | [], _, _, .nil, e => by cases e; exact ⟨[], [], rfl, .nil, .nil⟩
  | .tup [x, v] :: r, _, _, .cons a rs, e => by
    unfold pairsI at e
    split at e
    · rename_i k q e1 e2
      cases e
      obtain ⟨ps, ks, z1, z2, z3⟩ := pairs_ok rs e2
      subst z1
      cases a with
      | tup ea r2 =>
        cases r2 with
        | cons rx r2 =>
          cases r2 with
          | cons rv r2 =>
            cases r2
            have ek := key_ok rx e1
            subst ek
            exact ⟨_ :: ps, (k, _) :: ks, rfl, .cons (st_of ea) z2, .cons rv z3⟩
    · cases e
  | .non :: _, _, _, _, e | .bl _ :: _, _, _, _, e | .int _ :: _, _, _, _, e | .str _ :: _, _, _, _, e | .fl _ :: _, _, _, _, e | .kl _ :: _, _, _, _, e | .ref _ :: _, _, _, _, e | .exo :: _, _, _, _, e => by cases e
  | .tup [] :: _, _, _, _, e | .tup [_] :: _, _, _, _, e | .tup (_ :: _ :: _ :: _) :: _, _, _, _, e => by cases e
theorem ri_dict : RIL W (fun xs H Q => ∃ (a : Addr) (ps : List Addr) (kvs : List (Key × V)), xs = [.ref a] ∧ SqL X.K H a (ps.map V.ref) ∧ Paired (fun p kv => SqT X.K H p [kV kv.1, kv.2]) ps kvs ∧ ∀ p, H p = none → Q (.ref p) (upd H p (.dK (mergeK [] kvs)))) dictM := by
  intro ι h H vs xs Q R rs r
  cases rs with
  | nil => exact r.elim
  | @cons v x _ _ rv rs =>
    cases rs with
    | cons _ _ => cases rv <;> exact r.elim
    | nil =>
      cases rv with
      | @ref n a ea =>
        have r' : Run W RV (match h[n]? with
          | some (.lst xs) => match pairsI xs with
            | some kvs => some (.ok (.ref h.length), h ++ [.dic (mergeI [] kvs)])
            | none => none
          | _ => none) ι H Q := r
        split at r'
        · rename_i ys e1
          obtain ⟨a', ws, q1, _, q2, r1⟩ := R.lst (.ref ea) e1
          cases q1
          split at r'
          · rename_i kvs e2
            obtain ⟨ps, ks, z1, z2, z3⟩ := pairs_ok (K := X.K) r1 e2
            subst z1
            refine ⟨_, ps, ks, rfl, sq_of q2, z2, fun p hp => ?_⟩
            refine r' (ι ++ [p]) _ _ (R.push hp (u := .dic (mergeI [] kvs)) ⟨_, upd_same, RKs.mono R (fr_push hp) (z3.merge .nil)⟩) (fr_push hp) (.ref ?_)
            rw [← R.len, List.getElem?_append_right (Nat.le_refl _), Nat.sub_self]; rfl
          · exact r'.elim
        · exact r'.elim
      | _ => exact r.elim
theorem pei_dict (hc : X.calm = true) (hm : X.mg "dict" = none) (ha : PAI X W [e] ma) (hg : Gl X "dict" := by rfl) (he : starEach [e] X.env = (false, eval e X.env) :: starEach [] X.env := by rfl) : PEI X W (.Call (.Name "dict" p) [e] [] pos) (CallB dictM ma) :=
  pei_callT ri_dict (call_dictP hc) hm (by decide +kernel) ha hg (by decide) (by decide) he
end
end Iv
set_option Elab.async false
set_option linter.all false
set_option maxRecDepth 100000
set_option maxHeartbeats 2000000
set_option autoImplicit false
namespace Iv
open PySem L2 PyProof.Rows
variable [KL]
section
variable {X : Cx} {W : ExW} {a b c : Expr} {ma mb mc : Env → M IV} {pos : Pos}
theorem oi {g : Int → Int → IV} {h : Str → Str → IV} : True := trivial
theorem pti_lelt (ha : PEI X W a ma) (hb : PEI X W b mb) (hc : PEI X W c mc) (hm : lastMarks [.LtE, .Lt] [b, c] = false := by rfl) : PTI X W (.Compare a [.LtE, .Lt] [b, c] pos) (Tst (Chain leI ltI ma mb mc)) :=
  pti_of_pe (pt_chain (L2.OpR.or op_le op_le_str) (L2.OpR.or op_lt op_lt_str) ha hb hc hm) (fun _ _ _ q => q) fun _ _ _ q => tI_chain (ri_ord fun a b H Q q => ⟨a, b, rfl, rfl, q⟩) (ri_ord fun a b H Q q => ⟨a, b, rfl, rfl, q⟩) q
theorem pti_lele (ha : PEI X W a ma) (hb : PEI X W b mb) (hc : PEI X W c mc) (hm : lastMarks [.LtE, .LtE] [b, c] = false := by rfl) : PTI X W (.Compare a [.LtE, .LtE] [b, c] pos) (Tst (Chain leI leI ma mb mc)) :=
  pti_of_pe (pt_chain (L2.OpR.or op_le op_le_str) (L2.OpR.or op_le op_le_str) ha hb hc hm) (fun _ _ _ q => q) fun _ _ _ q => tI_chain (ri_ord fun a b H Q q => ⟨a, b, rfl, rfl, q⟩) (ri_ord fun a b H Q q => ⟨a, b, rfl, rfl, q⟩) q
theorem pti_ltlt (ha : PEI X W a ma) (hb : PEI X W b mb) (hc : PEI X W c mc) (hm : lastMarks [.Lt, .Lt] [b, c] = false := by rfl) : PTI X W (.Compare a [.Lt, .Lt] [b, c] pos) (Tst (Chain ltI ltI ma mb mc)) :=
  pti_of_pe (pt_chain (L2.OpR.or op_lt op_lt_str) (L2.OpR.or op_lt op_lt_str) ha hb hc hm) (fun _ _ _ q => q) fun _ _ _ q => tI_chain (ri_ord fun a b H Q q => ⟨a, b, rfl, rfl, q⟩) (ri_ord fun a b H Q q => ⟨a, b, rfl, rfl, q⟩) q
end
section
variable {X : Cx} {W : ExW}
/-- a, b, c = x, y, z -/
def ParS3 (i j l : Nat) (a : Env → M (List IV)) : Env → M Fl := fun env => M.bind (a env) fun xs => match xs with
  | [x, y, z] => M.pure (.nx (((env.set i (some x)).set j (some y)).set l (some z)))
  | _ => stuck
theorem psi_par3 (i j l : Nat) {x y z : Str} {a b c : Expr} {ma : Env → M (List IV)} {px py pz pt pos : Pos} {kt k2 pt2} (hc : X.calm = true) (hN : X.N.Nodup) (ha : PAI X W [a, b, c] ma) (hi : X.N[i]? = some x := by rfl) (hj : X.N[j]? = some y := by rfl) (hl : X.N[l]? = some z := by rfl) (hij : i ≠ j := by decide) (hil : i ≠ l := by decide) (hjl : j ≠ l := by decide)
    (hx : X.env.scope.names.lookup x = some .local := by rfl) (hy : X.env.scope.names.lookup y = some .local := by rfl) (hz : X.env.scope.names.lookup z = some .local := by rfl)
    (hw : swappedStores [.Tuple [.Name x px, .Name y py, .Name z pz] kt pt] (.Tuple [a, b, c] k2 pt2) X.env = pure (some [x, y, z]) := by rfl)
    (hs : swapsWithSole [.Tuple [.Name x px, .Name y py, .Name z pz] kt pt] (.Tuple [a, b, c] k2 pt2) pos.line X.env = pure false := by rfl) : PSI X W (.Assign [.Tuple [.Name x px, .Name y py, .Name z pz] kt pt] (.Tuple [a, b, c] k2 pt2) pos) (ParS3 i j l ma) :=
  PS.weak (ps_par3 hc hN hi hj hl hij hil hjl hx hy hz ha hw hs) fun D σ H ⟨ι, h, env, R, S, r⟩ =>
    ⟨ι, h, env, R, S, (run_bind (rel1 := RVs) r).mono fun vs H1 ⟨ι1, h1, xs, R1, F1, rs, r1⟩ => by
      cases rs with
      | nil => exact r1.elim
      | cons a1 rs => cases rs with
        | nil => exact r1.elim
        | cons a2 rs => cases rs with
          | nil => exact r1.elim
          | cons a3 rs => cases rs with
            | nil => exact ⟨_, _, _, rfl, r1 ι1 H1 (.nx _) R1 (Fr.refl _ _) (.nx ((((S.mono R F1).set a1).set a2).set a3))⟩
            | cons _ _ => exact r1.elim⟩
/-- name = {..} on one line, the name a local -/
theorem sw_trueD {kx elt : Expr} {gs : List Comprehension} {scope : Scope} {pos py : Pos} {y : Str} {l : Nat} {env : PySem.Env} (hk : env.scope.kind = .function) (hy : env.scope.names.lookup y = some .local) (hl : (py.line == pos.line) = true)
    (ha : (scope.names.any fun (n, k) => n == y && (k == .local || k == .cell)) = false) : swapsWith (.DictComp kx elt gs scope pos) (some (.Name y py)) l env = pure true := by
  have e1 : env.kindOf y = some .local := hy
  have e2 : env.blockKind = .function := by unfold PySem.Env.blockKind; rw [hk]; rfl
  unfold swapsWith
  simp only [e1, e2, ha, hl, Expr.pos]
  rfl
theorem ps_setDc {i : Nat} {y : Str} {py : Pos} {kx vx tg iter : Expr} {ifs : List Expr} {scope : Scope} {own : List (Str × Nat)} {pos spos : Pos} {wi : TI} {g : TG} {tt : TT} {tk tv : TE} (hc : X.calm = true) (hN : X.N.Nodup) (hy : X.N[i]? = some y) (hyl : X.env.scope.names.lookup y = some .local)
    (hsw : swapsWith (.DictComp kx vx [⟨tg, iter, ifs, 0⟩] scope pos) (some (.Name y py)) spos.line X.env = pure true) (hi : PI X tg iter wi) (ok : BlkOk X.N X.env.scope scope own)
    (hg : ∀ (s : Shared) (H : Hp) (C : Addr) (cl : List (Str × Addr)) (fp : List Addr), PG (X.blk s H scope (compEnvC scope cl C X.env) fp) tg g) (ht : ∀ (s : Shared) (H : Hp) (C : Addr) (cl : List (Str × Addr)) (fp : List Addr), PTs (X.blk s H scope (compEnvC scope cl C X.env) fp) ifs tt)
    (hk : ∀ (s : Shared) (H : Hp) (C : Addr) (cl : List (Str × Addr)) (fp : List Addr), PE (X.blk s H scope (compEnvC scope cl C X.env) fp) kx tk) (he : ∀ (s : Shared) (H : Hp) (C : Addr) (cl : List (Str × Addr)) (fp : List Addr), PE (X.blk s H scope (compEnvC scope cl C X.env) fp) vx tv)
    (hs : ∀ x, foldedSetIterable iter X.env x = pure x := by intro _; rfl) :
    PS X (.Assign [.Name y py] (.DictComp kx vx [⟨tg, iter, ifs, 0⟩] scope pos) spos) (tAsg (tDc wi g tt tk tv (own.map (·.2))) (gName i)) := ⟨fun pins s σ H D I q => by
  rw [exec_Assign_Name_used _ _ _ _ hsw]
  refine wpAny_bind (wpAny_standAt (wpAny_bind ?_))
  show wpAny _ X.A (do let _ ← comprehension (.DictComp kx vx [⟨tg, iter, ifs, 0⟩] scope pos) scope X.env (firstIterPos [⟨tg, iter, ifs, 0⟩] pos) newDict false (eval iter X.env) (some (assign (.Name y py) X.env))) _ _ s
  have q' : tDc wi g tt tk tv (own.map (·.2)) σ H (fun x H1 => gName i x σ H1 D.nx) := q
  refine wpAny_bind (thn (dc_core (Qf := fun _ s' => SP X pins D .next s') hc hN I hi ok hg ht hk he hs q' fun L C s' m H' J qq hn f => ?_) fun _ s' z => wpAny_pure (wpAny_pure z))
  show wpAny _ _ (assign (.Name y py) X.env (.ref L)) _ _ _
  refine wpAny_assign_Name (store_ok2 (v := V.ref L) J hN hy (.inl hyl) rfl (fun s2 J2 ⟨a, sb, ha⟩ => ?_) (.inr hyl))
  obtain ⟨f0, f1, f2, f3, f4, f5⟩ := f
  have ne : C ≠ a := ha.elim (fun z => by rw [z]; exact f1) fun z e => f4 y a z e.symm
  exact ⟨m, hn.sameBut sb ne, fun h3 sb3 => ⟨_, H', J2.turned (t' := s2.toks) (fun b o hb e => (sb3.2 b hb).trans e) f0 f1 f3 f4 f5, qq⟩⟩⟩
theorem psi_setDc (n : Nat) (i : Nat) {y : Str} {py : Pos} {kx elt tg iter : Expr} {ifs : List Expr} {scope : Scope} (own : List (Str × Nat)) {pos spos : Pos} {src : Env → M Src} {p : Pat} {c : Env → M Bool} {mk el : Env → M IV} (hc : X.calm = true) (hN : X.N.Nodup) (hi : PII X W tg iter src) (ok : blkC X.N X.env.scope scope own = true)
    (hg : ∀ (s : Shared) (H : Hp) (C : Addr) (cl : List (Str × Addr)) (fp : List Addr), PG (X.blk s H scope (compEnvC scope cl C X.env) fp) tg (gPat X.K p)) (ht : ∀ (s : Shared) (H : Hp) (C : Addr) (cl : List (Str × Addr)) (fp : List Addr), PTsI (X.blk s H scope (compEnvC scope cl C X.env) fp) ifs c)
    (hk : ∀ (s : Shared) (H : Hp) (C : Addr) (cl : List (Str × Addr)) (fp : List Addr), PEI (X.blk s H scope (compEnvC scope cl C X.env) fp) W0 kx mk) (he : ∀ (s : Shared) (H : Hp) (C : Addr) (cl : List (Str × Addr)) (fp : List Addr), PEI (X.blk s H scope (compEnvC scope cl C X.env) fp) W0 elt el)
    (hsw : swapsWith (.DictComp kx elt [⟨tg, iter, ifs, 0⟩] scope pos) (some (.Name y py)) spos.line X.env = pure true) (hy : X.N[i]? = some y := by rfl) (hyl : X.env.scope.names.lookup y = some .local := by rfl)
    (hv : ∀ i ∈ p.ix, i ∈ own.map (·.2) := by decide) (hs : ∀ x, foldedSetIterable iter X.env x = pure x := by intro _; rfl) :
    PSI X W (.Assign [.Name y py] (.DictComp kx elt [⟨tg, iter, ifs, 0⟩] scope pos) spos) (AsgS (DcE n src p c mk el (own.map (·.2))) (TgN i)) :=
  PS.weak (ps_setDc hc hN hy hyl hsw hi (blkOk_by ok) hg ht hk he hs) fun D σ H t => by
    have q : tI W (DcE n src p c mk el (own.map (·.2))) σ H (fun x H1 => gName i x σ H1 D.nx) := by
      obtain ⟨ι, h, env, R, S, r⟩ := tIS_asg t
      exact ⟨ι, h, env, R, S, r.mono fun v H1 ⟨ι1, h1, env1, x, R1, S1, rv, r1⟩ => r1 ι1 H1 _ R1 (Fr.refl _ _) (S1.set rv)⟩
    exact dc_weak n hv q
end
end Iv
set_option Elab.async false
set_option linter.all false
set_option maxRecDepth 100000
set_option maxHeartbeats 2000000
set_option autoImplicit false
/-! t[::-1] of a tuple -/
namespace HT
open PySem PyProof.Rows
section
variable {prog : Program} {w : World} {A : Around} {E : Value → Shared → Prop} {s : Shared}
theorem adjust_back (n : Nat) : Builtin.Slice.sliceAdjust none none (-1) (n : Int) = ((n : Int) - 1, -1) := by
  unfold Builtin.Slice.sliceAdjust
  simp
theorem places_back (n : Nat) : Builtin.Slice.slicePlaces ((n : Int) - 1) (-1) (-1) = n := by
  unfold Builtin.Slice.slicePlaces
  have h1 : ¬ ((-1 : Int) > 0) := by omega
  simp only [h1, if_false]
  by_cases hn : n = 0
  · subst hn; simp
  · have : (-1 : Int) < (n : Int) - 1 ∨ True := .inr trivial
    simp
    omega
theorem sliceApplied_back {sl : Addr} {vs : Value} {n : Nat} {Q : Int × Int × Nat → Shared → Prop} (hs : s.heap.IsSliceOf sl .none .none vs) (ps : IsPart vs (some (-1)))
    (h : Q ((n : Int) - 1, -1, n) s) : wpAny (model prog w) A (Builtin.Slice.sliceApplied (.ref sl) (pure (n : Int))) Q E s := by
  obtain ⟨os, hos, hcs, hds⟩ := id hs
  unfold Builtin.Slice.sliceApplied Builtin.Slice.sliceFields
  refine wpAny_bind (wpAny_bind (wpAny_field hos hds (x := .none) rfl (wpAny_bind (wpAny_field hos hds (x := .none) rfl (wpAny_bind (wpAny_field hos hds (x := vs) rfl (wpAny_pure ?_)))))))
  refine wpAny_bind (slicePart_ ps ?_)
  show wpAny _ _ (if ((-1 : Int) == 0) = true then _ else _) _ _ s
  rw [if_neg (by decide)]
  refine wpAny_bind (slicePart_none (wpAny_bind (slicePart_none (wpAny_bind (wpAny_pure ?_)))))
  show wpAny _ _ (match Builtin.Slice.sliceAdjust none none (-1) (n : Int) with | (lo, hi) => pure (lo, (-1 : Int), Builtin.Slice.slicePlaces lo hi (-1))) _ _ s
  rw [adjust_back n]
  show wpAny _ _ (pure ((n : Int) - 1, (-1 : Int), Builtin.Slice.slicePlaces ((n : Int) - 1) (-1) (-1))) _ _ s
  rw [places_back]
  exact wpAny_pure h
theorem fm_map {α β : Type} {f : α → Option β} {g : α → β} : ∀ {l : List α}, (∀ x ∈ l, f x = some (g x)) → l.filterMap f = l.map g
  | [], _ => rfl
  | a :: l, k => by rw [List.filterMap_cons, k a (by simp), List.map_cons, fm_map fun x hx => k x (by simp [hx])]
theorem pick_back (xs : Array Value) : ((List.range xs.size).filterMap fun (m : Nat) => xs[(((xs.size : Nat) : Int) - 1 + (m : Int) * (-1)).toNat]?).toArray = xs.toList.reverse.toArray := by
  congr 1
  rw [fm_map (g := fun m => xs.toList.getD (xs.size - 1 - m) .none)]
  · apply List.ext_getElem
    · simp
    · intro i h1 h2
      have hi : i < xs.size := by simpa using h1
      have hl : xs.size - 1 - i < xs.size := by omega
      simp [List.getD_eq_getElem?_getD, hl]
  · intro m hm
    have hm := List.mem_range.mp hm
    have e1 : (((xs.size : Nat) : Int) - 1 + (m : Int) * (-1)).toNat = xs.size - 1 - m := by omega
    rw [e1]
    have hl : xs.size - 1 - m < xs.size := by omega
    simp [List.getD_eq_getElem?_getD, hl]
theorem getItem_tuple_back {t sl : Addr} {items : Array Value} {vs : Value} {Q : Value → Shared → Prop} (ht : IsTup s.heap t items) (hs : s.heap.IsSliceOf sl .none .none vs) (ps : IsPart vs (some (-1)))
    (h : Q (.ref s.heap.objs.size) { s with heap := s.heap.push { cls := .type "tuple", data := .seq items.toList.reverse.toArray } })
    (hsz : items.size ≤ sizeLine) : wpAny (model prog w) A (getItem (.ref t) (.ref sl)) Q E s := by
  have hrev : sizeOk (.seq items.toList.reverse.toArray) := by
    show items.toList.reverse.toArray.size ≤ sizeLine
    rw [List.size_toArray, List.length_reverse, Array.length_toList]
    exact hsz
  obtain ⟨os, hos, hcs, hds⟩ := id hs
  have hTs : s.TypeIs (.ref sl) "slice" := ⟨os, hos, hcs⟩
  unfold getItem
  try with_reducible refine wpAny_holding ?_
  first | refine wpAny_bind (wpAny_pure ?_) | skip
  refine wpAny_bind (wpAny_sequenceKey ht.typeIs (by decide) ?_)
  refine wpAny_bind (wpAny_callSpecial?_slot (name := Str.ofString "__getitem__") ht.typeIs PyProof.Rows.slot_tuple_getitem (wpAny_call_entry PyProof.Rows.slot_tuple_getitem ht.typeIs entry_tuple_getitem ?_ (args_tuple_getitem _ _)))
  show wpAny _ _ (Builtin.Tuple.tupleItemsOf (.ref t) >>= _) _ _ s
  refine wpAny_bind (tupleItemsOf_ ht (wpAny_bind (wpAny_typeOf hTs ?_)))
  rw [if_pos (by decide)]
  refine wpAny_bind (sliceApplied_back hs ps ?_)
  show wpAny _ _ (if ((((items.size : Nat) : Int) - 1) == 0 && (-1 : Int) == 1 && items.size == items.size) = true then _ else _) _ _ s
  rw [if_neg (by simp), pick_back]
  first
    | exact wpAny_bind (m := Builtin.Tuple.tupleExact _) (wpAny_newObj_type (wpAny_pure ⟨_, rfl, wpAny_pure h⟩) hrev)
    | exact wpAny_bind (m := Builtin.Tuple.tupleExact _) (wpAny_newObj_type (wpAny_bind (wpAny_pure (wpAny_pure ⟨_, rfl, wpAny_pure h⟩))) hrev)
    | exact wpAny_bind (wpAny_bind (m := Builtin.Tuple.tupleExact _) (wpAny_newObj_type (wpAny_pure (wpAny_pure ⟨_, rfl, wpAny_pure h⟩)) hrev))
    | exact wpAny_bind (wpAny_bind (m := Builtin.Tuple.tupleExact _) (wpAny_newObj_type (wpAny_pure ⟨_, rfl, wpAny_pure h⟩) hrev))
end
end HT
namespace Iv
open PySem L2 PyProof.Rows
variable [KL]
section
variable {X : Cx} {W : ExW} {e : Expr} {m : Env → M IV} {ι : List Addr} {h : IH} {H : Hp}
def tRevT (K : PySem.W.Frag) (te : TE) : TE := fun σ H Q => te σ H fun x H1 => ∃ a xs, x = .ref a ∧ SqT K H1 a xs ∧ ∀ p, H1 p = none → Q (.ref p) (upd H1 p (.tup xs.reverse))
theorem pe_revT {te : TE} {k : Nat} {p1 p2 p3 pos : Pos} (he : PE X e te) : PE X (.Subscript e (.Slice none none (some (.UnaryOp .USub (.Constant (.int 1) k p1) p2)) p3) pos) (tRevT X.K te) := by
  refine ⟨fun pins s σ H Q I h => ?_⟩
  refine Subscript_ (thn (he.run pins s σ H _ I h) fun v s1 ⟨x, H1, I1, r1, a, xs, ex, hx, q⟩ => ?_)
  subst ex
  cases r1
  refine wpAny_Slice (thn (po_none.run pins s1 σ H1 (fun o H2 => o = none ∧ H2 = H1) I1 ⟨rfl, rfl⟩) fun vl s2 ⟨_, H2, I2, pl, el, e2⟩ => ?_)
  subst el e2
  refine thn (po_none.run pins s2 σ H2 (fun o H3 => o = none ∧ H3 = H2) I2 ⟨rfl, rfl⟩) fun vu s3 ⟨_, H3, I3, pu, eu, e3⟩ => ?_
  subst eu e3
  refine thn ((po_some (pe_un un_neg pe_int)).run pins s3 σ H3 (fun o H4 => o = some (-1) ∧ H4 = H3) I3 ⟨1, rfl, -1, rfl, rfl, rfl⟩) fun vs s4 ⟨_, H4, I4, ps, eo, e4⟩ => ?_
  subst eo e4
  cases pl
  cases pu
  have I5 := I4.kept (t' := s4.toks) (h' := s4.heap.push { cls := .type "slice", data := .fields #[.none, .none, vs] }) fun b ob q => Heap.get?_push_of_some _ q
  obtain ⟨its, r, ht, hz⟩ := I5.tuple hx
  have hlen := r.length
  refine tail_any (ops := [.ref a, .ref s4.heap.objs.size]) ht.typeIs (slot_tuple_getitem.lookup) ?_ (by with_unfolding_all rfl)
  refine HT.getItem_tuple_back ht (Heap.IsSliceOf.new _ .none .none vs) ps ?_ (by rw [List.size_toArray]; omega)
  refine ⟨.ref _, _, I5.laid (t' := s4.toks) (o := .tup xs.reverse) (fun b ob q => Heap.get?_push_of_some _ q) (Nat.le_refl _) ?_, rfl, q _ (I5.hok.fresh (Nat.le_refl _))⟩
  exact ⟨by rw [List.length_reverse]; exact hz, its.reverse, r.reverse, ⟨_, Heap.get?_push_size _ rfl, rfl, 0, by simp⟩⟩
def revT : IV → M IV
  | .tup xs => M.pure (.tup xs.reverse)
  | _ => stuck
theorem RVs.rev {vs : List V} {xs : List IV} (r : RVs ι H vs xs) : RVs ι H vs.reverse xs.reverse := by
  induction xs generalizing vs with
  | nil => cases r; exact .nil
  | cons x xs ih =>
    cases r with
    | cons a r =>
      rw [List.reverse_cons, List.reverse_cons]
      exact (ih r).append (.cons a .nil)
theorem pei_revT {k : Nat} {p1 p2 p3 pos : Pos} (he : PEI X W e m) : PEI X W (.Subscript e (.Slice none none (some (.UnaryOp .USub (.Constant (.int 1) k p1) p2)) p3) pos) (Un revT m) :=
  PE.weak (pe_revT he) fun σ H Q ⟨ι, h, env, R, S, r⟩ => ⟨ι, h, env, R, S, (run_bind (rel1 := RV) r).mono fun v H1 ⟨ι1, h1, x, R1, F1, rv, r1⟩ => by
    cases rv with
    | tup ea rs => exact ⟨_, _, rfl, st_of ea, fun p hp => r1 ι1 _ _ (R1.new hp) (fr_new hp) (.tup upd_same (R1.monos (fr_new hp) rs.rev))⟩
    | _ => exact r1.elim⟩
end
end Iv
set_option Elab.async false
set_option linter.all false
set_option maxRecDepth 100000
set_option maxHeartbeats 2000000
set_option autoImplicit false
/-! exceptions of the program's own: what leaves a def, calls that let it through, try -/
namespace Iv
open PySem L2 PyProof.Rows
variable [KL]
section
variable {α β : Type} {W W' : ExW} {rel : List Addr → Hp → β → α → Prop} {o : Option (Out α × IH)} {ι : List Addr} {h : IH} {H : Hp} {Q : β → Hp → Prop}
theorem Run.imp (k : ∀ e ι' h' H', W e ι' h' H' → W' e ι' h' H') (r : Run W rel o ι H Q) : Run W' rel o ι H Q := by
  match o, r with
  | none, r => exact r
  | some (.ok _, _), r => exact r
  | some (.ex e, _), r => exact fun ι' H' R F => k _ _ _ _ (r ι' H' R F)
theorem Run.w0 (r : Run W0 rel o ι H Q) : Run W rel o ι H Q := r.imp fun _ _ _ _ z => z.elim
end
/-- what is wanted of an exception that leaves a def: its class, and its one field if it has one -/
def WX (mg : Str → Option Value) (E : XK) : ExW := fun e ι _ H => match e.args with
  | [] => ∀ C, mg e.cls = some (.ref C) → E (.ref C) none H
  | [(f, x)] => ∀ C v d, mg e.cls = some (.ref C) → RV ι H v x → H d = some (.xd [(f, v)]) → E (.ref C) (some d) H
  | _ => False
abbrev spX (mg : Str → Option Value) (n : Nat) (F : List IV → M IV) : Sp := spI (WX mg) n F
section
variable {P : Program} {w : World} {K : PySem.W.Frag} {mg : Str → Option Value} {base : Heap}
/-- a def that may raise -/
theorem def_okX {x qual : Str} {st : Stmt} {f : Addr} {fd : FuncData} {N ps : List Str} {k : Nat} {m : Env → M Fl} (F : Fun K x qual st f fd) (S : FnScope N ps (defScope st))
    (hb : ∀ (cdv : Value) (A : Around) (outer : List PySem.Env) (s : Shared) (H : Hp) (E : XK), Room k (A.deeper (PyProof.Rows.envOfC qual (defScope st) s.heap.objs.size f cdv)) → PSsI (cxOf (L2.CX P w) P w K mg base N qual (defScope st) f cdv A outer s H E) (WX mg E) (defBody st) m) :
    FnOk P w K mg base (L2.CX P w) (k + 1) f fd ps (spX mg ps.length (Fn N.length m)) := by
  refine F.okX S (fun vs H Q E q => q.1) fun cdv A outer s H vs Q E hr ⟨_, ι, h, xs, R, rs, r⟩ => ⟨_, hb cdv A outer s H E hr, fn_start R rs r⟩
def CallOkX (P : Program) (w : World) (K : PySem.W.Frag) (mg : Str → Option Value) (base : Heap) (x : Str) (k n : Nat) (F : List IV → M IV) : Prop :=
  ∃ f fd ps, FnOk P w K mg base (L2.CX P w) k f fd ps (spX mg n F) ∧ mg x = some (.ref f) ∧ PySem.W.keepIn K (.ref f) = true ∧ Binds K fd ps []
def CallOkKX (P : Program) (w : World) (K : PySem.W.Frag) (mg : Str → Option Value) (base : Heap) (x : Str) (k n : Nat) (F : List IV → M IV) (ks : List Str) (p : List Nat) : Prop :=
  ∃ f fd ps, FnOk P w K mg base (L2.CX P w) k f fd ps (spX mg n F) ∧ mg x = some (.ref f) ∧ PySem.W.keepIn K (.ref f) = true ∧ KwOk K fd ps ks p
end
/-- a call that lets exceptions through -/
def CallX (n : Nat) (F : List IV → M IV) (a : Env → M (List IV)) : Env → M IV := fun env => M.bind (a env) fun xs => if xs.length = n then F xs else stuck
section
variable {X : Cx} {W : ExW} {e : Expr} {es : List Expr} {ma : Env → M (List IV)} {pos p : Pos} {x : Str} {F : List IV → M IV} {k n : Nat}
/-- a call of a def that may raise, where it does not -/
theorem pei_callXn (C : CallOkX X.prog X.w X.K X.mg X.base x k n F) (hr : Room k X.A) (ha : PAI X W (e :: es) ma) (hg : Gl X x := by rfl) (hdb : (x == ("__debug__" : Str)) = false := by decide) (he : starEach (e :: es) X.env = (false, eval e X.env) :: starEach es X.env := by rfl)
    (hpl : (backTo pos (starEach es X.env)).any (·.1) = false := by rfl) : PEI X W (.Call (.Name x p) (e :: es) [] pos) (CallF n F ma) :=
  let ⟨_, _, _, FO, hm, hk, hb⟩ := C
  PE.weak (pe_call FO hr hg hm hk hb .nil passL ha hdb he hpl) fun σ H Q ⟨ι, h, env, R, S, r⟩ =>
    ⟨ι, h, env, R, S, (run_bind (rel1 := RVs) r).mono fun vs H1 ⟨ι1, h1, xs, R1, F1, rs, r1⟩ => by
      obtain ⟨hl, r1⟩ := run_if r1
      rw [List.append_nil]
      exact ⟨by rw [rs.length]; exact hl, ι1, h1, xs, R1, rs, (run_noex r1).w0⟩⟩
/-- .. in a def that lets it through -/
theorem pei_callX {E : XK} (C : CallOkX X.prog X.w X.K X.mg X.base x k n F) (hr : Room k X.A) (tk : Takes X (fun cls d _ H => E cls d H)) (ha : PAI X (WX X.mg E) (e :: es) ma) (hg : Gl X x := by rfl) (hdb : (x == ("__debug__" : Str)) = false := by decide) (he : starEach (e :: es) X.env = (false, eval e X.env) :: starEach es X.env := by rfl)
    (hpl : (backTo pos (starEach es X.env)).any (·.1) = false := by rfl) : PEI X (WX X.mg E) (.Call (.Name x p) (e :: es) [] pos) (CallX n F ma) :=
  let ⟨_, _, _, FO, hm, hk, hb⟩ := C
  PE.weak (pe_call (E := E) FO hr hg hm hk hb .nil (passes_call tk fun _ _ _ _ z => z) ha hdb he hpl) fun σ H Q ⟨ι, h, env, R, S, r⟩ =>
    ⟨ι, h, env, R, S, (run_bind (rel1 := RVs) r).mono fun vs H1 ⟨ι1, h1, xs, R1, F1, rs, r1⟩ => by
      obtain ⟨hl, r1⟩ := run_if r1
      rw [List.append_nil]
      exact ⟨by rw [rs.length]; exact hl, ι1, h1, xs, R1, rs, r1⟩⟩
/-- by keywords, where it does not raise -/
theorem pei_callKX {ks : List Str} {pm : List Nat} {kws : List Keyword} (C : CallOkKX X.prog X.w X.K X.mg X.base x k n F ks pm) (hr : Room k X.A) (hkw : PKI X W kws ma) (hg : Gl X x := by rfl) (hall : (backToKw pos (keywordEach kws X.env)).all (·.1.isSome) = true := by rfl) (hks : (backToKw pos (keywordEach kws X.env)).filterMap (·.1) = ks := by rfl)
    (hdb : (x == ("__debug__" : Str)) = false := by decide) (hpl : ((backTo pos (starEach [] X.env)).any (·.1) || (backToKw pos (keywordEach kws X.env)).any (·.1.isNone)) = false := by rfl) : PEI X W (.Call (.Name x p) [] kws pos) (CallK n F pm ma) := by
  obtain ⟨f, fd, ps, FO, hm, hk, hb⟩ := C
  refine ⟨fun pins s σ H Q I t => ?_⟩
  obtain ⟨ι, h, env, R, S, r⟩ := t
  refine PySem.wpAny_Call_Name_kw (ld_glob I hg hm ?_ hdb)
  refine PySem.W.callWith_KW0 (h₀ := X.base) I.ok.mod.kin hk hall ?_ hpl
  refine thn (hkw.run pos pins s σ H (fun zs H1 => spX X.mg n F (perm pm zs) H1 Q E0 ∧ zs.length = pm.length) I ⟨ι, h, env, R, S, (run_bind (rel1 := RVs) r).mono fun vs H1 ⟨ι1, h1, xs, R1, F1, rs, r1⟩ => ?_⟩) fun ws s2 ⟨zs, H2, I2, rz, q2, hz⟩ => ⟨I2.kIn, ?_⟩
  · obtain ⟨hl, r1⟩ := run_if r1
    exact ⟨⟨by rw [(rs.perm pm).length]; exact hl.1, ι1, h1, _, R1, rs.perm pm, (run_noex r1).w0⟩, by rw [rs.length]; exact hl.2⟩
  · rw [hks]
    have r2 := vals_perm rz pm
    have hl : (perm pm ws).length = ps.length := by rw [← r2.length]; exact FO.len _ _ _ _ q2
    refine wpAny_call (codeAny_mono (FO.run X.A X.stack s2 H2 ⟨[], ks.zip ws⟩ (perm pm ws) (perm pm zs) Q E0 hr I2.env0 (hb s2 ws I2.kIn (by rw [← rz.length]; exact hz)) r2 q2) fun r s' hq => ?_)
    cases r with
    | error e => exact passL pins σ H2 s2 e s' I2 hq
    | ok fl =>
      cases fl with
      | ret u => exact I2.after hq
      | next => exact False.elim hq
      | brk => exact False.elim hq
      | cont => exact False.elim hq
end
/-! ### an own class without fields -/
/-- what is known of the class that x names, over ValueError -/
structure Own (K : PySem.W.Frag) (mg : Str → Option Value) (x : Str) (C : Addr) : Prop where
  gC : mg x = some (.ref C)
  exc : PySem.W.excIn K C [.type "ValueError", .type "Exception", .type "BaseException", .type "object"] "ValueError.__new__" = true
  kC : PySem.W.keepIn K (.ref C) = true
  sb : PySem.W.subIn K (.ref C) (.type "BaseException") = some true
  ty : PySem.W.typeIn K (.ref C) = some (.type "type")
  te : PySem.W.exmOne K (.ref C) (.ref C) = some true
  is_ : ExcC K C
  ve : PySem.W.kitOne K (.ref C) (.type "ValueError") = some true
section
variable {X : Cx} {W : ExW} {x : Str} {C : Addr} {p pos pos' : Pos}
theorem pmk_bare (T : Own X.K X.mg x C) (hg : Gl X x) (hdb : (x == ("__debug__" : Str)) = false) : PMk X (.Call (.Name x p) [] [] pos) (fun _ H Q => Q (.ref C) none H) := fun pins s σ H Q I z => by
  refine wpAny_Call_Name_kw (ld_glob I hg T.gC ?_ hdb)
  refine PySem.W.callWith_K0 I.kIn T.kC ?_
  obtain ⟨_, _, _, _, _, _, _, _, _, _, _, _, _, _, _, _, _, hC, hN, hni, U⟩ := exc_obj I.kIn T.exc
  exact wpAny_call_exc_subT PySem.F.excBase_ValueError U hC hN hni (fun _ _ hm => mk_of I hm (raises_own T.sb T.ty) z (I.hok.gone hm.new)) (Nat.zero_le _)
def RaiseS (x : Str) : Env → M Fl := fun _ h => some (.ex ⟨x, []⟩, h)
theorem psi_raise0 {E : XK} (T : Own X.K X.mg x C) (hc : X.calm = true) (tk : Takes X (fun cls d _ H => E cls d H)) (hg : Gl X x := by rfl) (hdb : (x == ("__debug__" : Str)) = false := by decide) :
    PSI X (WX X.mg E) (.Raise (some (.Call (.Name x p) [] [] pos)) none pos') (RaiseS x) := PS.weak (ps_raise hc tk (pmk_bare T hg hdb)) fun D σ H ⟨ι, h, env, R, S, r⟩ => by
  have r' : ∀ ι' H', Rel ι' h H' → Fr ι H ι' H' → WX X.mg E ⟨x, []⟩ ι' h H' := r
  exact r' ι H R (Fr.refl _ _) C T.gC
end
/-! ### try -/
/-- a reading whose wish knows the slots -/
def tIs (Ws : L2.St → ExW) (m : Env → M IV) : TE := fun σ H Q => tI (Ws σ) m σ H Q
def PEIs (X : Cx) (Ws : L2.St → ExW) (e : Expr) (m : Env → M IV) : Prop := PE X e (tIs Ws m)
section
variable {X : Cx} {e a b c : Expr} {es : List Expr} {ma : Env → M (List IV)} {m n : Env → M IV} {t : Env → M Bool} {pos p : Pos} {x : Str} {F : List IV → M IV} {k nn : Nat} {Wk : L2.WX}
theorem peis_callX (C : CallOkX X.prog X.w X.K X.mg X.base x k nn F) (hr : Room k X.A) (tk : Takes X Wk) (ha : ∀ W, PAI X W (e :: es) ma) (hg : Gl X x := by rfl) (hdb : (x == ("__debug__" : Str)) = false := by decide) (he : starEach (e :: es) X.env = (false, eval e X.env) :: starEach es X.env := by rfl)
    (hpl : (backTo pos (starEach es X.env)).any (·.1) = false := by rfl) : PEIs X (fun σ => WX X.mg (WE Wk σ)) (.Call (.Name x p) (e :: es) [] pos) (CallX nn F ma) := by
  obtain ⟨_, _, _, FO, hm, hk, hb⟩ := C
  have ha' : PA X (e :: es) (fun σ H Q => tIA (WX X.mg (WE Wk σ)) ma σ H Q) := ⟨fun ps pins s σ H Q I q => (ha _).run ps pins s σ H Q I q⟩
  refine PE.weak (pe_callS (E := WE Wk) FO hr hg hm hk hb (fun σ => passAt tk σ) ha' hdb he hpl) fun σ H Q ⟨ι, h, env, R, S, r⟩ => ?_
  exact ⟨ι, h, env, R, S, (run_bind (rel1 := RVs) r).mono fun vs H1 ⟨ι1, h1, xs, R1, F1, rs, r1⟩ => by
    obtain ⟨hl, r1⟩ := run_if r1
    exact ⟨by rw [rs.length]; exact hl, ι1, h1, xs, R1, rs, r1⟩⟩
theorem peis_ifE {Ws : L2.St → ExW} (hc : ∀ W, PTI X W c t) (ha : PEIs X Ws a m) (hb : PEIs X Ws b n) : PEIs X Ws (.IfExp c a b pos) (IfE t m n) := by
  have hc' : PT X c (fun σ H Q => tIT (Ws σ) t σ H Q) := ⟨fun pins s σ H Q I q => (hc _).run pins s σ H Q I q⟩
  refine PE.weak (pe_ifExp hc' ha hb) fun σ H Q z => ?_
  obtain ⟨ι, h, env, R, S, r⟩ := tT_bind (k := fun b env => if b = true then m env else n env) (show tI (Ws σ) (IfE t m n) σ H Q from z)
  exact ⟨ι, h, env, R, S, r.mono fun b H1 ⟨ι1, h1, env1, R1, S1, r1⟩ => by
    cases b with
    | true => exact iteT ⟨ι1, h1, env1, R1, S1, r1⟩
    | false => exact iteF ⟨ι1, h1, env1, R1, S1, r1⟩⟩
end
/-- try: v = m / except x as n: c = mk  (v, n, c in slots iv, i, j) -/
def TryS (iv i j : Nat) (x : Str) (m mk : Env → M IV) : Env → M Fl := fun env h => match m env h with
  | some (.ok y, h1) => some (.ok (.nx (env.set iv (some y))), h1)
  | some (.ex e, h1) => if e.cls = x ∧ e.args.isEmpty = true then AsgS mk (TgN j) (env.set i none) h1 else none
  | none => none
end Iv
namespace Iv
open PySem L2 PyProof.Rows
variable [KL]
/-- the class that x names is an own one over ValueError, without fields -/
def OwnX (K : PySem.W.Frag) (mg : Str → Option Value) (x : Str) : Prop := ∃ C, Own K mg x C
section
variable {X : Cx} {W : ExW} {e : Expr} {es : List Expr} {ma : Env → M (List IV)} {pos p pos' : Pos} {x : Str} {F : List IV → M IV} {k n : Nat}
theorem psi_raiseE {E : XK} (T : OwnX X.K X.mg x) (hc : X.calm = true) (tk : Takes X (fun cls d _ H => E cls d H)) (hg : Gl X x := by rfl) (hdb : (x == ("__debug__" : Str)) = false := by decide) :
    PSI X (WX X.mg E) (.Raise (some (.Call (.Name x p) [] [] pos)) none pos') (RaiseS x) := let ⟨_, T⟩ := T; psi_raise0 T hc tk hg hdb
/-- as CallD, of a def that may raise, where it does not -/
theorem pei_callDX (C : CallOkX X.prog X.w X.K X.mg X.base x k n F) (hr : Room k X.A) (ha : PAI X W (e :: es) ma) (hg : Gl X x := by rfl) (hdb : (x == ("__debug__" : Str)) = false := by decide) (he : starEach (e :: es) X.env = (false, eval e X.env) :: starEach es X.env := by rfl)
    (hpl : (backTo pos (starEach es X.env)).any (·.1) = false := by rfl) : PEI X W (.Call (.Name x p) (e :: es) [] pos) (CallD n F ma) :=
  let ⟨_, _, _, FO, hm, hk, hb⟩ := C
  PE.weak (pe_call FO hr hg hm hk hb .nil passL ha hdb he hpl) fun σ H Q ⟨ι, h, env, R, S, r⟩ =>
    ⟨ι, h, env, R, S, (run_bind (rel1 := RVs) r).mono fun vs H1 ⟨ι1, h1, xs, R1, F1, rs, r1⟩ => by
      rw [List.append_nil]
      by_cases hp : pureIs xs = true
      · rw [if_pos hp] at r1
        obtain ⟨q0, ι2, h2, ys, q1, q2, q3⟩ := callP_run (E := E0) R1 rs r1
        exact ⟨q0, ι2, h2, ys, q1, q2, q3.w0⟩
      · rw [if_neg hp] at r1
        obtain ⟨hl, r2⟩ := run_if r1
        exact ⟨by rw [rs.length]; exact hl, ι1, h1, xs, R1, rs, (run_noex r2).w0⟩⟩
end
end Iv
set_option Elab.async false
set_option linter.all false
set_option maxRecDepth 100000
set_option maxHeartbeats 2000000
set_option autoImplicit false
namespace Iv
open PySem L2 PyProof.Rows
variable [KL]
section
variable {ι : List Addr} {H : Hp} {σ : L2.St} {env : Env}
theorem set_get {α : Type} {l : List α} {i j : Nat} {a : α} (h : i ≠ j) : (l.set i a)[j]? = l[j]? := List.getElem?_set_ne h
/-- behind an except suite: what stood in its slot is gone -/
theorem RSt.behind {i j : Nat} {va vl : V} {x : IV} (S : RSt ι H σ env) (hij : i ≠ j) (rv : RV ι H vl x) : RSt ι H (((σ.set i (some va)).set j (some vl)).set i none) ((env.set i none).set j (some x)) := by
  refine ⟨by simp [S.1], fun k y e => ?_⟩
  by_cases hk : k = j
  · subst hk
    have hl : k < env.length := by have := (List.getElem?_eq_some_iff.mp e).1; simpa using this
    rw [List.getElem?_set_self (by simpa using hl)] at e
    cases e
    refine ⟨vl, ?_, rv⟩
    rw [set_get hij, List.getElem?_set_self (by rw [List.length_set, S.1]; exact hl)]
  · rw [set_get (Ne.symm hk)] at e
    by_cases hi : k = i
    · subst hi
      have hl : k < env.length := by have := (List.getElem?_eq_some_iff.mp e).1; simpa using this
      rw [List.getElem?_set_self hl] at e
      cases e
    · rw [set_get (Ne.symm hi)] at e
      obtain ⟨v, e1, r1⟩ := S.2 k y e
      exact ⟨v, by rw [set_get (Ne.symm hi), set_get (Ne.symm hk), set_get (Ne.symm hi)]; exact e1, r1⟩
end
theorem ty_VE {X : Cx} {p : Pos} (hm : X.mg "ValueError" = none) (hg : Gl X "ValueError" := by rfl) : PE X (.Name "ValueError" p) (tC (V.ty "ValueError")) := pe_bltn (u := .type "ValueError") hg hm (by decide +kernel) rfl
section
variable {X : Cx} {W : ExW} {x v n c s : Str} {C : Addr} {e : Expr} {m : Env → M IV} {pos pos' np pv pe pc ps p1 p2 p3 p4 p5 p6 : Pos}
/-- the suite: c = ['..', isinstance(n, ValueError)] -/
def ts2 (C : Addr) (i j : Nat) (s : Str) : Addr → Value → Option Addr → TS := fun a cls d D σ H => cls = .ref C ∧ d = none ∧ (∃ σ0 : L2.St, σ = σ0.set i (some (.ref a))) ∧ ∀ l, H l = none → D.nx (σ.set j (some (.ref l))) (upd H l (.lst [.str s, .bl true]))
theorem psi_try2 (iv i j : Nat) {ks : Nat} (T : Own X.K X.mg x C) (hN : X.N.Nodup) (hmI : X.mg "isinstance" = none) (hmV : X.mg "ValueError" = none)
    (he : ∀ (Wk : L2.WX) (pn : List (Addr × Obj)) (xe : Value → Shared → Prop), Takes (X.tr pn xe) Wk → PEIs (X.tr pn xe) (fun σ => WX X.mg (WE Wk σ)) e m)
    (hs : X.stack = X.env :: X.outer := by rfl) (hf : X.env.frame = some X.env.locals := by rfl) (hiv : X.N[iv]? = some v := by rfl) (hi : X.N[i]? = some n := by rfl) (hj : X.N[j]? = some c := by rfl) (hij : i ≠ j := by decide)
    (hlv : X.env.scope.names.lookup v = some .local := by rfl) (hln : X.env.scope.names.lookup n = some .local := by rfl) (hlc : X.env.scope.names.lookup c = some .local := by rfl) (hkn : X.env.kindOf n = some .local := by rfl)
    (hg : Gl X x := by rfl) (hgI : Gl X "isinstance" := by rfl) (hgV : Gl X "ValueError" := by rfl) (hdb : (x == ("__debug__" : Str)) = false := by decide) (hdn : (n == ("__debug__" : Str)) = false := by decide) (hcn : (n == ("__classdict__" : Str)) = false := by decide)
    (hsw : swapsWith e (some (.Name v pv)) pe.line X.env = pure false := by rfl) (hsw2 : swapsWith (.List [.Constant (.str s) ks ps, .Call (.Name "isinstance" p1) [.Name n p2, .Name "ValueError" p3] [] p4] p5) (some (.Name c pc)) p6.line X.env = pure false := by rfl)
    (hst : starEach [.Constant (.str s) ks ps, .Call (.Name "isinstance" p1) [.Name n p2, .Name "ValueError" p3] [] p4] X.env = (false, eval (.Constant (.str s) ks ps) X.env) :: starEach [.Call (.Name "isinstance" p1) [.Name n p2, .Name "ValueError" p3] [] p4] X.env := by rfl)
    (hst2 : starEach [.Call (.Name "isinstance" p1) [.Name n p2, .Name "ValueError" p3] [] p4] X.env = (false, eval (.Call (.Name "isinstance" p1) [.Name n p2, .Name "ValueError" p3] [] p4) X.env) :: starEach [] X.env := by rfl)
    (hst3 : starEach [.Name n p2, .Name "ValueError" p3] X.env = (false, eval (.Name n p2) X.env) :: starEach [.Name "ValueError" p3] X.env := by rfl)
    (hst4 : starEach [.Name "ValueError" p3] X.env = (false, eval (.Name "ValueError" p3) X.env) :: starEach [] X.env := by rfl)
    (hpl : (backTo p4 (starEach [.Name "ValueError" p3] X.env)).any (·.1) = false := by rfl) :
    PSI X W (.Try [.Assign [.Name v pv] e pe] [.ExceptHandler (some (.Name x np)) (some n) [.Assign [.Name c pc] (.List [.Constant (.str s) ks ps, .Call (.Name "isinstance" p1) [.Name n p2, .Name "ValueError" p3] [] p4] p5) p6] pos'] [] [] pos)
      (TryS iv i j x m (Lst (Cons (Cst (.str s)) (Cons (Cst (.bl true)) Nil)))) := by
  refine PS.weak (ps_try_as (i := i) (c := .ref C) (tb := fun Wk => tAsg (tIs (fun σ => WX X.mg (WE Wk σ)) m) (gName iv)) (ts := ts2 C i j s) hs hf hN hi hkn ⟨hg, hdb, .inl T.gC⟩ takes0
    (fun Wk pn xe tk _ => pss_one (ps_set (X := X.tr pn xe) hN hiv (.inl hlv) (he Wk pn xe tk) hsw (.inr hlv)))
    (fun a oe cls d pn hz hfs => ⟨fun pins s' σ H D I ⟨e1, e2, ⟨σ0, e3⟩, q⟩ => ?_⟩)) fun D σ H ⟨ι, h, env, R, S, r⟩ => ?_
  · subst e1; subst e2
    have hl : i < σ0.length := by
      have h1 := I.len
      rw [e3, List.length_set] at h1
      rw [h1]; exact (List.getElem?_eq_some_iff.mp hi).1
    have hget : σ[i]? = some (some (.ref a)) := by rw [e3, List.getElem?_set_self hl]
    refine (pss_one (ps_set (X := X.suite a ((a, oe) :: pn)) (i := j) hN hj (.inl hlc) (pe_lst (pa_cons pe_str (pa_cons (pe_callB (call_isE T.is_ hz hfs) hgI hmI (by decide +kernel) (pa_cons (pe_var (i := i) hi (.inl hln) hdn hcn) (pa_cons (ty_VE hmV hgV) pa_nil hst4) hst3) (by decide) (by decide) hst3 hpl) pa_nil hst2) hst)) hsw2 (.inr hlc))).run pins s' σ H D I ?_
    exact ⟨.ref a, hget, V.ty "ValueError", .type "ValueError", true, rfl, fun u r => r, T.ve, (by show 2 ≤ sizeLine; rw [sizeLine_eq]; decide), fun l hl => q l hl⟩
  · show tI (WX X.mg (WE (wAs X.K (.ref C) i (ts2 C i j s) (fun _ _ _ _ => False) D) σ)) m σ H fun y H1 => D.nx (σ.set iv (some y)) H1
    refine ⟨ι, h, env, R, S, ?_⟩
    have r0 : Run W RFl (TryS iv i j x m (Lst (Cons (Cst (.str s)) (Cons (Cst (.bl true)) Nil))) env h) ι H (D2Q D) := r
    unfold TryS at r0
    generalize m env h = o at r0 ⊢
    match o, r0 with
    | none, r0 => exact r0
    | some (.ok y, h1), r0 =>
      intro ι1 H1 w R1 F1 rw
      exact r0 ι1 H1 (.nx (σ.set iv (some w))) R1 F1 (.nx ((S.mono R F1).set rw))
    | some (.ex ⟨cls, args⟩, h1), r0 =>
      intro ι1 H1 R1 F1
      have r1 : Run W RFl (if cls = x ∧ args.isEmpty = true then AsgS (Lst (Cons (Cst (.str s)) (Cons (Cst (.bl true)) Nil))) (TgN j) (env.set i none) h1 else none) ι H (D2Q D) := r0
      split at r1
      · rename_i hc
        obtain ⟨rfl, ha⟩ := hc
        cases args with
        | cons _ _ => cases ha
        | nil =>
          intro C' hC'
          have ec := T.gC.symm.trans hC'
          cases ec
          have em : AsgS (Lst (Cons (Cst (.str s)) (Cons (Cst (.bl true)) Nil))) (TgN j) (env.set i none) h1 = some (.ok (.nx ((env.set i none).set j (some (.ref h1.length)))), h1 ++ [.lst [.str s, .bl true]]) := by
            have el : 2 ≤ lim := by rw [lim_eq]; decide
            have q : Lst (Cons (Cst (.str s)) (Cons (Cst (.bl true)) Nil)) (env.set i none) h1 = some (.ok (.ref h1.length), h1 ++ [.lst [.str s, .bl true]]) := by
              show mkL [.str s, .bl true] h1 = _
              unfold mkL
              rw [if_pos (show ([IV.str s, IV.bl true]).length ≤ lim from el)]
            unfold AsgS M.bind
            simp only [q]
            rfl
          rw [em] at r1
          refine ⟨true, T.te, fun _ a ha => ⟨rfl, rfl, ⟨σ, rfl⟩, fun l hl => ?_⟩, fun z => nomatch z⟩
          have P := R1.push (u := .lst [.str s, .bl true]) hl ⟨[.str s, .bl true], upd_same, .cons (.str s) (.cons (.bl true) .nil)⟩
          have F2 : Fr ι1 H1 (ι1 ++ [l]) (upd H1 l (.lst [.str s, .bl true])) := fr_push hl
          refine r1 (ι1 ++ [l]) _ (.nx _) P (F1.trans F2) (.nx (((S.mono R F1).mono R1 F2).behind hij (.ref ?_)))
          rw [← R1.len, List.getElem?_append_right (Nat.le_refl _), Nat.sub_self]; rfl
      · exact r1.elim
theorem psi_try2E (iv i j : Nat) {ks : Nat} (T : OwnX X.K X.mg x) (hN : X.N.Nodup) (hmI : X.mg "isinstance" = none) (hmV : X.mg "ValueError" = none)
    (he : ∀ (Wk : L2.WX) (pn : List (Addr × Obj)) (xe : Value → Shared → Prop), Takes (X.tr pn xe) Wk → PEIs (X.tr pn xe) (fun σ => WX X.mg (WE Wk σ)) e m)
    (hs : X.stack = X.env :: X.outer := by rfl) (hf : X.env.frame = some X.env.locals := by rfl) (hiv : X.N[iv]? = some v := by rfl) (hi : X.N[i]? = some n := by rfl) (hj : X.N[j]? = some c := by rfl) (hij : i ≠ j := by decide)
    (hlv : X.env.scope.names.lookup v = some .local := by rfl) (hln : X.env.scope.names.lookup n = some .local := by rfl) (hlc : X.env.scope.names.lookup c = some .local := by rfl) (hkn : X.env.kindOf n = some .local := by rfl)
    (hg : Gl X x := by rfl) (hgI : Gl X "isinstance" := by rfl) (hgV : Gl X "ValueError" := by rfl) (hdb : (x == ("__debug__" : Str)) = false := by decide) (hdn : (n == ("__debug__" : Str)) = false := by decide) (hcn : (n == ("__classdict__" : Str)) = false := by decide)
    (hsw : swapsWith e (some (.Name v pv)) pe.line X.env = pure false := by rfl) (hsw2 : swapsWith (.List [.Constant (.str s) ks ps, .Call (.Name "isinstance" p1) [.Name n p2, .Name "ValueError" p3] [] p4] p5) (some (.Name c pc)) p6.line X.env = pure false := by rfl)
    (hst : starEach [.Constant (.str s) ks ps, .Call (.Name "isinstance" p1) [.Name n p2, .Name "ValueError" p3] [] p4] X.env = (false, eval (.Constant (.str s) ks ps) X.env) :: starEach [.Call (.Name "isinstance" p1) [.Name n p2, .Name "ValueError" p3] [] p4] X.env := by rfl)
    (hst2 : starEach [.Call (.Name "isinstance" p1) [.Name n p2, .Name "ValueError" p3] [] p4] X.env = (false, eval (.Call (.Name "isinstance" p1) [.Name n p2, .Name "ValueError" p3] [] p4) X.env) :: starEach [] X.env := by rfl)
    (hst3 : starEach [.Name n p2, .Name "ValueError" p3] X.env = (false, eval (.Name n p2) X.env) :: starEach [.Name "ValueError" p3] X.env := by rfl)
    (hst4 : starEach [.Name "ValueError" p3] X.env = (false, eval (.Name "ValueError" p3) X.env) :: starEach [] X.env := by rfl)
    (hpl : (backTo p4 (starEach [.Name "ValueError" p3] X.env)).any (·.1) = false := by rfl) :
    PSI X W (.Try [.Assign [.Name v pv] e pe] [.ExceptHandler (some (.Name x np)) (some n) [.Assign [.Name c pc] (.List [.Constant (.str s) ks ps, .Call (.Name "isinstance" p1) [.Name n p2, .Name "ValueError" p3] [] p4] p5) p6] pos'] [] [] pos)
      (TryS iv i j x m (Lst (Cons (Cst (.str s)) (Cons (Cst (.bl true)) Nil)))) :=
  let ⟨_, T⟩ := T; psi_try2 iv i j T hN hmI hmV he hs hf hiv hi hj hij hlv hln hlc hkn hg hgI hgV hdb hdn hcn hsw hsw2 hst hst2 hst3 hst4 hpl
end
end Iv
namespace Iv
open PySem L2 PyProof.Rows
variable [KL]
theorem callKX_of {P : Program} {w : World} {K : PySem.W.Frag} {mg : Str → Option Value} {base : Heap} {x : Str} {st : Stmt} {ps ks : List Str} {p : List Nat} {k n : Nat} {F : List IV → M IV} (T : TopFn K mg x st ps) (hk : TopK K mg x st ps ks p)
    (h : ∀ f fd, Fun K x x st f fd → FnOk P w K mg base (L2.CX P w) k f fd ps (spX mg n F)) : CallOkKX P w K mg base x k n F ks p :=
  let ⟨f, fd, Fn, m, _⟩ := T; ⟨f, fd, ps, h f fd Fn, m, Fn.kp, hk f fd Fn⟩
end Iv
namespace Iv
open PySem L2 PyProof.Rows
/-- an own class, by what the head shows of it -/
theorem own_of {K : PySem.W.Frag} {h : Heap} {mg : Str → Option Value} (X : K.In h) (G : h.Ns mainGlobals mg) {x : Str} {C : Addr} (a : PySem.W.nsIn K mainGlobals x = some (some (.ref C)))
    (xc : PySem.W.excIn K C [.type "ValueError", .type "Exception", .type "BaseException", .type "object"] "ValueError.__new__" = true) (kp : PySem.W.keepIn K (.ref C) = true) (sb : PySem.W.subIn K (.ref C) (.type "BaseException") = some true) (ty : PySem.W.typeIn K (.ref C) = some (.type "type"))
    (su : PySem.W.subIn K (.ref C) (.ref C) = some true) (hg : PySem.W.findIn K (.ref C) "__getattribute__" = some (some (.builtin "BaseException.__getattribute__"))) (hk : PySem.W.findIn K (.ref C) "__getattr__" = some none) (hd : PySem.W.hasDictIn K C = true)
    (ha : PySem.W.findIn K (.ref C) "__class__" = some (some (.builtin "object.__class__"))) (hn : PySem.W.specialIn K (.builtin "object.__class__") "__get__" = some (some (.builtin "getset_descriptor.__get__"))) (ht : PySem.W.takesIn K (.builtin "object.__class__") = some true)
    (hm : PySem.W.mroIn K C (.type "object") = some true) (ve : PySem.W.subIn K (.ref C) (.type "ValueError") = some true) : OwnX K mg x :=
  ⟨C, PySem.W.mg_of X G a, xc, kp, sb, ty, PySem.W.exm_ref sb hd ty su, ⟨hg, hk, sb, hd, ha, hn, ht, hm⟩, by
    have km : PySem.W.kitMeta "ValueError" = true := by decide +kernel
    show (if (Value.ref C == Value.type "ValueError") = true then some true else if PySem.W.kitMeta "ValueError" = true then PySem.W.subIn K (.ref C) (.type "ValueError") else none) = some true
    rw [if_pos km, ve]
    split <;> rfl⟩
end Iv
set_option Elab.async false
set_option linter.all false
set_option maxRecDepth 100000
set_option maxHeartbeats 2000000
set_option autoImplicit false
/-! d.get(k, x) -/
namespace Iv
open PySem L2 PyProof.Rows
variable [KL]
def chkD : IV → M Unit
  | .ref n => fun h => match h[n]? with
    | some (.dic _) => some (.ok (), h)
    | some (.fdc _) => some (.ok (), h)
    | _ => none
  | _ => stuck
def getI : IV → IV → IV → M IV
  | .ref n, y, z => fun h => match h[n]?, keyI y with
    | some (.dic kvs), some k => some (.ok ((valI kvs k).getD z), h)
    | some (.fdc kvs), some k => some (.ok ((valI kvs k).getD z), h)
    | _, _ => none
  | _, _, _ => stuck
def GetE (mo ma mb : Env → M IV) : Env → M IV := fun env => M.bind (mo env) fun x => M.bind (chkD x) fun _ => M.bind (ma env) fun y => M.bind (mb env) fun z => getI x y z
section
variable {X : Cx} {W : ExW} {e f o : Expr} {ma mb mo : Env → M IV} {apos pos : Pos}
theorem chkD_ok {ι : List Addr} {h : IH} {H : Hp} {v : V} {y : IV} {k : Unit → M IV} {Q : VK} (R : Rel ι h H) (rv : RV ι H v y) (r : Run W RV (M.bind (chkD y) k h) ι H Q) : ∃ a, v = .ref a ∧ IsD H a ∧ Run W RV (k () h) ι H Q := by
  cases rv with
  | @ref n a ea =>
    unfold M.bind chkD at r
    cases q : h[n]? with
    | none => simp only [q] at r; exact r.elim
    | some ob =>
      cases ob with
      | lst _ => simp only [q] at r; exact r.elim
      | dic kvs =>
        simp only [q] at r
        obtain ⟨a', ks, q1, _, q2, rk⟩ := R.dic (.ref ea) q
        cases q1
        exact ⟨_, rfl, .inl ⟨ks, .inl q2⟩, r⟩
      | fdc kvs =>
        simp only [q] at r
        obtain ⟨a', o, ks, q1, _, q2, rk⟩ := R.fdc (.ref ea) q
        cases q1
        exact ⟨_, rfl, .inl ⟨ks, .inr ⟨o, q2⟩⟩, r⟩
  | _ => exact r.elim
theorem getI_ok {ι : List Addr} {h : IH} {H : Hp} {v w u : V} {x y z : IV} {Q : VK} (R : Rel ι h H) (rv : RV ι H v x) (rw : RV ι H w y) (ru : RV ι H u z) (r : Run W RV (getI x y z h) ι H Q) : ∃ a o, v = .ref a ∧ DGet H a w o ∧ Q (o.getD u) H := by
  cases rv with
  | @ref n a ea =>
    have r' : Run W RV (match h[n]?, keyI y with
      | some (.dic kvs), some k => some (Out.ok ((valI kvs k).getD z), h)
      | some (.fdc kvs), some k => some (.ok ((valI kvs k).getD z), h)
      | _, _ => none) ι H Q := r
    split at r'
    · rename_i kvs kk e1 e2
      obtain ⟨a', ks, q1, _, q2, rk⟩ := R.dic (.ref ea) e1
      cases q1
      refine ⟨_, valV ks kk, rfl, by rw [key_ok rw e2]; exact DGet.k q2, ?_⟩
      rcases rk.val kk with ⟨z1, z2⟩ | ⟨u1, x1, z1, z2, ru1⟩
      · rw [z2] at r'; rw [z1]; exact run_pure (x := z) r' R ru
      · rw [z2] at r'; rw [z1]; exact run_pure (x := x1) r' R ru1
    · rename_i kvs kk e1 e2
      obtain ⟨a', ob, ks, q1, _, q2, rk⟩ := R.fdc (.ref ea) e1
      cases q1
      refine ⟨_, valV ks kk, rfl, by rw [key_ok rw e2]; exact .inl ⟨ks, kk, .inr ⟨ob, q2⟩, rfl, rfl⟩, ?_⟩
      rcases rk.val kk with ⟨z1, z2⟩ | ⟨u1, x1, z1, z2, ru1⟩
      · rw [z2] at r'; rw [z1]; exact run_pure (x := z) r' R ru
      · rw [z2] at r'; rw [z1]; exact run_pure (x := x1) r' R ru1
    · exact r'.elim
  | _ => exact r.elim
theorem pei_get (hu : X.A.units + 65 < cLine) (ho : PEI X W o mo) (ha : PEI X W e ma) (hb : PEI X W f mb) (m : M2 X o "get" apos e f pos := by exact ⟨rfl, rfl, rfl, rfl⟩) : PEI X W (.Call (.Attribute o "get" apos) [e, f] [] pos) (GetE mo ma mb) :=
  PE.weak (pe_dget2 (by omega) ho ha hb m) fun σ H Q ⟨ι, h, env, R, S, r⟩ => by
    refine ⟨ι, h, env, R, S, (run_bind (rel1 := RV) r).mono fun v H1 ⟨ι1, h1, x, R1, F1, rv, r1⟩ => ?_⟩
    obtain ⟨a, ea, d, r1⟩ := chkD_ok R1 rv r1
    refine ⟨a, ea, d, ?_⟩
    refine ⟨ι1, h1, env, R1, S.mono R F1, (run_bind (rel1 := RV) r1).mono fun w H2 ⟨ι2, h2, y, R2, F2, rw, r2⟩ => ?_⟩
    refine ⟨ι2, h2, env, R2, (S.mono R F1).mono R1 F2, (run_bind (rel1 := RV) r2).mono fun u H3 ⟨ι3, h3, z, R3, F3, ru, r3⟩ => ?_⟩
    obtain ⟨a2, o, e2, d2, q⟩ := getI_ok R3 (R2.mono F3 (R1.mono F2 rv)) (R2.mono F3 rw) ru r3
    cases ea
    cases e2
    exact ⟨o, d2, q⟩
/-- d.get(k) -/
def GetE1 (mo ma : Env → M IV) : Env → M IV := fun env => M.bind (mo env) fun x => M.bind (chkD x) fun _ => M.bind (ma env) fun y => getI x y .non
theorem pei_get1 (hu : X.A.units + 65 < cLine) (ho : PEI X W o mo) (ha : PEI X W e ma) (m : M1 X o "get" apos e pos := by exact ⟨rfl, rfl, rfl, rfl⟩) : PEI X W (.Call (.Attribute o "get" apos) [e] [] pos) (GetE1 mo ma) :=
  PE.weak (pe_dget1 (by omega) ho ha m) fun σ H Q ⟨ι, h, env, R, S, r⟩ => by
    refine ⟨ι, h, env, R, S, (run_bind (rel1 := RV) r).mono fun v H1 ⟨ι1, h1, x, R1, F1, rv, r1⟩ => ?_⟩
    obtain ⟨a, ea, d, r1⟩ := chkD_ok R1 rv r1
    refine ⟨a, ea, d, ?_⟩
    refine ⟨ι1, h1, env, R1, S.mono R F1, (run_bind (rel1 := RV) r1).mono fun w H2 ⟨ι2, h2, y, R2, F2, rw, r2⟩ => ?_⟩
    obtain ⟨a2, o, e2, d2, q⟩ := getI_ok R2 (R1.mono F2 rv) rw .non r2
    cases ea
    cases e2
    exact ⟨o, d2, q⟩
end
end Iv
set_option Elab.async false
set_option linter.all false
set_option maxRecDepth 100000
set_option maxHeartbeats 2000000
set_option autoImplicit false
/-! min(.., default=..) -/
namespace Iv
open PySem L2 PyProof.Rows
variable [KL]
variable {X : Cx} {W : ExW} {e e2 o : Expr} {es : List Expr} {ma : Env → M (List IV)} {m n mo : Env → M IV} {pos p apos : Pos} {ι : List Addr} {h : IH} {H : Hp}
def minDM : List IV → IV → M IV
  | [.ref n], d => fun h => match h[n]? with
    | some (.lst xs) => match ints? xs with
      | some [] => some (.ok d, h)
      | some (i :: is) => some (.ok (.int (minL (i :: is))), h)
      | none => none
    | _ => none
  | _, _ => stuck
theorem minL_fold (n : Int) (r : List Int) : r.foldl min n = minL (n :: r) := by
  have f : (fun a b : Int => if b < a then b else a) = min := by
    funext a b
    rcases Int.lt_or_le b a with h | h
    · rw [if_pos h]; omega
    · rw [if_neg (by omega)]; omega
  unfold minL
  rw [f, List.foldl_cons]
  show _ = r.foldl min (min n n)
  rw [Int.min_self]
def rMinDf (K : PySem.W.Frag) : List V → List V → Hp → VK → Prop := fun xs zs H Q => ∃ (a : Addr) (ns : List Int) (d : V), xs = [.ref a] ∧ zs = [d] ∧ SqL K H a (ns.map V.int) ∧ (ns = [] → Q d H) ∧ ∀ n r, ns = n :: r → Q (.int (minL (n :: r))) H
theorem call_minDf (hc : X.calm = true) (hu : X.A.units + 65 < cLine) : CallRK X (.builtin "min") ["default"] (rMinDf X.K) := by
  intro pins s σ H xs zs us ws Q I r1 r2 hh
  obtain ⟨a, ns, d, rfl, rfl, hs, q0, q1⟩ := hh
  obtain ⟨its, rv, hl, _⟩ := I.list hs
  rw [Vals.ref1 r1]
  cases r2 with
  | cons rd rn =>
    rename_i dv _
    cases rn
    obtain ⟨as, ra⟩ := reads_ints s.heap rv
    have ra' : ReadsAll s.heap its.toArray.toList (ns.map PyData.int) as := by simpa using ra
    show wpAny _ _ (call (.builtin "min") [.ref a] [(Str.ofString "default", dv)]) _ _ _
    refine PySem.W.min_list_default (I.ok.hd hc) hl.isList ra' ?_ ?_ (fun e h' tk k => ⟨d, H, I.kept k, rd, q0 (List.map_eq_nil_iff.mp e)⟩) fun y ys i v h' tk bs e hi r k => ?_
    · refine ⟨fun x hx z hz => ?_, fun x hx => ?_⟩
      · obtain ⟨i, _, rfl⟩ := List.mem_map.mp hx
        obtain ⟨j, _, rfl⟩ := List.mem_map.mp hz
        simp [PySem.W.alike]
      · obtain ⟨i, _, rfl⟩ := List.mem_map.mp hx
        exact fun z => nomatch z
    · rw [depth_ints]; omega
    · cases ns with
      | nil => cases e
      | cons n nr =>
        rw [List.map_cons] at e
        injection e with e1 e2
        subst e1; subst e2
        rw [PySem.W.minD_ints, minL_fold] at r
        cases r with
        | int _ t => exact ⟨.int _, H, I.kept k, ⟨t, rfl⟩, q1 n nr rfl⟩
def MinDf (a : Env → M (List IV)) (d : Env → M IV) : Env → M IV := fun env => M.bind (a env) fun xs => M.bind (d env) fun y => minDM xs y
theorem pei_minDf (hc : X.calm = true) (hu : X.A.units + 65 < cLine) (hm : X.mg "min" = none) (ha : PAI X W [e] ma) (hd : PEI X W e2 n) {kpos : Pos} (hg : Gl X "min" := by rfl)
    (he : backTo pos (starEach [e] X.env) = (false, eval e X.env) :: backTo pos (starEach [] X.env) := by rfl) (hpl : (backTo pos (starEach [e] X.env)).any (·.1) = false := by rfl)
    (hall : (backToKw pos (keywordEach [⟨some ("default" : Str), e2, kpos⟩] X.env)).all (·.1.isSome) = true := by rfl) (hnone : (backToKw pos (keywordEach [⟨some ("default" : Str), e2, kpos⟩] X.env)).any (·.1.isNone) = false := by rfl) (hks : (backToKw pos (keywordEach [⟨some ("default" : Str), e2, kpos⟩] X.env)).filterMap (·.1) = [("default" : Str)] := by rfl) :
    PEI X W (.Call (.Name "min" p) [e] [⟨some ("default" : Str), e2, kpos⟩] pos) (MinDf ma n) := by
  refine PE.weak (pe_callBK (call_minDf hc hu) hg hm (by decide +kernel) ha (pki_cons hd pki_nil) (by decide) (by decide) he hpl hall hnone hks) fun σ H Q ⟨ι, h, env, R, S, r⟩ => ?_
  refine ⟨ι, h, env, R, S, (run_bind (rel1 := RVs) r).mono fun vs H1 ⟨ι1, h1, xs, R1, F1, rs, r1⟩ => ?_⟩
  refine ⟨ι1, h1, env, R1, S.mono R F1, ?_⟩
  have r2 : Run W RV (M.bind (n env) (fun y => minDM xs y) h1) ι1 H1 Q := r1
  have r3 : Run W RVs (Cons n Nil env h1) ι1 H1 fun zs H2 => ∃ ι2 h2 y v, Rel ι2 h2 H2 ∧ Fr ι1 H1 ι2 H2 ∧ zs = [v] ∧ RV ι2 H2 v y ∧ Run W RV (minDM xs y h2) ι2 H2 Q := by
    have q := run_bind (rel1 := RV) r2
    unfold Cons
    unfold M.bind
    generalize n env h1 = o at q ⊢
    match o, q with
    | none, q => exact q
    | some (.ex _, _), q => exact q
    | some (.ok y, h2), q =>
      intro ι2 H2 zs R2 F2 rz
      cases rz with
      | cons rv rn =>
        cases rn
        obtain ⟨ι3, h3, y3, R3, F3, rv3, r4⟩ := q ι2 H2 _ R2 F2 rv
        exact ⟨ι3, h3, y3, _, R3, F3, rfl, rv3, r4⟩
  refine r3.mono fun zs H2 ⟨ι2, h2, y, v, R2, F2, ez, rv, r4⟩ => ?_
  subst ez
  have rs2 := R1.monos F2 rs
  cases rs2 with
  | nil => exact r4.elim
  | @cons w x _ _ rx rr =>
    cases rr with
    | cons _ _ => cases rx <;> exact r4.elim
    | nil =>
      cases rx with
      | @ref k a ea =>
        have r5 : Run W RV (match h2[k]? with
          | some (.lst xs) => match ints? xs with
            | some [] => some (.ok y, h2)
            | some (i :: is) => some (.ok (.int (minL (i :: is))), h2)
            | none => none
          | _ => none) ι2 H2 Q := r4
        split at r5
        · rename_i ys e1
          obtain ⟨a', vs', z1, _, z2, rs3⟩ := R2.lst (.ref ea) e1
          cases z1
          split at r5
          · rename_i e3
            have := ints?_eq e3
            subst this
            have ev := rs3.ints
            subst ev
            exact ⟨_, [], v, rfl, rfl, sq_of z2, fun _ => run_pure (x := y) r5 R2 rv, fun _ _ z => nomatch z⟩
          · rename_i i is e3
            have := ints?_eq e3
            subst this
            have ev := rs3.ints
            subst ev
            exact ⟨_, i :: is, v, rfl, rfl, sq_of z2, (fun z => nomatch z), fun n' r' z => by cases z; exact run_pure (x := IV.int _) r5 R2 (.int _)⟩
          · exact r5.elim
        · exact r5.elim
      | _ => exact r4.elim
end Iv
set_option Elab.async false
set_option linter.all false
set_option maxRecDepth 100000
set_option maxHeartbeats 2000000
set_option autoImplicit false
/-! objects of own classes of errors as values: X(), isinstance of them -/
namespace Iv
open PySem L2 PyProof.Rows
variable [KL]
/-- what is known of such a class -/
structure ExF (K : PySem.W.Frag) (D : Addr) : Prop where
  is_ : ExcC K D
  tup : PySem.W.kitOne K (.ref D) (.type "tuple") = some false
  str : PySem.W.kitOne K (.ref D) (.type "str") = some false
/-- what the written part allows -/
structure KLOk (K : PySem.W.Frag) : Prop where
  l : ∀ a vs H, KL.p a vs → SqL K H a vs
  x : ∀ D, KL.ex D ↔ ExF K D
def OwnV (K : PySem.W.Frag) (mg : Str → Option Value) (x : Str) : Prop := ∃ C, Own K mg x C ∧ ExF K C
def NewX : Env → M IV := fun _ h => some (.ok .exo, h)
section
variable {X : Cx} {W : ExW} {x : Str} {e c1 : Expr} {m : Env → M IV} {p pos : Pos}
theorem pei_bare (T : OwnV X.K X.mg x) (hk : KLOk X.K) (hg : Gl X x := by rfl) (hdb : (x == ("__debug__" : Str)) = false := by decide) : PEI X W (.Call (.Name x p) [] [] pos) NewX := ⟨fun pins s σ H Q I ⟨ι, h, env, R, S, r⟩ => by
  obtain ⟨C, T, F⟩ := T
  refine wpAny_Call_Name_kw (ld_glob I hg T.gC ?_ hdb)
  refine PySem.W.callWith_K0 I.kIn T.kC ?_
  obtain ⟨_, _, _, _, _, _, _, _, _, _, _, _, _, _, _, _, _, hC, hN, hni, U⟩ := exc_obj I.kIn T.exc
  refine wpAny_call_exc_subT PySem.F.excBase_ValueError U hC hN hni (fun h' e hm => ?_) (Nat.zero_le _)
  have hn : H e = none := I.hok.gone hm.new
  obtain ⟨t, h1, h2, h3⟩ := hm.there
  have I2 : Inv X pins σ (upd H e (ExO (.ref C) e)) _ := I.laidN (t' := s.toks) hm.keeps hm.new hn (exO_ok h1 ⟨rfl, rfl⟩ rfl rfl rfl (by show 4 < 6; decide))
  exact ⟨.ref e, _, I2, rfl, r ι _ (.ref e) (R.new hn) (fr_new hn) (.exo upd_same (R.fresh_out hn) ((hk.x C).mpr F))⟩⟩
/-- isinstance of such an object -/
def rIsX (K : PySem.W.Frag) : List V → Hp → VK → Prop := fun xs H Q => ∃ a c D u b, xs = [.ref a, c] ∧ ClsV c u ∧ H a = some (ExO (.ref D) a) ∧ ExcC K D ∧ PySem.W.kitOne K (.ref D) u = some b ∧ Q (.bl b) H
theorem call_isX : CallR X (.builtin "isinstance") (rIsX X.K) := by
  intro pins s σ H vs us Q I r hh
  obtain ⟨a, c, D, u, b, rfl, hc, ha, F, hb, q⟩ := hh
  match us, r with
  | [w, z], .cons rx (.cons rc .nil) =>
    have ew : w = .ref a := rx
    have ez : z = u := by
      cases hc with
      | ty n => exact rc
      | own C => exact rc
    subst ew; subst ez
    have ok := I.hok _ _ ha
    unfold ExO at ok
    simp only [ObjOk] at ok
    obtain ⟨⟨oe, fs, g1, g2, g3, _⟩, _⟩ := ok
    have hat : PySem.W.InstAt s.heap a oe D none := ⟨g1, g2.1, by unfold PySem.W.notCls; rw [g3], by rw [g2.2]; trivial⟩
    refine PySem.W.kia_one (PySem.W.handS_kitx_exc (ox := oe) F.hg F.hk F.hs F.hd F.ha F.hn F.ht F.hm) I.kIn hat hb (by intro e; cases e) fun tk => ⟨.bl b, H, I.kept (fun _ _ e => e), rfl, q⟩
def rIsU (K : PySem.W.Frag) : List V → Hp → VK → Prop := fun xs H Q => rIsi K xs H Q ∨ rIsX K xs H Q
theorem call_isU : CallR X (.builtin "isinstance") (rIsU X.K) := fun pins s σ H xs us Q I r hh => hh.elim (fun z => call_isi pins s σ H xs us Q I r z) fun z => call_isX pins s σ H xs us Q I r z
def isXI (t : Ty) : IV → M IV
  | .exo => fun h => if t = .tup ∨ t = .str then some (.ok (.bl false), h) else none
  | x => fun h => match tyI h x with
    | some u => some (.ok (.bl (u.isA t)), h)
    | none => none
def IsiX (t : Ty) (m : Env → M IV) : Env → M IV := fun env => M.bind (m env) (isXI t)
theorem pei_isiX (t : Ty) (hk : KLOk X.K) (hm : X.mg "isinstance" = none) (h1 : PE X c1 (tC (V.ty t.name))) (he : PEI X W e m) (hg : Gl X "isinstance" := by rfl)
    (hs : starEach [e, c1] X.env = (false, eval e X.env) :: starEach [c1] X.env := by rfl) (hs1 : starEach [c1] X.env = (false, eval c1 X.env) :: starEach [] X.env := by rfl) (hpl : (backTo pos (starEach [c1] X.env)).any (·.1) = false := by rfl) : PEI X W (.Call (.Name "isinstance" p) [e, c1] [] pos) (IsiX t m) := by
  refine PE.weak (pe_callB call_isU hg hm (by decide +kernel) (pa_cons he (pa_cons h1 pa_nil hs1) hs) (by decide) (by decide) hs hpl) fun σ H Q ⟨ι, h, env, R, S, r⟩ => ?_
  refine ⟨ι, h, env, R, S, (run_bind (rel1 := RV) r).mono fun v H1 ⟨ι1, h1, y, R1, F1, rv, r1⟩ => ?_⟩
  have base : ∀ u, tyI h1 y = some u → Run W RV (some (.ok (.bl (u.isA t)), h1)) ι1 H1 Q → rIsU X.K [v, V.ty t.name] H1 Q := fun u q r2 => .inl ⟨v, _, _, _, u.isA t, rfl, .ty _, ty_ok R1 rv q, kit_ty (kit_isA u t), run_pure (x := IV.bl (u.isA t)) r2 R1 (.bl _)⟩
  have go : y ≠ .exo → rIsU X.K [v, V.ty t.name] H1 Q := fun ne => by
    have e : isXI t y h1 = match tyI h1 y with
      | some u => some (.ok (.bl (u.isA t)), h1)
      | none => none := by cases y <;> first | rfl | exact absurd rfl ne
    rw [e] at r1
    cases q : tyI h1 y with
    | none => rw [q] at r1; exact r1.elim
    | some u => rw [q] at r1; exact base u q r1
  cases rv with
  | exo ea hn hx =>
    have r2 : Run W RV (if t = .tup ∨ t = .str then some (.ok (.bl false), h1) else none) ι1 H1 Q := r1
    split at r2
    · rename_i ht
      have F := (hk.x _).mp hx
      refine .inr ⟨_, _, _, .type t.name, false, rfl, .ty _, ea, F.is_, ?_, run_pure (x := IV.bl false) r2 R1 (.bl _)⟩
      rcases ht with rfl | rfl
      · exact F.tup
      · exact F.str
    · exact r2.elim
  | _ => exact go (fun z => nomatch z)
end
end Iv
namespace Iv
open PySem L2 PyProof.Rows
theorem ownV_of {K : PySem.W.Frag} {mg : Str → Option Value} {x : Str} (T : OwnX K mg x) (nt : ∀ C, mg x = some (.ref C) → PySem.W.subIn K (.ref C) (.type "tuple") = some false ∧ PySem.W.subIn K (.ref C) (.type "str") = some false) : OwnV K mg x := by
  obtain ⟨C, T⟩ := T
  obtain ⟨n1, n2⟩ := nt C T.gC
  have one : ∀ n : String, PySem.W.kitMeta n = true → PySem.W.subIn K (.ref C) (.type n) = some false → PySem.W.kitOne K (.ref C) (.type n) = some false := fun n km h => by
    show (if (Value.ref C == Value.type n) = true then some true else if PySem.W.kitMeta n = true then PySem.W.subIn K (.ref C) (.type n) else none) = some false
    rw [if_pos km, h]
    rfl
  exact ⟨C, T, T.is_, one _ (by decide +kernel) n1, one _ (by decide +kernel) n2⟩
theorem ownV_mk {K : PySem.W.Frag} {h : Heap} {mg : Str → Option Value} (X : K.In h) (G : h.Ns mainGlobals mg) {x : Str} {C : Addr} (T : OwnX K mg x) (a : PySem.W.nsIn K mainGlobals x = some (some (.ref C)))
    (tu : PySem.W.subIn K (.ref C) (.type "tuple") = some false) (st : PySem.W.subIn K (.ref C) (.type "str") = some false) : OwnV K mg x :=
  ownV_of T fun C' h => by
    have := (PySem.W.mg_of X G a).symm.trans h
    cases this; exact ⟨tu, st⟩
end Iv
namespace Iv
open PySem L2 PyProof.Rows
variable [KL]
/-! list(text) -/
section
variable {X : Cx} {W : ExW} {e : Expr} {ma : Env → M (List IV)} {p pos : Pos}
theorem call_listS (hc : X.calm = true) : CallR X (.type "list") (fun xs H Q => ∃ s : Str, xs = [.str s] ∧ s.length ≤ lim ∧ ∀ l, H l = none → Q (.ref l) (upd H l (.lst (signsV s)))) := by
  intro pins s σ H vs us Q I r hh
  obtain ⟨x, rfl, hl, q⟩ := hh
  match us, r with
  | [w], .cons ru .nil =>
    obtain ⟨t, rfl⟩ := ru
    have hl2 : x.cps.size ≤ 100000 := by have := hl; rw [lim_eq] at this; exact this
    have nn : s.heap.get? s.heap.objs.size = none := by simp [Heap.get?]
    refine PySem.call_list_str (I.ok.hd hc) x t (fun h' tk acc c k g ia => ?_) (Nat.le_trans hl2 (by rw [sizeLine_eq]; decide))
    have hn : H s.heap.objs.size = none := I.hok.gone nn
    have hv : Vals (signsV x) acc.toList := vals_signs (x := x) (by rw [Array.length_toList, Array.length_toList]; exact ia.1) fun j v e => by
      obtain ⟨c, u, e1, e2⟩ := ia.2 j v (by simpa using e)
      exact ⟨c, u, by simpa using e1, e2⟩
    refine ⟨.ref _, _, I.laidN (t' := tk) (o := .lst (signsV x)) k nn hn ?_, rfl, q _ hn⟩
    refine ⟨?_, acc.toList, c, hv, ?_⟩
    · unfold signsV
      rw [List.length_map, Array.length_toList]
      exact Nat.le_trans hl2 (by rw [sizeLine_eq]; decide)
    · simpa using g
def listStrM : List IV → M IV
  | [.str s] => if s.length ≤ lim then fun h => some (.ok (.ref h.length), h ++ [.lst (s.cps.toList.map fun c => .str ⟨#[c]⟩)]) else stuck
  | _ => stuck
theorem ri_listStr : RIL W (fun xs H Q => ∃ s : Str, xs = [.str s] ∧ s.length ≤ lim ∧ ∀ l, H l = none → Q (.ref l) (upd H l (.lst (signsV s)))) listStrM := by
  intro ι h H vs xs Q R rs r
  cases rs with
  | nil => exact r.elim
  | @cons v x _ _ rv rs =>
    cases rs with
    | cons _ _ => cases rv <;> exact r.elim
    | nil =>
      cases rv with
      | str s =>
        have r' : Run W RV ((if s.length ≤ lim then (fun h => some (.ok (.ref h.length), h ++ [Iv.IO.lst (s.cps.toList.map fun c => IV.str ⟨#[c]⟩)])) else stuck : M IV) h) ι H Q := r
        obtain ⟨hl, r2⟩ := run_if r'
        refine ⟨s, rfl, hl, fun l hn => ?_⟩
        exact r2 (ι ++ [l]) _ (.ref l) (R.push (u := .lst _) hn ⟨_, upd_same, RVs.signs s⟩) (fr_push hn) (.ref (by rw [← R.len, List.getElem?_append_right (Nat.le_refl _), Nat.sub_self]; rfl))
      | _ => exact r.elim
theorem pei_listStr (hc : X.calm = true) (hm : X.mg "list" = none) (ha : PAI X W [e] ma) (hg : Gl X "list" := by rfl) (he : starEach [e] X.env = (false, eval e X.env) :: starEach [] X.env := by rfl) : PEI X W (.Call (.Name "list" p) [e] [] pos) (CallB listStrM ma) :=
  pei_callT ri_listStr (call_listS hc) hm (by decide +kernel) ha hg (by decide) (by decide) he
end
end Iv
namespace Iv
open PySem L2 PyProof.Rows
/-! tuple(dict) -/
theorem code_tuple_new_dict {prog : Program} {w : World} {A : Around} {E : Value → Shared → Prop} {s : Shared} {d : Addr} {n : Nat} {P : Nat → Value → Prop} {OK : Heap → Prop} {Q₁ : Value → Shared → Prop}
    (Sr : W.KdlSrc prog w "dict" d d n P OK) (hh : A.handled = none) (ok : OK s.heap) (hn : n ≤ sizeLine)
    (k : ∀ (h' : Heap) (tk : Nat) (acc : Array Value), (∀ (b : Addr) (o : Obj), s.heap.get? b = some o → h'.get? b = some o) → ItemsOf P acc n →
      Q₁ (.ref h'.objs.size) { heap := h'.push { cls := .type "tuple", data := .seq acc }, gens := s.gens, drawn := s.drawn, toks := tk, os := s.os }) :
    codeAny (model prog w) A (.call (.builtin "tuple.__new__") ⟨[.type "tuple", .ref d], []⟩) (wants Q₁ E) s := by
  refine codeAny_of_tree ?_
  refine wpAny_bind (wpAny_of_eq (F.newCall_tuple_1 _) ?_)
  refine wpAny_pure ?_
  refine ⟨plainId_quiet F.plain_tuple_new _, ?_⟩
  refine codeAny_builtin F.entry_tuple_new ?_
  rw [Around.under_plainId F.plain_tuple_new]
  unfold Builtin.«tuple.__new__»
  dsimp only
  refine wpAny_bind (wpAny_of_eq (a := true) rfl ?_)
  refine wpAny_ite_false rfl ?_
  refine wpAny_bind (wpAny_of_eq sub_tuple_self ?_)
  refine wpAny_ite_false rfl ?_
  refine wpAny_ite_false (by decide +kernel) ?_
  refine wpAny_bind (wpAny_of_eq madeHere_tuple ?_)
  refine wpAny_bind (wpAny_of_eq init_tuple_lookup ?_)
  refine wpAny_ite_true (by decide +kernel) ?_
  refine wpAny_bind (wpAny_of_eq (a := ()) rfl ?_)
  refine wpAny_bind (wpAny_of_eq (a := ()) rfl ?_)
  refine wpAny_ite_true (by decide +kernel) ?_
  refine wpAny_bind ?_
  unfold Builtin.Tuple.tupleIsExact
  refine wpAny_bind (wpAny_typeOf (Sr.type s ok) ?_)
  refine wpAny_pure ?_
  refine wpAny_ite_false (by decide +kernel) ?_
  refine wpAny_bind (W.kdu_collect Sr hh ok hn fun h' tk acc keep ia => ?_)
  refine wpAny_bind (wpAny_pure ?_)
  refine wpAny_bind (wpAny_newObj_type ?_ (by show acc.toList.toArray.size ≤ sizeLine; simp; rw [ia.1]; exact hn))
  exact wpAny_pure (by have := k h' tk acc keep ia; simpa using this)
theorem call_tuple_dict {prog : Program} {w : World} {A : Around} {E : Value → Shared → Prop} {s : Shared} {d : Addr} {n : Nat} {P : Nat → Value → Prop} {OK : Heap → Prop} {Q : Value → Shared → Prop}
    (Sr : W.KdlSrc prog w "dict" d d n P OK) (hh : A.handled = none) (ok : OK s.heap) (hn : n ≤ sizeLine)
    (k : ∀ (h' : Heap) (tk : Nat) (acc : Array Value), (∀ (b : Addr) (o : Obj), s.heap.get? b = some o → h'.get? b = some o) → ItemsOf P acc n →
      Q (.ref h'.objs.size) { heap := h'.push { cls := .type "tuple", data := .seq acc }, gens := s.gens, drawn := s.drawn, toks := tk, os := s.os }) :
    wpAny (model prog w) A (call (.type "tuple") [.ref d]) Q E s := by
  refine callType_codes F.called_tuple (F.typeCall_tuple_1 _) F.entry_object_init (code_tuple_new_dict (Q₁ := fun obj s1 => s1.TypeIs obj "tuple" ∧ Q obj s1) Sr hh ok hn fun h' tk acc k1 k2 => ?_) fun obj s1 q => ⟨q.1, F.args_object_init_2 _ _, ?_⟩
  · exact ⟨⟨_, Heap.get?_push_size _ rfl, rfl⟩, k h' tk acc k1 k2⟩
  · exact object_init_meets (Slot.lookup F.called_tuple.init) F.called_tuple.made (by decide +kernel) _ _ _ _ _ ⟨q.1, rfl, q.2⟩
def rTupD : List V → Hp → VK → Prop := fun xs H Q => ∃ p kvs, xs = [.ref p] ∧ H p = some (.dK kvs) ∧ ∀ q, H q = none → Q (.ref q) (upd H q (.tup (kvs.map fun kv => kV kv.1)))
theorem call_tupleD {X : Cx} (hc : X.calm = true) : CallR X (.type "tuple") rTupD := by
  intro pins s σ H xs us Q I r hh
  obtain ⟨p, kvs, rfl, e, q⟩ := hh
  rw [Vals.ref1 r]
  have ok := I.hok _ _ e
  simp only [ObjOk] at ok
  obtain ⟨hl, hsys, vs, kv, hd⟩ := ok
  obtain ⟨ep, hda⟩ := hd.dictAt
  have hlen : vs.length = kvs.length := (Paired.length kv).symm
  refine call_tuple_dict (PySem.W.kdl_dict (knd := mixKind X.prog X.w) (kvs := vs) (ep := ep) hsys) (I.ok.hd hc) hda (by omega) fun h' tk acc keep ia => ?_
  have I1 : Inv X pins σ H { s with heap := h', toks := tk } := I.kept keep
  have ks := kv.keys
  have hv : Vals (kvs.map fun kv => kV kv.1) acc.toList := vals_of_at (by have := ia.1; rw [List.length_map, ← hlen, ← this]; rfl) fun j x u ex eu => by
    obtain ⟨k, y, e1, e2⟩ := ia.2 j u (by simpa using eu)
    rw [List.getElem?_map] at ex
    have : (kvs.map (·.1))[j]? = (vs.map (·.1))[j]? := by rw [ks]
    rw [List.getElem?_map, List.getElem?_map, e1] at this
    cases q2 : kvs[j]? with
    | none => rw [q2] at ex; cases ex
    | some z =>
      rw [q2] at ex this
      cases ex
      have : z.1 = k := Option.some.inj this
      show L2.RelV (kV z.1) u
      rw [this]
      exact keyIs_rel e2
  refine ⟨.ref _, _, I1.laid (t' := tk) (o := .tup (kvs.map fun kv => kV kv.1)) (fun b ob z => Heap.get?_push_of_some _ z) (Nat.le_refl _) ?_, rfl, q _ (I1.hok.fresh (Nat.le_refl _))⟩
  refine ⟨?_, acc.toList, hv, ?_⟩
  · rw [List.length_map]; exact hl
  · exact ⟨_, Heap.get?_push_size _ rfl, rfl, 0, by simp⟩
variable [KL]
def tupDM : List IV → M IV
  | [.ref n] => fun h => match h[n]? with
    | some (.dic kvs) => some (.ok (.tup (kvs.map fun kv => match kv.1 with | .inl i => .int i | .inr s => .str s)), h)
    | _ => none
  | _ => stuck
section
variable {X : Cx} {W : ExW} {e : Expr} {ma : Env → M (List IV)} {p pos : Pos}
theorem ri_tupD : RIL W rTupD tupDM := by
  intro ι h H vs xs Q R rs r
  cases rs with
  | nil => exact r.elim
  | @cons v x _ _ rv rs =>
    cases rs with
    | cons _ _ => cases rv <;> exact r.elim
    | nil =>
      cases rv with
      | @ref n a ea =>
        have r' : Run W RV (match h[n]? with
          | some (.dic kvs) => some (.ok (.tup (kvs.map fun kv => match kv.1 with | .inl i => IV.int i | .inr s => .str s)), h)
          | _ => none) ι H Q := r
        split at r'
        · rename_i kvs q
          obtain ⟨a', ks, q1, _, q2, r1⟩ := R.dic (.ref ea) q
          cases q1
          refine ⟨_, ks, rfl, q2, fun t ht => ?_⟩
          exact r' ι _ (.ref t) (R.new ht) (fr_new ht) (.tup upd_same (R.monos (fr_new ht) r1.keys))
        · exact r'.elim
      | _ => exact r.elim
theorem pei_tupD (hc : X.calm = true) (hm : X.mg "tuple" = none) (ha : PAI X W [e] ma) (hg : Gl X "tuple" := by rfl) (he : starEach [e] X.env = (false, eval e X.env) :: starEach [] X.env := by rfl) : PEI X W (.Call (.Name "tuple" p) [e] [] pos) (CallB tupDM ma) :=
  pei_callT ri_tupD (call_tupleD hc) hm (by decide +kernel) ha hg (by decide) (by decide) he
end
end Iv
set_option Elab.async false
set_option linter.all false
set_option maxRecDepth 100000
set_option maxHeartbeats 1000000
set_option autoImplicit false
/-! sorted, so that the kernel computes it -/
namespace Iv
open PySem L2
section
variable {α : Type} (le : α → α → Bool)
def mrgF : Nat → List α → List α → List α
  | 0, _, _ => []
  | _ + 1, [], ys => ys
  | _ + 1, x :: xs, [] => x :: xs
  | k + 1, x :: xs, y :: ys => if le x y = true then x :: mrgF k xs (y :: ys) else y :: mrgF k (x :: xs) ys
theorem mrgF_eq : ∀ (k : Nat) (xs ys : List α), xs.length + ys.length < k → mrgF le k xs ys = List.merge xs ys le
  | 0, _, _, h => by omega
  | _ + 1, [], ys, _ => by unfold mrgF; simp
  | _ + 1, x :: xs, [], _ => by unfold mrgF; simp
  | k + 1, x :: xs, y :: ys, h => by
    unfold mrgF
    rw [List.length_cons, List.length_cons] at h
    rw [List.cons_merge_cons, mrgF_eq k xs (y :: ys) (by rw [List.length_cons]; omega), mrgF_eq k (x :: xs) ys (by rw [List.length_cons]; omega)]
def msF : Nat → List α → List α
  | 0, _ => []
  | _ + 1, [] => []
  | _ + 1, [a] => [a]
  | k + 1, a :: b :: xs => mrgF le (xs.length + 3) (msF k ((a :: b :: xs).take ((xs.length + 3) / 2))) (msF k ((a :: b :: xs).drop ((xs.length + 3) / 2)))
theorem msF_eq : ∀ (k : Nat) (xs : List α), xs.length < k → msF le k xs = xs.mergeSort le
  | 0, _, h => by omega
  | _ + 1, [], _ => by unfold msF; simp
  | _ + 1, [a], _ => by unfold msF; simp
  | k + 1, a :: b :: xs, h => by
    unfold msF
    rw [List.length_cons, List.length_cons] at h
    have l1 : ((a :: b :: xs).take ((xs.length + 3) / 2)).length ≤ (xs.length + 3) / 2 := by rw [List.length_take]; omega
    have l2 : ((a :: b :: xs).drop ((xs.length + 3) / 2)).length = xs.length + 2 - (xs.length + 3) / 2 := by rw [List.length_drop]; rfl
    rw [msF_eq k _ (by omega), msF_eq k _ (by omega), mrgF_eq]
    · conv => rhs; unfold List.mergeSort
      simp [List.MergeSort.Internal.splitInTwo_fst, List.MergeSort.Internal.splitInTwo_snd]
    · rw [List.length_mergeSort, List.length_mergeSort, List.length_take, List.length_drop, List.length_cons, List.length_cons]; omega
end
def sortN : List IV → M IV
  | [x] => fun h => match lstI h x with
    | some xs => match xs.mapM (encH h 66) with
      | some ds => if alikeB ds = true ∧ sortableB ds = true ∧ (ds.all fun d => decide (d.depth ≤ depLim)) = true then mkL ((msF (PySem.W.dataLe false fun p => p.2) ((xs.zip ds).length + 1) (xs.zip ds)).map (·.1)) h else none
      | none => none
    | none => none
  | _ => stuck
theorem sortN_eq : sortM = sortN := by
  funext l h
  match l with
  | [] => rfl
  | [x] =>
    unfold sortM sortN
    simp only [msF_eq _ _ _ (Nat.lt_succ_self _)]
    all_goals (cases lstI h x <;> try rfl)
    all_goals (rename_i xs; cases q : List.mapM (encH h 66) xs <;> simp only [q])
  | _ :: _ :: _ => rfl
end Iv
set_option autoImplicit true
set_option Elab.async false
set_option linter.all false
set_option maxRecDepth 100000
set_option maxHeartbeats 4000000
namespace K02
open PySem L2 Iv
def topS (i : Nat) : Stmt := PySem.Challenge.pw_anylatency_k02_orders_or_not.main.body.getD i (.Pass ⟨0, 0, 0, 0⟩)
structure Exs (K : PySem.W.Frag) (mg : Str → Option Value) : Prop where
  mk ::
  V_NoOrder : OwnV K mg "NoOrder"
structure Blt (mg : Str → Option Value) : Prop where
  abs : mg "abs" = none
  all : mg "all" = none
  bool : mg "bool" = none
  dict : mg "dict" = none
  enumerate : mg "enumerate" = none
  int : mg "int" = none
  isinstance : mg "isinstance" = none
  len : mg "len" = none
  list : mg "list" = none
  max : mg "max" = none
  range : mg "range" = none
  sorted : mg "sorted" = none
  str : mg "str" = none
  tuple : mg "tuple" = none
  zip : mg "zip" = none
@[irreducible] def LN : Nat := 100000
abbrev s_tupled : Stmt := topS 3
abbrev N_tupled : List Str := ["value", "part"]
def b_tupled (G : List IV → M IV) : Iv.Env → M Fl :=
    (SeqS (IfS (Tru (Isi [.lst, .tup] (Var 0))) (RetS (CallB tupleM (Cons (LcE LN (Iter (Var 0)) (.n 1) YesT (CallF 1 G (Cons (Var 1) Nil)) [1]) Nil))) NextS)
    (RetS (Var 0)))
def F_tupled : Nat → List IV → M IV
  | 0 => fun _ => stuck
  | k + 1 => Fn 2 (b_tupled (F_tupled k))
abbrev s_is_name : Stmt := topS 4
abbrev N_is_name : List Str := ["thing"]
def b_is_name : Iv.Env → M Fl :=
    (SeqS (IfS (NotT (Tru (IsiX .str (Var 0)))) (RetS (Cst (.bl false))) NextS)
    (RetS (AndV (Chain leI leI (Cst (.int 1)) (CallB lenM (Cons (Var 0) Nil)) (Cst (.int 8))) (AndV (Mth chkS (tstB Txt.isascii) (Var 0) Nil) (AndV (Mth chkS (tstB Txt.isalpha) (Var 0) Nil) (Mth chkS (tstB Txt.islower) (Var 0) Nil))))))
def F_is_name : List IV → M IV := Fn 1 b_is_name
abbrev s_is_tuple_of : Stmt := topS 5
abbrev N_is_tuple_of : List Str := ["thing", "many"]
def b_is_tuple_of : Iv.Env → M Fl :=
    (RetS (AndV (IsiX .tup (Var 0)) (Bin eqI (CallB lenM (Cons (Var 0) Nil)) (Var 1))))
def F_is_tuple_of : List IV → M IV := Fn 2 b_is_tuple_of
abbrev s_reads_by_name : Stmt := topS 6
abbrev N_reads_by_name : List Str := ["rows", "row"]
def b_reads_by_name : Iv.Env → M Fl :=
    (RetS (DcE LN (Iter (Var 0)) (.n 1) YesT (Bin ixM (Var 1) (Cst (.int 0))) (Bin ixM (Var 1) (Cst (.int 1))) [1]))
def F_reads_by_name : List IV → M IV := Fn 2 b_reads_by_name
abbrev s_next_names : Stmt := topS 7
abbrev N_next_names : List Str := ["reads", "laid", "name", "one"]
def b_next_names : Iv.Env → M Fl :=
    (RetS (CallB sortM (Cons (lockM 0 (LcE LN (Iter (Var 0)) (.n 2) (AndT (Tst (Bin (inM true) (Var 2) (Var 1))) (Tru (CallB allI (Cons (LcE LN (Iter (Bin ixM (Var 0) (Var 2))) (.n 3) YesT (Bin (inM false) (Var 3) (Var 1)) [3]) Nil)))) (Var 2) [2])) Nil)))
def F_next_names : List IV → M IV := Fn 4 b_next_names
abbrev s_is_order_of : Stmt := topS 8
abbrev N_is_order_of : List Str := ["reads", "thing", "laid", "name", "one"]
def b_is_order_of : Iv.Env → M Fl :=
    (SeqS (IfS (NotT (Tru (CallF 2 F_is_tuple_of (Cons (Var 1) (Cons (CallB lenM (Cons (Var 0) Nil)) Nil))))) (RetS (Cst (.bl false))) NextS)
    (SeqS (AsgS DNew (TgN 2))
    (SeqS (ForS LN (Iter (Var 1)) (TgN 3) (SeqS (IfS (OrT (NotT (Tru (CallF 1 F_is_name (Cons (Var 3) Nil)))) (OrT (Tst (Bin (inM true) (Var 3) (Var 0))) (Tst (Bin (inM false) (Var 3) (Var 2))))) (RetS (Cst (.bl false))) NextS)
    (SeqS (IfS (NotT (Tru (CallB allI (Cons (LcE LN (Iter (Bin ixM (Var 0) (Var 3))) (.n 4) YesT (Bin (inM false) (Var 4) (Var 2)) [4]) Nil)))) (RetS (Cst (.bl false))) NextS)
    (AsgS (Cst (.bl true)) (TgSub (Var 2) (Var 3))))))
    (RetS (Cst (.bl true))))))
def F_is_order_of : List IV → M IV := Fn 5 b_is_order_of
abbrev s_is_order : Stmt := topS 10
abbrev N_is_order : List Str := ["block", "thing"]
def b_is_order : Iv.Env → M Fl :=
    (RetS (CallF 2 F_is_order_of (Cons (CallF 1 F_reads_by_name (Cons (Bin ixM (CallD 1 (F_tupled 16) (Cons (Var 0) Nil)) (Cst (.int 0))) Nil)) (Cons (Var 1) Nil))))
def F_is_order : List IV → M IV := Fn 2 b_is_order
abbrev s_least_order : Stmt := topS 11
abbrev N_least_order : List Str := ["block", "reads", "laid", "_"]
def b_least_order : Iv.Env → M Fl :=
    (SeqS (AsgS (CallF 1 F_reads_by_name (Cons (Bin ixM (CallD 1 (F_tupled 16) (Cons (Var 0) Nil)) (Cst (.int 0))) Nil)) (TgN 1))
    (SeqS (AsgS DNew (TgN 2))
    (SeqS (lockM 1 (ForS LN (Iter (Var 1)) (TgN 3) (AsgS (Cst (.bl true)) (TgSub (Var 2) (Bin ixM (CallF 2 F_next_names (Cons (Var 1) (Cons (Var 2) Nil))) (Cst (.int 0)))))))
    (RetS (CallB tupDM (Cons (Var 2) Nil))))))
def F_least_order : List IV → M IV := Fn 4 b_least_order
abbrev s__law_box : Stmt := topS 13
abbrev N__law_box : List Str := ["_law_script", "_law_k", "_law_cell"]
def b__law_box : Iv.Env → M Fl :=
    (SeqS (AsgS (IfE (Tst (Bin ltI (Var 1) (CallB lenM (Cons (Var 0) Nil)))) (Bin ixM (Var 0) (Var 1)) (Cst (.int 0))) (TgN 2))
    (RetS (Lst (Cons (Bin mulI (CallB absM (Cons (Var 2) Nil)) (CallB intM (Cons (Bin geI (CallB absM (Cons (Var 2) Nil)) (Bin powI (Cst (.int 10)) (Cst (.int 18)))) Nil))) (Cons (Bin addI (Bin addI (Bin modI (CallB intM (Cons (Var 2) Nil)) (Cst (.int 2305843009213693951))) (Bin mulI (Cst (.int 39373)) (Var 1))) (Cst (.int 1052902))) (Cons (Cst (.int 0)) Nil))))))
def F__law_box : List IV → M IV := Fn 3 b__law_box
abbrev s__law_take : Stmt := topS 14
abbrev N__law_take : List Str := ["_law_urn", "_law_low_so", "_law_drawn", "_law_once", "_law_far", "_law_twice"]
def b__law_take : Iv.Env → M Fl :=
    (SeqS (IfS (Tst (Bin gtI (Bin ixM (Var 0) (Cst (.int 0))) (Cst (.int 0)))) (SeqS (AsgS (Bin modI (CallB intM (Cons (Bin ixM (Var 0) (Cst (.int 0))) Nil)) (Var 1)) (TgN 2))
    (SeqS (AsgS (Bin divI (Bin ixM (Var 0) (Cst (.int 0))) (Var 1)) (TgSub (Var 0) (Cst (.int 0))))
    (RetS (Var 2)))) NextS)
    (SeqS (AsgS (Bin addI (Bin ixM (Var 0) (Cst (.int 2))) (Cst (.int 1))) (TgSub (Var 0) (Cst (.int 2))))
    (SeqS (AsgS (Bin modI (CallB intM (Cons (Bin mulI (Bin addI (Bin ixM (Var 0) (Cst (.int 1))) (Bin mulI (Cst (.int 48271)) (Bin ixM (Var 0) (Cst (.int 2))))) (Bin addI (Cst (.int 39373)) (Bin ixM (Var 0) (Cst (.int 2))))) Nil)) (Cst (.int 2147483647))) (TgN 3))
    (SeqS (AsgS (Bin addI (Bin modI (CallB intM (Cons (Var 3) Nil)) (Cst (.int 40009))) (Cst (.int 7))) (TgN 4))
    (SeqS (AsgS (Bin modI (CallB intM (Cons (Bin mulI (Bin addI (Bin addI (Var 3) (Bin ixM (Var 0) (Cst (.int 2)))) (Bin divI (Bin ixM (Var 0) (Cst (.int 1))) (Cst (.int 1000003)))) (Var 4)) Nil)) (Cst (.int 2147483629))) (TgN 5))
    (RetS (Bin modI (CallB intM (Cons (Bin divI (Bin modI (CallB intM (Cons (Bin addI (Bin mulI (Var 5) (Cst (.int 48271))) (Var 3)) Nil)) (Cst (.int 2147483587))) (Cst (.int 64))) Nil)) (Var 1))))))))
def F__law_take : List IV → M IV := Fn 6 b__law_take
abbrev s__law_cells : Stmt := topS 15
abbrev N__law_cells : List Str := ["_law_script", "_law_top", "_law_cells_here", "_law_k", "_law_cell", "_law_at_so"]
def b__law_cells : Iv.Env → M Fl :=
    (SeqS (AsgS (OrV (CallB listM (Cons (Sl (Var 0) NoO (SoO (Var 1))) Nil)) (Lst (Cons (Cst (.int 0)) Nil))) (TgN 2))
    (SeqS (ForS LN (IterA enumM (Cons (Sl (Var 0) (SoO (Var 1)) (SoO (Cst (.int 63)))) Nil)) (TgUn 2 (TgCons (TgN 3) (TgCons (TgN 4) TgNil))) (SeqS (AsgS (Bin modI (CallB intM (Cons (Var 3) Nil)) (Var 1)) (TgN 5))
    (AsgS (Bin addI (Bin ixM (Var 2) (Var 5)) (Bin mulI (Var 4) (Bin addI (Var 3) (Cst (.int 2))))) (TgSub (Var 2) (Var 5)))))
    (RetS (Var 2))))
def F__law_cells : List IV → M IV := Fn 6 b__law_cells
abbrev s__law_of : Stmt := topS 16
abbrev N__law_of : List Str := ["_law_urn", "_law_some_so"]
def b__law_of : Iv.Env → M Fl :=
    (RetS (Bin ixM (Var 1) (CallF 2 F__law_take (Cons (Var 0) (Cons (CallB lenM (Cons (Var 1) Nil)) Nil)))))
def F__law_of : List IV → M IV := Fn 2 b__law_of
abbrev s__law_same : Stmt := topS 17
abbrev N__law_same : List Str := ["_law_got", "_law_goal", "_law_mine_so", "_law_own"]
def b__law_same (G : List IV → M IV) : Iv.Env → M Fl :=
    (SeqS (IfS (Tru (Isi [.lst, .tup] (Var 1))) (SeqS (IfS (OrT (Tst (Bin neI (Isi [.lst] (Var 0)) (Isi [.lst] (Var 1)))) (Tst (Bin neI (Isi [.tup] (Var 0)) (Isi [.tup] (Var 1))))) (RetS (Cst (.bl false))) NextS)
    (RetS (AndV (Bin eqI (CallB lenM (Cons (Var 0) Nil)) (CallB lenM (Cons (Var 1) Nil))) (CallB allI (Cons (LcE LN (IterA zipM (Cons (Var 0) (Cons (Var 1) Nil))) (.t [2, 3]) YesT (CallF 2 G (Cons (Var 2) (Cons (Var 3) Nil))) [2, 3]) Nil))))) NextS)
    (SeqS (IfS (OrT (Tst (Un isN (Var 1))) (Tru (Isi [.bl, .str] (Var 1)))) (RetS (AndV (Bin eqI (Var 0) (Var 1)) (AndV (Bin eqI (Isi [.bl] (Var 0)) (Isi [.bl] (Var 1))) (Bin eqI (Un isN (Var 0)) (Un isN (Var 1)))))) NextS)
    (RetS (AndV (Isi [.int] (Var 0)) (AndV (NotV (Isi [.bl] (Var 0))) (Bin eqI (Var 0) (Var 1)))))))
def F__law_same : Nat → List IV → M IV
  | 0 => fun _ => stuck
  | k + 1 => Fn 4 (b__law_same (F__law_same k))
abbrev s__law_lists : Stmt := topS 18
abbrev N__law_lists : List Str := ["_law_thing_so", "_law_bit"]
def b__law_lists (G : List IV → M IV) : Iv.Env → M Fl :=
    (RetS (IfE (Tru (Isi [.lst, .tup] (Var 0))) (LcE LN (Iter (Var 0)) (.n 1) YesT (CallF 1 G (Cons (Var 1) Nil)) [1]) (Var 0)))
def F__law_lists : Nat → List IV → M IV
  | 0 => fun _ => stuck
  | k + 1 => Fn 2 (b__law_lists (F__law_lists k))
abbrev s__law_mixed : Stmt := topS 19
abbrev N__law_mixed : List Str := ["_law_urn", "_law_pool", "_law_rest_so", "_law_found", "_law_turn"]
def b__law_mixed : Iv.Env → M Fl :=
    (SeqS (ParS 2 3 (Cons (CallB listM (Cons (Var 1) Nil)) (Cons (Lst Nil) Nil)))
    (SeqS (ForS LN (IterA rng1 (Cons (CallB lenM (Cons (Var 1) Nil)) Nil)) (TgN 4) (DropS (Mth chkL appM (Var 3) (Cons (Mth chkL popAtM (Var 2) (Cons (CallF 2 F__law_take (Cons (Var 0) (Cons (CallB lenM (Cons (Var 2) Nil)) Nil))) Nil)) Nil))))
    (RetS (Var 3))))
def F__law_mixed : List IV → M IV := Fn 5 b__law_mixed
abbrev s__law_tags : Stmt := topS 20
abbrev N__law_tags : List Str := ["_law_urn", "_law_many_so", "_law_signs", "_law_first_so", "_law_by_so", "_law_row_so", "_law_stem", "_law_at_so", "_law_k", "_law_turn"]
def b__law_tags : Iv.Env → M Fl :=
    (SeqS (AsgS (Cst (.str "abcdefghijklmnopqrstuvwxyz")) (TgN 2))
    (SeqS (AsgS (Tup (Cons (CallF 2 F__law_take (Cons (Var 0) (Cons (Cst (.int 26)) Nil))) (Cons (CallF 2 F__law_of (Cons (Var 0) (Cons (Lst (Cons (Cst (.int 1)) (Cons (Cst (.int 3)) (Cons (Cst (.int 7)) (Cons (Cst (.int 11)) (Cons (Cst (.int 25)) Nil)))))) Nil))) Nil))) (TgUn 2 (TgCons (TgN 3) (TgCons (TgN 4) TgNil))))
    (SeqS (AsgS (LcE LN (IterA rng1 (Cons (CallB max2 (Cons (Cst (.int 8)) (Cons (Var 1) Nil))) Nil)) (.n 8) YesT (Bin ixM (Var 2) (Bin modI (CallB intM (Cons (Bin addI (Var 3) (Bin mulI (Var 4) (Var 8))) Nil)) (Cst (.int 26)))) [8]) (TgN 5))
    (SeqS (IfS (AndT (Tst (Bin ltI (Var 1) (Cst (.int 9)))) (Tst (Bin eqI (CallF 2 F__law_take (Cons (Var 0) (Cons (Cst (.int 4)) Nil))) (Cst (.int 0))))) (RetS (CallB sortM (Cons (LcE LN (IterA rng1 (Cons (Var 1) Nil)) (.n 8) YesT (Mth chkS joinM (Cst (.str "")) (Cons (Sl (Var 5) NoO (SoO (Bin addI (Var 8) (Cst (.int 1))))) Nil)) [8]) Nil))) NextS)
    (SeqS (AsgS (Mth chkS joinM (Cst (.str "")) (Cons (LcE LN (IterA rng1 (Cons (CallF 2 F__law_of (Cons (Var 0) (Cons (Lst (Cons (Cst (.int 0)) (Cons (Cst (.int 0)) (Cons (Cst (.int 1)) (Cons (Cst (.int 5)) (Cons (Cst (.int 7)) Nil)))))) Nil))) Nil)) (.n 9) YesT (Bin ixM (Var 2) (CallF 2 F__law_take (Cons (Var 0) (Cons (Cst (.int 26)) Nil)))) [9]) Nil)) (TgN 6))
    (SeqS (AsgS (CallF 2 F__law_take (Cons (Var 0) (Cons (Bin addI (CallB lenM (Cons (Var 6) Nil)) (Cst (.int 1))) Nil))) (TgN 7))
    (RetS (CallB sortM (Cons (LcE LN (IterA rng1 (Cons (Var 1) Nil)) (.n 8) YesT (Bin addI (Bin addI (Sl (Var 6) NoO (SoO (Var 7))) (Bin ixM (Var 5) (Var 8))) (Sl (Var 6) (SoO (Var 7)) NoO)) [8]) Nil)))))))))
def F__law_tags : List IV → M IV := Fn 10 b__law_tags
abbrev s__law_names : Stmt := topS 21
abbrev N__law_names : List Str := ["_law_urn", "_law_many_so"]
def b__law_names : Iv.Env → M Fl :=
    (RetS (CallF 2 F__law_mixed (Cons (Var 0) (Cons (CallF 2 F__law_tags (Cons (Var 0) (Cons (Var 1) Nil))) Nil))))
def F__law_names : List IV → M IV := Fn 2 b__law_names
abbrev s__law_other : Stmt := topS 22
abbrev N__law_other : List Str := ["_law_tags_here", "_law_pool", "_law_own"]
def b__law_other : Iv.Env → M Fl :=
    (SeqS (AsgS (Lst (Cons (Cst (.str "zy")) (Cons (Cst (.str "xw")) (Cons (Cst (.str "vu")) (Cons (Cst (.str "ts")) (Cons (Cst (.str "rq")) (Cons (Cst (.str "po")) (Cons (Cst (.str "nm")) (Cons (Cst (.str "lk")) (Cons (Cst (.str "ji")) (Cons (Cst (.str "hg")) (Cons (Cst (.str "fe")) (Cons (Cst (.str "dc")) Nil))))))))))))) (TgN 1))
    (RetS (Bin ixM (LcE LN (Iter (Var 1)) (.n 2) (Tst (Bin (inM true) (Var 2) (Var 0))) (Var 2) [2]) (Cst (.int 0)))))
def F__law_other : List IV → M IV := Fn 3 b__law_other
abbrev s__law_under : Stmt := topS 23
abbrev N__law_under : List Str := ["_law_near", "_law_far", "_law_own"]
def b__law_under : Iv.Env → M Fl :=
    (RetS (Bin eqI (LcE LN (Iter (Var 0)) (.n 2) (Tst (Bin (inM true) (Var 2) (Var 1))) (Var 2) [2]) (Lst Nil)))
def F__law_under : List IV → M IV := Fn 3 b__law_under
abbrev s__law_block : Stmt := topS 24
abbrev N__law_block : List Str := ["_law_urn", "_law_many_so", "_law_queue_so", "_law_found", "_law_k", "_law_own", "_law_reads_so"]
def b__law_block : Iv.Env → M Fl :=
    (SeqS (ParS 2 3 (Cons (CallF 2 F__law_names (Cons (Var 0) (Cons (Var 1) Nil))) (Cons (Lst Nil) Nil)))
    (SeqS (ForS LN (IterA enumM (Cons (Var 2) Nil)) (TgUn 2 (TgCons (TgN 4) (TgCons (TgN 5) TgNil))) (SeqS (AsgS (Sl (CallF 2 F__law_mixed (Cons (Var 0) (Cons (Sl (Var 2) NoO (SoO (Var 4))) Nil))) NoO (SoO (CallF 2 F__law_of (Cons (Var 0) (Cons (Lst (Cons (Cst (.int 0)) (Cons (Cst (.int 1)) (Cons (Cst (.int 1)) (Cons (Cst (.int 2)) (Cons (Cst (.int 3)) Nil)))))) Nil))))) (TgN 6))
    (DropS (Mth chkL appM (Var 3) (Cons (Tup (Cons (Var 5) (Cons (CallB tupleM (Cons (CallB sortM (Cons (Var 6) Nil)) Nil)) (Cons (Bin eqI (CallF 2 F__law_take (Cons (Var 0) (Cons (Cst (.int 2)) Nil))) (Cst (.int 0))) Nil)))) Nil)))))
    (RetS (Tup (Cons (CallB tupleM (Cons (CallB sortM (Cons (Var 3) Nil)) Nil)) (Cons (CallB tupleM (Cons (LcE LN (Iter (CallB sortM (Cons (Var 2) Nil))) (.n 5) (Tst (Bin eqI (CallF 2 F__law_take (Cons (Var 0) (Cons (Cst (.int 3)) Nil))) (Cst (.int 0)))) (Var 5) [5]) Nil)) Nil))))))
def F__law_block : List IV → M IV := Fn 7 b__law_block
abbrev s__law_host : Stmt := topS 25
abbrev N__law_host : List Str := ["_law_flat", "_law_rows_so", "_law_live_so", "_law_found", "_law_piece", "_law_words"]
def b__law_host : Iv.Env → M Fl :=
    (SeqS (AsgS (Mth chkS splitM (Var 0) (Cons (Cst (.str " / ")) Nil)) (TgUn 2 (TgCons (TgN 1) (TgCons (TgN 2) TgNil))))
    (SeqS (AsgS (Lst Nil) (TgN 3))
    (SeqS (ForS LN (Iter (Mth chkS splitM (Var 1) (Cons (Cst (.str "; ")) Nil))) (TgN 4) (SeqS (AsgS (Mth chkS splitM (Var 4) (Cons (Cst (.str " ")) Nil)) (TgN 5))
    (DropS (Mth chkL appM (Var 3) (Cons (Tup (Cons (Bin ixM (Mth chkS splitM (Bin ixM (Var 5) (Cst (.int 0))) (Cons (Cst (.str "*")) Nil)) (Cst (.int 0))) (Cons (CallB tupleM (Cons (Sl (Var 5) (SoO (Cst (.int 1))) NoO) Nil)) (Cons (Bin (inM false) (Cst (.str "*")) (Bin ixM (Var 5) (Cst (.int 0)))) Nil)))) Nil)))))
    (RetS (Tup (Cons (CallB tupleM (Cons (Var 3) Nil)) (Cons (IfE (Tst (Bin neI (Var 2) (Cst (.str "-")))) (CallB tupleM (Cons (Mth chkS splitM (Var 2) (Cons (Cst (.str " ")) Nil)) Nil)) (Tup Nil)) Nil)))))))
def F__law_host : List IV → M IV := Fn 6 b__law_host
abbrev s__law_fits : Stmt := topS 26
abbrev N__law_fits : List Str := ["_law_host_here", "_law_row_so", "_law_reads_so", "_law_k", "_law_own"]
def b__law_fits : Iv.Env → M Fl :=
    (SeqS (AsgS (CallB dictM (Cons (LcE LN (Iter (Bin ixM (Var 0) (Cst (.int 0)))) (.n 4) YesT (Tup (Cons (Bin ixM (Var 4) (Cst (.int 0))) (Cons (Bin ixM (Var 4) (Cst (.int 1))) Nil))) [4]) Nil)) (TgN 2))
    (RetS (Bin eqI (LcE LN (IterA enumM (Cons (Var 1) Nil)) (.t [3, 4]) (NotT (Tru (CallD 2 F__law_under (Cons (Bin ixM (Var 2) (Var 4)) (Cons (Sl (Var 1) NoO (SoO (Var 3))) Nil))))) (Var 3) [3, 4]) (Lst Nil))))
def F__law_fits : List IV → M IV := Fn 5 b__law_fits
abbrev s__law_least : Stmt := topS 27
abbrev N__law_least : List Str := ["_law_host_here", "_law_found", "_law_turn", "_law_own"]
def b__law_least : Iv.Env → M Fl :=
    (SeqS (AsgS (Tup Nil) (TgN 1))
    (SeqS (ForS LN (IterA rng1 (Cons (CallB lenM (Cons (Bin ixM (Var 0) (Cst (.int 0))) Nil)) Nil)) (TgN 2) (AsgS (Bin addI (Var 1) (CallB tupleM (Cons (Sl (LcE LN (Iter (Bin ixM (Var 0) (Cst (.int 0)))) (.n 3) (AndT (Tst (Bin (inM true) (Bin ixM (Var 3) (Cst (.int 0))) (Var 1))) (Tru (CallD 2 F__law_under (Cons (Bin ixM (Var 3) (Cst (.int 1))) (Cons (Var 1) Nil))))) (Bin ixM (Var 3) (Cst (.int 0))) [3]) NoO (SoO (Cst (.int 1)))) Nil))) (TgN 1)))
    (RetS (Var 1))))
def F__law_least : List IV → M IV := Fn 4 b__law_least
abbrev s__law_by_hand_right : Stmt := topS 28
abbrev N__law_by_hand_right : List Str := ["_law_host_here", "_law_fine", "_law_odd", "_law_got", "_law_goal", "_law_turned", "_law_eight", "_law_own"]
def b__law_by_hand_right : Iv.Env → M Fl :=
    (SeqS (AsgS (CallD 1 F__law_host (Cons (Cst (.str "a*; b*; c a b; d b / c d")) Nil)) (TgN 0))
    (SeqS (AsgS (LcE LN (Iter (Tup (Cons (Cst (.str "abcd")) (Cons (Cst (.str "abdc")) (Cons (Cst (.str "bacd")) (Cons (Cst (.str "badc")) (Cons (Cst (.str "bdac")) Nil))))))) (.n 7) YesT (CallB tupStrM (Cons (Var 7) Nil)) [7]) (TgN 1))
    (SeqS (AsgS (Lst (Cons (Tup Nil) (Cons (Tup (Cons (Cst (.str "a")) (Cons (Cst (.str "b")) (Cons (Cst (.str "c")) Nil)))) (Cons (CallB tupStrM (Cons (Cst (.str "cabd")) Nil)) (Cons (CallB listStrM (Cons (Cst (.str "abcd")) Nil)) (Cons (CallB tupStrM (Cons (Cst (.str "abcc")) Nil)) (Cons (CallB tupStrM (Cons (Cst (.str "abcdd")) Nil)) (Cons (CallB tupStrM (Cons (Cst (.str "abce")) Nil)) (Cons (Cst .non) Nil))))))))) (TgN 2))
    (SeqS (AsgS (Bin addI (Var 2) (Lst (Cons (Cst (.str "abcd")) (Cons (Cst (.int 5)) Nil)))) (TgN 2))
    (SeqS (AsgS (Bin addI (Var 2) (Lst (Cons (Tup (Cons (Cst (.str "a")) (Cons (Cst (.str "b")) (Cons (Lst (Cons (Cst (.str "c")) Nil)) (Cons (Cst (.str "d")) Nil))))) (Cons (Tup (Cons (Cst (.str "a")) (Cons (Cst (.str "b")) (Cons (Cst .non) (Cons (Cst (.str "d")) Nil))))) (Cons (CallB tupStrM (Cons (Cst (.str "dbac")) Nil)) (Cons (CallB tupStrM (Cons (Cst (.str "acbd")) Nil)) (Cons (CallB tupStrM (Cons (Cst (.str "adbc")) Nil)) Nil))))))) (TgN 2))
    (SeqS (AsgS (Bin addI (Var 2) (Lst (Cons (Cst (.bl true)) (Cons (Lst Nil) Nil)))) (TgN 2))
    (SeqS (AsgS (Bin addI (Var 2) (Lst (Cons (Tup (Cons (Cst (.str "a")) (Cons (Cst (.str "b")) (Cons (Tup (Cons (Cst (.str "c")) Nil)) (Cons (Cst (.str "d")) Nil))))) (Cons (Tup (Cons (Cst (.str "ab")) (Cons (Cst (.str "c")) (Cons (Cst (.str "d")) Nil)))) (Cons (CallB tupStrM (Cons (Cst (.str "aabcd")) Nil)) (Cons NewX (Cons (Tup (Cons (Cst (.str "a")) (Cons (Cst (.str "b")) (Cons (Cst (.str "c")) (Cons NewX Nil))))) Nil))))))) (TgN 2))
    (SeqS (AsgS (Lst (Cons (LcE LN (Iter (Var 1)) (.n 7) YesT (CallD 2 F_is_order (Cons (Var 0) (Cons (Var 7) Nil))) [7]) (Cons (LcE LN (Iter (Var 2)) (.n 7) YesT (CallD 2 F_is_order (Cons (Var 0) (Cons (Var 7) Nil))) [7]) (Cons (CallD 2 F_is_order (Cons (Tup (Cons (Tup Nil) (Cons (Tup Nil) Nil))) (Cons (Tup Nil) Nil))) Nil)))) (TgN 3))
    (SeqS (AsgS (Lst (Cons (Bin repI (Lst (Cons (Cst (.bl true)) Nil)) (Cst (.int 5))) (Cons (Bin repI (Lst (Cons (Cst (.bl false)) Nil)) (CallB lenM (Cons (Var 2) Nil))) (Cons (Cst (.bl true)) Nil)))) (TgN 4))
    (SeqS (AsgS (Bin addI (Var 3) (Lst (Cons (CallD 2 F_is_order (Cons (Tup (Cons (Tup Nil) (Cons (Tup Nil) Nil))) (Cons (Tup (Cons (Cst (.str "a")) Nil)) Nil))) (Cons (CallD 2 F_is_order (Cons (Tup (Cons (Tup Nil) (Cons (Tup Nil) Nil))) (Cons (Lst Nil) Nil))) (Cons (CallD 1 F_least_order (Cons (Var 0) Nil)) (Cons (CallD 1 F_least_order (Cons (Tup (Cons (Tup Nil) (Cons (Tup Nil) Nil))) Nil)) Nil)))))) (TgN 3))
    (SeqS (AsgS (Bin addI (Var 4) (Lst (Cons (Cst (.bl false)) (Cons (Cst (.bl false)) (Cons (CallB tupStrM (Cons (Cst (.str "abcd")) Nil)) (Cons (Tup Nil) Nil)))))) (TgN 4))
    (SeqS (AsgS (Lst (Cons (CallD 1 F__law_host (Cons (Cst (.str "a b; b c; c / a")) Nil)) (Cons (CallD 1 F__law_host (Cons (Cst (.str "a c; b; c* / a b")) Nil)) (Cons (CallD 1 F__law_host (Cons (Cst (.str "a d; b d; c; d / -")) Nil)) Nil)))) (TgN 5))
    (SeqS (AsgS (Bin addI (Var 3) (Lst (Cons (LcE LN (Iter (Var 5)) (.n 7) YesT (CallD 1 F_least_order (Cons (Var 7) Nil)) [7]) (Cons (CallK 1 F_least_order [0] (Cons (CallF 1 (F__law_lists 16) (Cons (Bin ixM (Var 5) (Cst (.int 1))) Nil)) Nil)) Nil)))) (TgN 3))
    (SeqS (AsgS (Bin addI (Var 4) (Lst (Cons (Lst (Cons (CallB tupStrM (Cons (Cst (.str "cba")) Nil)) (Cons (CallB tupStrM (Cons (Cst (.str "bca")) Nil)) (Cons (CallB tupStrM (Cons (Cst (.str "cdab")) Nil)) Nil)))) (Cons (CallB tupStrM (Cons (Cst (.str "bca")) Nil)) Nil)))) (TgN 4))
    (SeqS (AsgS (Bin addI (Var 3) (Lst (Cons (CallD 1 F_least_order (Cons (CallD 1 F__law_host (Cons (Cst (.str "ab; b; c b / -")) Nil)) Nil)) (Cons (CallD 1 F_least_order (Cons (CallD 1 F__law_host (Cons (Cst (.str "aaa b; b; ba; c / -")) Nil)) Nil)) Nil)))) (TgN 3))
    (SeqS (AsgS (Bin addI (Var 4) (Lst (Cons (Tup (Cons (Cst (.str "ab")) (Cons (Cst (.str "b")) (Cons (Cst (.str "c")) Nil)))) (Cons (Tup (Cons (Cst (.str "b")) (Cons (Cst (.str "aaa")) (Cons (Cst (.str "ba")) (Cons (Cst (.str "c")) Nil))))) Nil)))) (TgN 4))
    (SeqS (AsgS (Bin addI (Var 3) (Lst (Cons (CallK 2 F_is_order [1, 0] (Cons (CallB tupStrM (Cons (Cst (.str "cba")) Nil)) (Cons (CallF 1 (F__law_lists 16) (Cons (Bin ixM (Var 5) (Cst (.int 0))) Nil)) Nil))) (Cons (CallD 2 F_is_order (Cons (Bin ixM (Var 5) (Cst (.int 0))) (Cons (CallB tupStrM (Cons (Cst (.str "abc")) Nil)) Nil))) Nil)))) (TgN 3))
    (SeqS (AsgS (Bin addI (Var 4) (Lst (Cons (Cst (.bl true)) (Cons (Cst (.bl false)) Nil)))) (TgN 4))
    (SeqS (AsgS (CallD 1 F__law_host (Cons (Cst (.str "a h; b; c; d; e; f; g; h* g / a")) Nil)) (TgN 6))
    (SeqS (AsgS (Bin addI (Var 3) (Lst (Cons (CallD 1 F_least_order (Cons (Var 6) Nil)) (Cons (CallD 2 F_is_order (Cons (Var 6) (Cons (CallB tupStrM (Cons (Cst (.str "bcdefgha")) Nil)) Nil))) (Cons (CallD 2 F_is_order (Cons (Var 6) (Cons (CallB tupStrM (Cons (Cst (.str "ghabcdef")) Nil)) Nil))) Nil))))) (TgN 3))
    (RetS (CallD 2 (F__law_same 16) (Cons (Var 3) (Cons (Bin addI (Var 4) (Lst (Cons (CallB tupStrM (Cons (Cst (.str "bcdefgha")) Nil)) (Cons (Cst (.bl true)) (Cons (Cst (.bl true)) Nil))))) Nil))))))))))))))))))))))))
def F__law_by_hand_right : List IV → M IV := Fn 8 b__law_by_hand_right
abbrev s__law_right : Stmt := topS 29
abbrev N__law_right : List Str := ["_law_urn", "_law_turn", "_law_host_here", "_law_tags_here", "_law_far", "_law_soft", "_law_got", "_law_lap", "_law_row_so", "_law_k", "_law_odd", "_law_own"]
def b__law_right : Iv.Env → M Fl :=
    (SeqS (ForS LN (IterA rng1 (Cons (Cst (.int 8)) Nil)) (TgN 1) (SeqS (AsgS (CallF 2 F__law_block (Cons (Var 0) (Cons (CallF 2 F__law_take (Cons (Var 0) (Cons (Cst (.int 7)) Nil))) Nil))) (TgN 2))
    (SeqS (AsgS (LcE LN (Iter (Bin ixM (Var 2) (Cst (.int 0)))) (.n 11) YesT (Bin ixM (Var 11) (Cst (.int 0))) [11]) (TgN 3))
    (SeqS (AsgS (CallD 1 F__law_least (Cons (Var 2) Nil)) (TgN 4))
    (SeqS (AsgS (CallF 1 (F__law_lists 16) (Cons (Var 2) Nil)) (TgN 5))
    (SeqS (AsgS (Lst (Cons (CallD 1 F_least_order (Cons (Var 2) Nil)) (Cons (CallD 1 F_least_order (Cons (Var 5) Nil)) (Cons (CallD 2 F_is_order (Cons (Var 5) (Cons (Var 4) Nil))) (Cons (CallD 1 F_least_order (Cons (Var 5) Nil)) (Cons (Var 5) Nil)))))) (TgN 6))
    (SeqS (IfS (NotT (Tru (CallD 2 (F__law_same 16) (Cons (Var 6) (Cons (Lst (Cons (Var 4) (Cons (Var 4) (Cons (Cst (.bl true)) (Cons (Var 4) (Cons (CallF 1 (F__law_lists 16) (Cons (Var 2) Nil)) Nil)))))) Nil))))) (RetS (Cst (.bl false))) NextS)
    (SeqS (ForS LN (IterA rng1 (Cons (Cst (.int 4)) Nil)) (TgN 7) (SeqS (AsgS (CallB tupleM (Cons (CallF 2 F__law_mixed (Cons (Var 0) (Cons (Var 3) Nil))) Nil)) (TgN 8))
    (SeqS (IfS (AndT (Tst (Bin gtI (CallB lenM (Cons (Var 3) Nil)) (Cst (.int 1)))) (Tst (Bin eqI (CallF 2 F__law_take (Cons (Var 0) (Cons (Cst (.int 2)) Nil))) (Cst (.int 0))))) (SeqS (AsgS (CallF 2 F__law_take (Cons (Var 0) (Cons (Bin subI (CallB lenM (Cons (Var 3) Nil)) (Cst (.int 1))) Nil))) (TgN 9))
    (AsgS (Bin addI (Bin addI (Sl (Var 4) NoO (SoO (Var 9))) (Tup (Cons (Bin ixM (Var 4) (Bin addI (Var 9) (Cst (.int 1)))) (Cons (Bin ixM (Var 4) (Var 9)) Nil)))) (Sl (Var 4) (SoO (Bin addI (Var 9) (Cst (.int 2)))) NoO)) (TgN 8))) NextS)
    (IfS (NotT (Tru (CallD 2 (F__law_same 16) (Cons (Lst (Cons (CallD 2 F_is_order (Cons (Var 2) (Cons (Var 8) Nil))) (Cons (CallD 2 F_is_order (Cons (Var 2) (Cons (CallB listM (Cons (Var 8) Nil)) Nil))) Nil))) (Cons (Lst (Cons (CallD 2 F__law_fits (Cons (Var 2) (Cons (Var 8) Nil))) (Cons (Cst (.bl false)) Nil))) Nil))))) (RetS (Cst (.bl false))) NextS))))
    (SeqS (AsgS (Lst (Cons (Bin addI (Var 4) (Tup (Cons (CallF 1 F__law_other (Cons (Var 3) Nil)) Nil))) (Cons (Bin addI (Sl (Var 4) (SoO (Cst (.int 1))) NoO) (Tup (Cons (CallF 1 F__law_other (Cons (Var 3) Nil)) Nil))) Nil))) (TgN 10))
    (IfS (Tst (Bin neI (LcE LN (Iter (Var 10)) (.n 11) (Tru (CallD 2 F_is_order (Cons (CallF 1 (F__law_lists 16) (Cons (Var 2) Nil)) (Cons (Var 11) Nil)))) (Var 11) [11]) (Lst Nil))) (RetS (Cst (.bl false))) NextS))))))))))
    (RetS (Cst (.bl true))))
def F__law_right : List IV → M IV := Fn 12 b__law_right
abbrev s_law : Stmt := topS 30
abbrev N_law : List Str := ["_law_script", "_law_cells_here", "_law_k"]
def b_law : Iv.Env → M Fl :=
    (SeqS (AsgS (CallF 2 F__law_cells (Cons (Var 0) (Cons (Cst (.int 3)) Nil))) (TgN 1))
    (RetS (AndV (CallP 0 F__law_by_hand_right Nil) (CallB allI (Cons (LcE LN (IterA rng1 (Cons (CallB lenM (Cons (Var 1) Nil)) Nil)) (.n 2) YesT (CallF 1 F__law_right (Cons (CallF 2 F__law_box (Cons (Var 1) (Cons (Var 2) Nil))) Nil)) [2]) Nil)))))
def F_law : List IV → M IV := Fn 3 b_law
variable [KL]
section
variable {P : Program} {w : World} {K : PySem.W.Frag} {mg : Str → Option Value} {base : Heap}
/-- the callees -/
theorem sc_tupled : FnScope N_tupled ["value"] (defScope s_tupled) := ⟨rfl, rfl, rfl, by decide +kernel, rfl, by decide +kernel, by decide +kernel⟩
structure Cs_tupled (P : Program) (w : World) (K : PySem.W.Frag) (mg : Str → Option Value) (base : Heap) : Prop where
  mk ::
theorem ok_tupled (hkl : KLOk K) (Z : Exs K mg) (B : Blt mg) (T : TopFn K mg "tupled" s_tupled ["value"]) (C : Cs_tupled P w K mg base) : ∀ k, CallOk P w K mg base "tupled" (k + 1) 1 (F_tupled k)
  | 0 => top_stuck _ T
  | k + 1 => by
    have CG := ok_tupled hkl Z B T C k
    exact top_ok (k := k + 1) T sc_tupled (fun f cdv A outer s H E hr => by
      have hu := Room.hu hr
      have nd := sc_tupled.nd
      exact (pssi_cons (psi_if (pti_tru (pei_isi2 .lst .tup B.isinstance (ty_lst B.list) (ty_tup B.tuple) (pei_var 0))) (pssi_one (psi_ret (pei_tuple B.tuple (pai_cons (pei_lc LN (p := (.n 1)) [("part", 1)] rfl nd (pii_seq (pei_var 0)) (by show blkC N_tupled (defScope s_tupled) _ _ = true; decide +kernel) (fun _ _ _ _ _ => (pg_name (i := 1) nd rfl (by first | exact Or.inl rfl | exact Or.inr rfl))) (fun _ _ _ _ _ => ptsi_nil) (fun _ _ _ _ _ => (pei_callC CG hr (pai_cons (pei_var 1) pai_nil)))) pai_nil)))) pssi_nil)
        (pssi_one (psi_ret (pei_var 0)))))
theorem sc_is_name : FnScope N_is_name ["thing"] (defScope s_is_name) := ⟨rfl, rfl, rfl, by decide +kernel, rfl, by decide +kernel, by decide +kernel⟩
structure Cs_is_name (P : Program) (w : World) (K : PySem.W.Frag) (mg : Str → Option Value) (base : Heap) : Prop where
  mk ::
theorem fn_is_name (hkl : KLOk K) (Z : Exs K mg) (B : Blt mg) (C : Cs_is_name P w K mg base) {f0 : Addr} {fd : FuncData} (F : Fun K "is_name" "is_name" s_is_name f0 fd) : FnOk P w K mg base CX0 1 f0 fd ["thing"] (sp0 1 F_is_name) :=
  def_ok (k := 0) F sc_is_name (fun cdv A outer s H E hr => by
      have hu := Room.hu hr
      have nd := sc_is_name.nd
      exact (pssi_cons (psi_if (pti_not (pti_tru (pei_isiX .str hkl B.isinstance (ty_str B.str) (pei_var 0)))) (pssi_one (psi_ret pei_bl)) pssi_nil)
        (pssi_one (psi_ret (pei_and (pei_lele pei_int (pei_len B.len (pai_cons (pei_var 0) pai_nil)) pei_int) (pei_and (pei_isascii (pei_var 0)) (pei_and (pei_isalpha (pei_var 0)) (pei_one (pei_islower (pei_var 0))))))))))
theorem ok_is_name (hkl : KLOk K) (Z : Exs K mg) (B : Blt mg) (T : TopFn K mg "is_name" s_is_name ["thing"]) (C : Cs_is_name P w K mg base) : CallOk P w K mg base "is_name" 1 1 F_is_name :=
  let ⟨_, _, F, m, b⟩ := T; ⟨_, _, _, fn_is_name hkl Z B C F, m, F.kp, b⟩
theorem sc_is_tuple_of : FnScope N_is_tuple_of ["thing", "many"] (defScope s_is_tuple_of) := ⟨rfl, rfl, rfl, by decide +kernel, rfl, by decide +kernel, by decide +kernel⟩
structure Cs_is_tuple_of (P : Program) (w : World) (K : PySem.W.Frag) (mg : Str → Option Value) (base : Heap) : Prop where
  mk ::
theorem fn_is_tuple_of (hkl : KLOk K) (Z : Exs K mg) (B : Blt mg) (C : Cs_is_tuple_of P w K mg base) {f0 : Addr} {fd : FuncData} (F : Fun K "is_tuple_of" "is_tuple_of" s_is_tuple_of f0 fd) : FnOk P w K mg base CX0 1 f0 fd ["thing", "many"] (sp0 2 F_is_tuple_of) :=
  def_ok (k := 0) F sc_is_tuple_of (fun cdv A outer s H E hr => by
      have hu := Room.hu hr
      have nd := sc_is_tuple_of.nd
      exact (pssi_one (psi_ret (pei_and (pei_isiX .tup hkl B.isinstance (ty_tup B.tuple) (pei_var 0)) (pei_one (pei_eq hu (pei_len B.len (pai_cons (pei_var 0) pai_nil)) (pei_var 1)))))))
theorem ok_is_tuple_of (hkl : KLOk K) (Z : Exs K mg) (B : Blt mg) (T : TopFn K mg "is_tuple_of" s_is_tuple_of ["thing", "many"]) (C : Cs_is_tuple_of P w K mg base) : CallOk P w K mg base "is_tuple_of" 1 2 F_is_tuple_of :=
  let ⟨_, _, F, m, b⟩ := T; ⟨_, _, _, fn_is_tuple_of hkl Z B C F, m, F.kp, b⟩
theorem sc_reads_by_name : FnScope N_reads_by_name ["rows"] (defScope s_reads_by_name) := ⟨rfl, rfl, rfl, by decide +kernel, rfl, by decide +kernel, by decide +kernel⟩
structure Cs_reads_by_name (P : Program) (w : World) (K : PySem.W.Frag) (mg : Str → Option Value) (base : Heap) : Prop where
  mk ::
theorem fn_reads_by_name (hkl : KLOk K) (Z : Exs K mg) (B : Blt mg) (C : Cs_reads_by_name P w K mg base) {f0 : Addr} {fd : FuncData} (F : Fun K "reads_by_name" "reads_by_name" s_reads_by_name f0 fd) : FnOk P w K mg base CX0 1 f0 fd ["rows"] (sp0 1 F_reads_by_name) :=
  def_ok (k := 0) F sc_reads_by_name (fun cdv A outer s H E hr => by
      have hu := Room.hu hr
      have nd := sc_reads_by_name.nd
      exact (pssi_one (psi_ret (pei_dc LN (p := (.n 1)) [("row", 1)] rfl nd (pii_seq (pei_var 0)) (by show blkC N_reads_by_name (defScope s_reads_by_name) _ _ = true; decide +kernel) (fun _ _ _ _ _ => (pg_name (i := 1) nd rfl (by first | exact Or.inl rfl | exact Or.inr rfl))) (fun _ _ _ _ _ => ptsi_nil) (fun _ _ _ _ _ => (pei_ix hu (pei_var 1) pei_int)) (fun _ _ _ _ _ => (pei_ix hu (pei_var 1) pei_int))))))
theorem ok_reads_by_name (hkl : KLOk K) (Z : Exs K mg) (B : Blt mg) (T : TopFn K mg "reads_by_name" s_reads_by_name ["rows"]) (C : Cs_reads_by_name P w K mg base) : CallOk P w K mg base "reads_by_name" 1 1 F_reads_by_name :=
  let ⟨_, _, F, m, b⟩ := T; ⟨_, _, _, fn_reads_by_name hkl Z B C F, m, F.kp, b⟩
theorem sc_next_names : FnScope N_next_names ["reads", "laid"] (defScope s_next_names) := ⟨rfl, rfl, rfl, by decide +kernel, rfl, by decide +kernel, by decide +kernel⟩
structure Cs_next_names (P : Program) (w : World) (K : PySem.W.Frag) (mg : Str → Option Value) (base : Heap) : Prop where
  mk ::
theorem fn_next_names (hkl : KLOk K) (Z : Exs K mg) (B : Blt mg) (C : Cs_next_names P w K mg base) {f0 : Addr} {fd : FuncData} (F : Fun K "next_names" "next_names" s_next_names f0 fd) : FnOk P w K mg base CX0 1 f0 fd ["reads", "laid"] (sp0 2 F_next_names) :=
  def_ok (k := 0) F sc_next_names (fun cdv A outer s H E hr => by
      have hu := Room.hu hr
      have nd := sc_next_names.nd
      exact (pssi_one (psi_ret (pei_sorted hu B.sorted (pai_cons (pei_lock 0 (pei_lc LN (p := (.n 2)) [("name", 2)] rfl nd (pii_seq (pei_var 0)) (by show blkC N_next_names (defScope s_next_names) _ _ = true; decide +kernel) (fun _ _ _ _ _ => (pg_name (i := 2) nd rfl (by first | exact Or.inl rfl | exact Or.inr rfl))) (fun _ _ _ _ _ => (ptsi_one (PWI.pt (pwi_and (pti_nin hu (pei_var 2) (pei_var 1)) (pwi_and1 (pti_tru (pei_all rfl B.all (pai_cons (pei_lc LN (p := (.n 3)) [("one", 3)] rfl nd (pii_seq (pei_ix hu (pei_var 0) (pei_var 2))) (by show blkC N_next_names (relS _ (defScope s_next_names)) _ _ = true; decide +kernel) (fun _ _ _ _ _ => (pg_name (i := 3) nd rfl (by first | exact Or.inl rfl | exact Or.inr rfl))) (fun _ _ _ _ _ => ptsi_nil) (fun _ _ _ _ _ => (pei_in hu (pei_var 3) (pei_var 1)))) pai_nil)))))))) (fun _ _ _ _ _ => (pei_var 2)))) pai_nil)))))
theorem ok_next_names (hkl : KLOk K) (Z : Exs K mg) (B : Blt mg) (T : TopFn K mg "next_names" s_next_names ["reads", "laid"]) (C : Cs_next_names P w K mg base) : CallOk P w K mg base "next_names" 1 2 F_next_names :=
  let ⟨_, _, F, m, b⟩ := T; ⟨_, _, _, fn_next_names hkl Z B C F, m, F.kp, b⟩
theorem sc_is_order_of : FnScope N_is_order_of ["reads", "thing"] (defScope s_is_order_of) := ⟨rfl, rfl, rfl, by decide +kernel, rfl, by decide +kernel, by decide +kernel⟩
structure Cs_is_order_of (P : Program) (w : World) (K : PySem.W.Frag) (mg : Str → Option Value) (base : Heap) : Prop where
  mk ::
  is_name : CallOk P w K mg base "is_name" 1 1 F_is_name
  is_tuple_of : CallOk P w K mg base "is_tuple_of" 1 2 F_is_tuple_of
theorem fn_is_order_of (hkl : KLOk K) (Z : Exs K mg) (B : Blt mg) (C : Cs_is_order_of P w K mg base) {f0 : Addr} {fd : FuncData} (F : Fun K "is_order_of" "is_order_of" s_is_order_of f0 fd) : FnOk P w K mg base CX0 2 f0 fd ["reads", "thing"] (sp0 2 F_is_order_of) :=
  def_ok (k := 1) F sc_is_order_of (fun cdv A outer s H E hr => by
      have hu := Room.hu hr
      have nd := sc_is_order_of.nd
      exact (pssi_cons (psi_if (pti_not (pti_tru (pei_callC C.is_tuple_of (hr.mono (by decide)) (pai_cons (pei_var 1) (pai_cons (pei_len B.len (pai_cons (pei_var 0) pai_nil)) pai_nil))))) (pssi_one (psi_ret pei_bl)) pssi_nil)
        (pssi_cons (psi_set 2 nd pei_dnew)
        (pssi_cons (psi_for LN PassesOwn.never rfl (pii_seq (pei_var 1)) (pgi_name 3 nd) (pssi_cons (psi_if (PWI.pt (pwi_or (pti_not (pti_tru (pei_callC C.is_name (hr.mono (by decide)) (pai_cons (pei_var 3) pai_nil)))) (pwi_or (pti_nin hu (pei_var 3) (pei_var 0)) (pwi_or1 (pti_in hu (pei_var 3) (pei_var 2)))))) (pssi_one (psi_ret pei_bl)) pssi_nil)
        (pssi_cons (psi_if (pti_not (pti_tru (pei_all rfl B.all (pai_cons (pei_lc LN (p := (.n 4)) [("one", 4)] rfl nd (pii_seq (pei_ix hu (pei_var 0) (pei_var 3))) (by show blkC N_is_order_of (defScope s_is_order_of) _ _ = true; decide +kernel) (fun _ _ _ _ _ => (pg_name (i := 4) nd rfl (by first | exact Or.inl rfl | exact Or.inr rfl))) (fun _ _ _ _ _ => ptsi_nil) (fun _ _ _ _ _ => (pei_in hu (pei_var 4) (pei_var 2)))) pai_nil)))) (pssi_one (psi_ret pei_bl)) pssi_nil)
        (pssi_one (psi_asg pei_bl (pgi_sub hu (pei_var 2) (pei_var 3)))))))
        (pssi_one (psi_ret pei_bl))))))
theorem ok_is_order_of (hkl : KLOk K) (Z : Exs K mg) (B : Blt mg) (T : TopFn K mg "is_order_of" s_is_order_of ["reads", "thing"]) (C : Cs_is_order_of P w K mg base) : CallOk P w K mg base "is_order_of" 2 2 F_is_order_of :=
  let ⟨_, _, F, m, b⟩ := T; ⟨_, _, _, fn_is_order_of hkl Z B C F, m, F.kp, b⟩
theorem sc_is_order : FnScope N_is_order ["block", "thing"] (defScope s_is_order) := ⟨rfl, rfl, rfl, by decide +kernel, rfl, by decide +kernel, by decide +kernel⟩
structure Cs_is_order (P : Program) (w : World) (K : PySem.W.Frag) (mg : Str → Option Value) (base : Heap) : Prop where
  mk ::
  tupled : CallOk P w K mg base "tupled" 17 1 (F_tupled 16)
  reads_by_name : CallOk P w K mg base "reads_by_name" 1 1 F_reads_by_name
  is_order_of : CallOk P w K mg base "is_order_of" 2 2 F_is_order_of
theorem fn_is_order (hkl : KLOk K) (Z : Exs K mg) (B : Blt mg) (C : Cs_is_order P w K mg base) {f0 : Addr} {fd : FuncData} (F : Fun K "is_order" "is_order" s_is_order f0 fd) : FnOk P w K mg base CX0 18 f0 fd ["block", "thing"] (sp0 2 F_is_order) :=
  def_ok (k := 17) F sc_is_order (fun cdv A outer s H E hr => by
      have hu := Room.hu hr
      have nd := sc_is_order.nd
      exact (pssi_one (psi_ret (pei_callC C.is_order_of (hr.mono (by decide)) (pai_cons (pei_callC C.reads_by_name (hr.mono (by decide)) (pai_cons (pei_ix hu (pei_callD C.tupled (hr.mono (by decide)) (pai_cons (pei_var 0) pai_nil)) pei_int) pai_nil)) (pai_cons (pei_var 1) pai_nil))))))
theorem ok_is_order (hkl : KLOk K) (Z : Exs K mg) (B : Blt mg) (T : TopFn K mg "is_order" s_is_order ["block", "thing"]) (C : Cs_is_order P w K mg base) : CallOk P w K mg base "is_order" 18 2 F_is_order :=
  let ⟨_, _, F, m, b⟩ := T; ⟨_, _, _, fn_is_order hkl Z B C F, m, F.kp, b⟩
theorem sc_least_order : FnScope N_least_order ["block"] (defScope s_least_order) := ⟨rfl, rfl, rfl, by decide +kernel, rfl, by decide +kernel, by decide +kernel⟩
structure Cs_least_order (P : Program) (w : World) (K : PySem.W.Frag) (mg : Str → Option Value) (base : Heap) : Prop where
  mk ::
  tupled : CallOk P w K mg base "tupled" 17 1 (F_tupled 16)
  reads_by_name : CallOk P w K mg base "reads_by_name" 1 1 F_reads_by_name
  next_names : CallOk P w K mg base "next_names" 1 2 F_next_names
theorem fn_least_order (hkl : KLOk K) (Z : Exs K mg) (B : Blt mg) (C : Cs_least_order P w K mg base) {f0 : Addr} {fd : FuncData} (F : Fun K "least_order" "least_order" s_least_order f0 fd) : FnOk P w K mg base CX0 18 f0 fd ["block"] (sp0 1 F_least_order) :=
  def_ok (k := 17) F sc_least_order (fun cdv A outer s H E hr => by
      have hu := Room.hu hr
      have nd := sc_least_order.nd
      exact (pssi_cons (psi_set 1 nd (pei_callC C.reads_by_name (hr.mono (by decide)) (pai_cons (pei_ix hu (pei_callD C.tupled (hr.mono (by decide)) (pai_cons (pei_var 0) pai_nil)) pei_int) pai_nil)))
        (pssi_cons (psi_set 2 nd pei_dnew)
        (pssi_cons (psi_lock 1 (psi_for LN PassesOwn.never rfl (pii_seq (pei_var 1)) (pgi_name 3 nd) (pssi_one (psi_asg pei_bl (pgi_sub hu (pei_var 2) (pei_ix hu (pei_callC C.next_names (hr.mono (by decide)) (pai_cons (pei_var 1) (pai_cons (pei_var 2) pai_nil))) pei_int))))))
        (pssi_one (psi_ret (pei_tupD rfl B.tuple (pai_cons (pei_var 2) pai_nil))))))))
theorem ok_least_order (hkl : KLOk K) (Z : Exs K mg) (B : Blt mg) (T : TopFn K mg "least_order" s_least_order ["block"]) (C : Cs_least_order P w K mg base) : CallOk P w K mg base "least_order" 18 1 F_least_order :=
  let ⟨_, _, F, m, b⟩ := T; ⟨_, _, _, fn_least_order hkl Z B C F, m, F.kp, b⟩
theorem sc__law_box : FnScope N__law_box ["_law_script", "_law_k"] (defScope s__law_box) := ⟨rfl, rfl, rfl, by decide +kernel, rfl, by decide +kernel, by decide +kernel⟩
structure Cs__law_box (P : Program) (w : World) (K : PySem.W.Frag) (mg : Str → Option Value) (base : Heap) : Prop where
  mk ::
theorem fn__law_box (hkl : KLOk K) (Z : Exs K mg) (B : Blt mg) (C : Cs__law_box P w K mg base) {f0 : Addr} {fd : FuncData} (F : Fun K "_law_box" "_law_box" s__law_box f0 fd) : FnOk P w K mg base CX0 1 f0 fd ["_law_script", "_law_k"] (sp0 2 F__law_box) :=
  def_ok (k := 0) F sc__law_box (fun cdv A outer s H E hr => by
      have hu := Room.hu hr
      have nd := sc__law_box.nd
      exact (pssi_cons (psi_set 2 nd (pei_ifE (pti_lt (pei_var 1) (pei_len B.len (pai_cons (pei_var 0) pai_nil))) (pei_ix hu (pei_var 0) (pei_var 1)) pei_int))
        (pssi_one (psi_ret (pei_lst (pai_cons (pei_mul (pei_abs B.abs (pai_cons (pei_var 2) pai_nil)) (pei_intc B.int (pai_cons (pei_ge (pei_abs B.abs (pai_cons (pei_var 2) pai_nil)) (pei_pow pei_int pei_int)) pai_nil))) (pai_cons (pei_add (pei_add (pei_mod (pei_intc B.int (pai_cons (pei_var 2) pai_nil)) pei_int) (pei_mul pei_int (pei_var 1))) pei_int) (pai_cons pei_int pai_nil))))))))
theorem ok__law_box (hkl : KLOk K) (Z : Exs K mg) (B : Blt mg) (T : TopFn K mg "_law_box" s__law_box ["_law_script", "_law_k"]) (C : Cs__law_box P w K mg base) : CallOk P w K mg base "_law_box" 1 2 F__law_box :=
  let ⟨_, _, F, m, b⟩ := T; ⟨_, _, _, fn__law_box hkl Z B C F, m, F.kp, b⟩
theorem sc__law_take : FnScope N__law_take ["_law_urn", "_law_low_so"] (defScope s__law_take) := ⟨rfl, rfl, rfl, by decide +kernel, rfl, by decide +kernel, by decide +kernel⟩
structure Cs__law_take (P : Program) (w : World) (K : PySem.W.Frag) (mg : Str → Option Value) (base : Heap) : Prop where
  mk ::
theorem fn__law_take (hkl : KLOk K) (Z : Exs K mg) (B : Blt mg) (C : Cs__law_take P w K mg base) {f0 : Addr} {fd : FuncData} (F : Fun K "_law_take" "_law_take" s__law_take f0 fd) : FnOk P w K mg base CX0 1 f0 fd ["_law_urn", "_law_low_so"] (sp0 2 F__law_take) :=
  def_ok (k := 0) F sc__law_take (fun cdv A outer s H E hr => by
      have hu := Room.hu hr
      have nd := sc__law_take.nd
      exact (pssi_cons (psi_if (pti_gt (pei_ix hu (pei_var 0) pei_int) pei_int) (pssi_cons (psi_set 2 nd (pei_mod (pei_intc B.int (pai_cons (pei_ix hu (pei_var 0) pei_int) pai_nil)) (pei_var 1)))
        (pssi_cons (psi_asg (pei_div (pei_ix hu (pei_var 0) pei_int) (pei_var 1)) (pgi_sub hu (pei_var 0) pei_int))
        (pssi_one (psi_ret (pei_var 2))))) pssi_nil)
        (pssi_cons (psi_asg (pei_add (pei_ix hu (pei_var 0) pei_int) pei_int) (pgi_sub hu (pei_var 0) pei_int))
        (pssi_cons (psi_set 3 nd (pei_mod (pei_intc B.int (pai_cons (pei_mul (pei_add (pei_ix hu (pei_var 0) pei_int) (pei_mul pei_int (pei_ix hu (pei_var 0) pei_int))) (pei_add pei_int (pei_ix hu (pei_var 0) pei_int))) pai_nil)) pei_int))
        (pssi_cons (psi_set 4 nd (pei_add (pei_mod (pei_intc B.int (pai_cons (pei_var 3) pai_nil)) pei_int) pei_int))
        (pssi_cons (psi_set 5 nd (pei_mod (pei_intc B.int (pai_cons (pei_mul (pei_add (pei_add (pei_var 3) (pei_ix hu (pei_var 0) pei_int)) (pei_div (pei_ix hu (pei_var 0) pei_int) pei_int)) (pei_var 4)) pai_nil)) pei_int))
        (pssi_one (psi_ret (pei_mod (pei_intc B.int (pai_cons (pei_div (pei_mod (pei_intc B.int (pai_cons (pei_add (pei_mul (pei_var 5) pei_int) (pei_var 3)) pai_nil)) pei_int) pei_int) pai_nil)) (pei_var 1))))))))))
theorem ok__law_take (hkl : KLOk K) (Z : Exs K mg) (B : Blt mg) (T : TopFn K mg "_law_take" s__law_take ["_law_urn", "_law_low_so"]) (C : Cs__law_take P w K mg base) : CallOk P w K mg base "_law_take" 1 2 F__law_take :=
  let ⟨_, _, F, m, b⟩ := T; ⟨_, _, _, fn__law_take hkl Z B C F, m, F.kp, b⟩
theorem sc__law_cells : FnScope N__law_cells ["_law_script", "_law_top"] (defScope s__law_cells) := ⟨rfl, rfl, rfl, by decide +kernel, rfl, by decide +kernel, by decide +kernel⟩
structure Cs__law_cells (P : Program) (w : World) (K : PySem.W.Frag) (mg : Str → Option Value) (base : Heap) : Prop where
  mk ::
theorem fn__law_cells (hkl : KLOk K) (Z : Exs K mg) (B : Blt mg) (C : Cs__law_cells P w K mg base) {f0 : Addr} {fd : FuncData} (F : Fun K "_law_cells" "_law_cells" s__law_cells f0 fd) : FnOk P w K mg base CX0 1 f0 fd ["_law_script", "_law_top"] (sp0 2 F__law_cells) :=
  def_ok (k := 0) F sc__law_cells (fun cdv A outer s H E hr => by
      have hu := Room.hu hr
      have nd := sc__law_cells.nd
      exact (pssi_cons (psi_set 2 nd (pei_or (pei_list rfl B.list (pai_cons (pei_sl hkl.l (pei_var 0) poi_none (poi_some (pei_var 1))) pai_nil)) (pei_one (pei_lst (pai_cons pei_int pai_nil)))))
        (pssi_cons (psi_for LN PassesOwn.never rfl (pii_enum B.enumerate (pai_cons (pei_sl hkl.l (pei_var 0) (poi_some (pei_var 1)) (poi_some pei_int)) pai_nil)) (pgi_un 2 rfl (pgsi_cons (pgi_name 3 nd) (pgsi_cons (pgi_name 4 nd) pgsi_nil))) (pssi_cons (psi_set 5 nd (pei_mod (pei_intc B.int (pai_cons (pei_var 3) pai_nil)) (pei_var 1)))
        (pssi_one (psi_asg (pei_add (pei_ix hu (pei_var 2) (pei_var 5)) (pei_mul (pei_var 4) (pei_add (pei_var 3) pei_int))) (pgi_sub hu (pei_var 2) (pei_var 5))))))
        (pssi_one (psi_ret (pei_var 2))))))
theorem ok__law_cells (hkl : KLOk K) (Z : Exs K mg) (B : Blt mg) (T : TopFn K mg "_law_cells" s__law_cells ["_law_script", "_law_top"]) (C : Cs__law_cells P w K mg base) : CallOk P w K mg base "_law_cells" 1 2 F__law_cells :=
  let ⟨_, _, F, m, b⟩ := T; ⟨_, _, _, fn__law_cells hkl Z B C F, m, F.kp, b⟩
theorem sc__law_of : FnScope N__law_of ["_law_urn", "_law_some_so"] (defScope s__law_of) := ⟨rfl, rfl, rfl, by decide +kernel, rfl, by decide +kernel, by decide +kernel⟩
structure Cs__law_of (P : Program) (w : World) (K : PySem.W.Frag) (mg : Str → Option Value) (base : Heap) : Prop where
  mk ::
  _law_take : CallOk P w K mg base "_law_take" 1 2 F__law_take
theorem fn__law_of (hkl : KLOk K) (Z : Exs K mg) (B : Blt mg) (C : Cs__law_of P w K mg base) {f0 : Addr} {fd : FuncData} (F : Fun K "_law_of" "_law_of" s__law_of f0 fd) : FnOk P w K mg base CX0 2 f0 fd ["_law_urn", "_law_some_so"] (sp0 2 F__law_of) :=
  def_ok (k := 1) F sc__law_of (fun cdv A outer s H E hr => by
      have hu := Room.hu hr
      have nd := sc__law_of.nd
      exact (pssi_one (psi_ret (pei_ix hu (pei_var 1) (pei_callC C._law_take (hr.mono (by decide)) (pai_cons (pei_var 0) (pai_cons (pei_len B.len (pai_cons (pei_var 1) pai_nil)) pai_nil)))))))
theorem ok__law_of (hkl : KLOk K) (Z : Exs K mg) (B : Blt mg) (T : TopFn K mg "_law_of" s__law_of ["_law_urn", "_law_some_so"]) (C : Cs__law_of P w K mg base) : CallOk P w K mg base "_law_of" 2 2 F__law_of :=
  let ⟨_, _, F, m, b⟩ := T; ⟨_, _, _, fn__law_of hkl Z B C F, m, F.kp, b⟩
theorem sc__law_same : FnScope N__law_same ["_law_got", "_law_goal"] (defScope s__law_same) := ⟨rfl, rfl, rfl, by decide +kernel, rfl, by decide +kernel, by decide +kernel⟩
structure Cs__law_same (P : Program) (w : World) (K : PySem.W.Frag) (mg : Str → Option Value) (base : Heap) : Prop where
  mk ::
theorem ok__law_same (hkl : KLOk K) (Z : Exs K mg) (B : Blt mg) (T : TopFn K mg "_law_same" s__law_same ["_law_got", "_law_goal"]) (C : Cs__law_same P w K mg base) : ∀ k, CallOk P w K mg base "_law_same" (k + 1) 2 (F__law_same k)
  | 0 => top_stuck _ T
  | k + 1 => by
    have CG := ok__law_same hkl Z B T C k
    exact top_ok (k := k + 1) T sc__law_same (fun f cdv A outer s H E hr => by
      have hu := Room.hu hr
      have nd := sc__law_same.nd
      exact (pssi_cons (psi_if (pti_tru (pei_isi2 .lst .tup B.isinstance (ty_lst B.list) (ty_tup B.tuple) (pei_var 1))) (pssi_cons (psi_if (PWI.pt (pwi_or (pti_ne hu (pei_isi1 .lst B.isinstance (ty_lst B.list) (pei_var 0)) (pei_isi1 .lst B.isinstance (ty_lst B.list) (pei_var 1))) (pwi_or1 (pti_ne hu (pei_isi1 .tup B.isinstance (ty_tup B.tuple) (pei_var 0)) (pei_isi1 .tup B.isinstance (ty_tup B.tuple) (pei_var 1)))))) (pssi_one (psi_ret pei_bl)) pssi_nil)
        (pssi_one (psi_ret (pei_and (pei_eq hu (pei_len B.len (pai_cons (pei_var 0) pai_nil)) (pei_len B.len (pai_cons (pei_var 1) pai_nil))) (pei_one (pei_all rfl B.all (pai_cons (pei_lc LN (p := (.t [2, 3])) [("_law_mine_so", 2), ("_law_own", 3)] rfl nd (pii_zip B.zip (pai_cons (pei_var 0) (pai_cons (pei_var 1) pai_nil))) (by show blkC N__law_same (defScope s__law_same) _ _ = true; decide +kernel) (fun _ _ _ _ _ => (pg_tup rfl (pgs_cons (pg_name (i := 2) nd rfl (by first | exact Or.inl rfl | exact Or.inr rfl)) (pgs_cons (pg_name (i := 3) nd rfl (by first | exact Or.inl rfl | exact Or.inr rfl)) pgs_nil)))) (fun _ _ _ _ _ => ptsi_nil) (fun _ _ _ _ _ => (pei_callC CG hr (pai_cons (pei_var 2) (pai_cons (pei_var 3) pai_nil))))) pai_nil))))))) pssi_nil)
        (pssi_cons (psi_if (PWI.pt (pwi_or (pti_isN (pei_var 1)) (pwi_or1 (pti_tru (pei_isi2 .bl .str B.isinstance (ty_bl B.bool) (ty_str B.str) (pei_var 1)))))) (pssi_one (psi_ret (pei_and (pei_eq hu (pei_var 0) (pei_var 1)) (pei_and (pei_eq hu (pei_isi1 .bl B.isinstance (ty_bl B.bool) (pei_var 0)) (pei_isi1 .bl B.isinstance (ty_bl B.bool) (pei_var 1))) (pei_one (pei_eq hu (pei_isN (pei_var 0)) (pei_isN (pei_var 1)))))))) pssi_nil)
        (pssi_one (psi_ret (pei_and (pei_isi1 .int B.isinstance (ty_int B.int) (pei_var 0)) (pei_and (pei_notV (pei_isi1 .bl B.isinstance (ty_bl B.bool) (pei_var 0))) (pei_one (pei_eq hu (pei_var 0) (pei_var 1))))))))))
theorem sc__law_lists : FnScope N__law_lists ["_law_thing_so"] (defScope s__law_lists) := ⟨rfl, rfl, rfl, by decide +kernel, rfl, by decide +kernel, by decide +kernel⟩
structure Cs__law_lists (P : Program) (w : World) (K : PySem.W.Frag) (mg : Str → Option Value) (base : Heap) : Prop where
  mk ::
theorem ok__law_lists (hkl : KLOk K) (Z : Exs K mg) (B : Blt mg) (T : TopFn K mg "_law_lists" s__law_lists ["_law_thing_so"]) (C : Cs__law_lists P w K mg base) : ∀ k, CallOk P w K mg base "_law_lists" (k + 1) 1 (F__law_lists k)
  | 0 => top_stuck _ T
  | k + 1 => by
    have CG := ok__law_lists hkl Z B T C k
    exact top_ok (k := k + 1) T sc__law_lists (fun f cdv A outer s H E hr => by
      have hu := Room.hu hr
      have nd := sc__law_lists.nd
      exact (pssi_one (psi_ret (pei_ifE (pti_tru (pei_isi2 .lst .tup B.isinstance (ty_lst B.list) (ty_tup B.tuple) (pei_var 0))) (pei_lc LN (p := (.n 1)) [("_law_bit", 1)] rfl nd (pii_seq (pei_var 0)) (by show blkC N__law_lists (defScope s__law_lists) _ _ = true; decide +kernel) (fun _ _ _ _ _ => (pg_name (i := 1) nd rfl (by first | exact Or.inl rfl | exact Or.inr rfl))) (fun _ _ _ _ _ => ptsi_nil) (fun _ _ _ _ _ => (pei_callC CG hr (pai_cons (pei_var 1) pai_nil)))) (pei_var 0)))))
theorem sc__law_mixed : FnScope N__law_mixed ["_law_urn", "_law_pool"] (defScope s__law_mixed) := ⟨rfl, rfl, rfl, by decide +kernel, rfl, by decide +kernel, by decide +kernel⟩
structure Cs__law_mixed (P : Program) (w : World) (K : PySem.W.Frag) (mg : Str → Option Value) (base : Heap) : Prop where
  mk ::
  _law_take : CallOk P w K mg base "_law_take" 1 2 F__law_take
theorem fn__law_mixed (hkl : KLOk K) (Z : Exs K mg) (B : Blt mg) (C : Cs__law_mixed P w K mg base) {f0 : Addr} {fd : FuncData} (F : Fun K "_law_mixed" "_law_mixed" s__law_mixed f0 fd) : FnOk P w K mg base CX0 2 f0 fd ["_law_urn", "_law_pool"] (sp0 2 F__law_mixed) :=
  def_ok (k := 1) F sc__law_mixed (fun cdv A outer s H E hr => by
      have hu := Room.hu hr
      have nd := sc__law_mixed.nd
      exact (pssi_cons (psi_par 2 3 rfl nd (pai_cons (pei_list rfl B.list (pai_cons (pei_var 1) pai_nil)) (pai_cons (pei_lst pai_nil) pai_nil)))
        (pssi_cons (psi_for LN PassesOwn.never rfl (pii_range1 B.range (pai_cons (pei_len B.len (pai_cons (pei_var 1) pai_nil)) pai_nil)) (pgi_name 4 nd) (pssi_one (psi_expr (pei_append (pei_var 3) (pai_cons (pei_popAt (pei_var 2) (pai_cons (pei_callC C._law_take (hr.mono (by decide)) (pai_cons (pei_var 0) (pai_cons (pei_len B.len (pai_cons (pei_var 2) pai_nil)) pai_nil))) pai_nil)) pai_nil)))))
        (pssi_one (psi_ret (pei_var 3))))))
theorem ok__law_mixed (hkl : KLOk K) (Z : Exs K mg) (B : Blt mg) (T : TopFn K mg "_law_mixed" s__law_mixed ["_law_urn", "_law_pool"]) (C : Cs__law_mixed P w K mg base) : CallOk P w K mg base "_law_mixed" 2 2 F__law_mixed :=
  let ⟨_, _, F, m, b⟩ := T; ⟨_, _, _, fn__law_mixed hkl Z B C F, m, F.kp, b⟩
theorem sc__law_tags : FnScope N__law_tags ["_law_urn", "_law_many_so"] (defScope s__law_tags) := ⟨rfl, rfl, rfl, by decide +kernel, rfl, by decide +kernel, by decide +kernel⟩
structure Cs__law_tags (P : Program) (w : World) (K : PySem.W.Frag) (mg : Str → Option Value) (base : Heap) : Prop where
  mk ::
  _law_take : CallOk P w K mg base "_law_take" 1 2 F__law_take
  _law_of : CallOk P w K mg base "_law_of" 2 2 F__law_of
theorem fn__law_tags (hkl : KLOk K) (Z : Exs K mg) (B : Blt mg) (C : Cs__law_tags P w K mg base) {f0 : Addr} {fd : FuncData} (F : Fun K "_law_tags" "_law_tags" s__law_tags f0 fd) : FnOk P w K mg base CX0 3 f0 fd ["_law_urn", "_law_many_so"] (sp0 2 F__law_tags) :=
  def_ok (k := 2) F sc__law_tags (fun cdv A outer s H E hr => by
      have hu := Room.hu hr
      have nd := sc__law_tags.nd
      exact (pssi_cons (psi_set 2 nd pei_str)
        (pssi_cons (psi_asg (pei_tup (pai_cons (pei_callC C._law_take (hr.mono (by decide)) (pai_cons (pei_var 0) (pai_cons pei_int pai_nil))) (pai_cons (pei_callC C._law_of (hr.mono (by decide)) (pai_cons (pei_var 0) (pai_cons (pei_lst (pai_cons pei_int (pai_cons pei_int (pai_cons pei_int (pai_cons pei_int (pai_cons pei_int pai_nil)))))) pai_nil))) pai_nil))) (pgi_un 2 rfl (pgsi_cons (pgi_name 3 nd) (pgsi_cons (pgi_name 4 nd) pgsi_nil))))
        (pssi_cons (psi_set 5 nd (pei_lc LN (p := (.n 8)) [("_law_k", 8)] rfl nd (pii_range1 B.range (pai_cons (pei_max2 rfl B.max (pai_cons pei_int (pai_cons (pei_var 1) pai_nil))) pai_nil)) (by show blkC N__law_tags (defScope s__law_tags) _ _ = true; decide +kernel) (fun _ _ _ _ _ => (pg_name (i := 8) nd rfl (by first | exact Or.inl rfl | exact Or.inr rfl))) (fun _ _ _ _ _ => ptsi_nil) (fun _ _ _ _ _ => (pei_ix hu (pei_var 2) (pei_mod (pei_intc B.int (pai_cons (pei_add (pei_var 3) (pei_mul (pei_var 4) (pei_var 8))) pai_nil)) pei_int)))))
        (pssi_cons (psi_if (PWI.pt (pwi_and (pti_lt (pei_var 1) pei_int) (pwi_and1 (pti_eq hu (pei_callC C._law_take (hr.mono (by decide)) (pai_cons (pei_var 0) (pai_cons pei_int pai_nil))) pei_int)))) (pssi_one (psi_ret (pei_sorted hu B.sorted (pai_cons (pei_lc LN (p := (.n 8)) [("_law_k", 8)] rfl nd (pii_range1 B.range (pai_cons (pei_var 1) pai_nil)) (by show blkC N__law_tags (defScope s__law_tags) _ _ = true; decide +kernel) (fun _ _ _ _ _ => (pg_name (i := 8) nd rfl (by first | exact Or.inl rfl | exact Or.inr rfl))) (fun _ _ _ _ _ => ptsi_nil) (fun _ _ _ _ _ => (pei_join pei_str (pai_cons (pei_sl hkl.l (pei_var 5) poi_none (poi_some (pei_add (pei_var 8) pei_int))) pai_nil)))) pai_nil)))) pssi_nil)
        (pssi_cons (psi_set 6 nd (pei_join pei_str (pai_cons (pei_lc LN (p := (.n 9)) [("_law_turn", 9)] rfl nd (pii_range1 B.range (pai_cons (pei_callC C._law_of (hr.mono (by decide)) (pai_cons (pei_var 0) (pai_cons (pei_lst (pai_cons pei_int (pai_cons pei_int (pai_cons pei_int (pai_cons pei_int (pai_cons pei_int pai_nil)))))) pai_nil))) pai_nil)) (by show blkC N__law_tags (defScope s__law_tags) _ _ = true; decide +kernel) (fun _ _ _ _ _ => (pg_name (i := 9) nd rfl (by first | exact Or.inl rfl | exact Or.inr rfl))) (fun _ _ _ _ _ => ptsi_nil) (fun _ _ _ _ _ => (pei_ix hu (pei_var 2) (pei_callC C._law_take (hr.mono (by decide)) (pai_cons (pei_var 0) (pai_cons pei_int pai_nil)))))) pai_nil)))
        (pssi_cons (psi_set 7 nd (pei_callC C._law_take (hr.mono (by decide)) (pai_cons (pei_var 0) (pai_cons (pei_add (pei_len B.len (pai_cons (pei_var 6) pai_nil)) pei_int) pai_nil))))
        (pssi_one (psi_ret (pei_sorted hu B.sorted (pai_cons (pei_lc LN (p := (.n 8)) [("_law_k", 8)] rfl nd (pii_range1 B.range (pai_cons (pei_var 1) pai_nil)) (by show blkC N__law_tags (defScope s__law_tags) _ _ = true; decide +kernel) (fun _ _ _ _ _ => (pg_name (i := 8) nd rfl (by first | exact Or.inl rfl | exact Or.inr rfl))) (fun _ _ _ _ _ => ptsi_nil) (fun _ _ _ _ _ => (pei_add (pei_add (pei_sl hkl.l (pei_var 6) poi_none (poi_some (pei_var 7))) (pei_ix hu (pei_var 5) (pei_var 8))) (pei_sl hkl.l (pei_var 6) (poi_some (pei_var 7)) poi_none)))) pai_nil)))))))))))
theorem ok__law_tags (hkl : KLOk K) (Z : Exs K mg) (B : Blt mg) (T : TopFn K mg "_law_tags" s__law_tags ["_law_urn", "_law_many_so"]) (C : Cs__law_tags P w K mg base) : CallOk P w K mg base "_law_tags" 3 2 F__law_tags :=
  let ⟨_, _, F, m, b⟩ := T; ⟨_, _, _, fn__law_tags hkl Z B C F, m, F.kp, b⟩
theorem sc__law_names : FnScope N__law_names ["_law_urn", "_law_many_so"] (defScope s__law_names) := ⟨rfl, rfl, rfl, by decide +kernel, rfl, by decide +kernel, by decide +kernel⟩
structure Cs__law_names (P : Program) (w : World) (K : PySem.W.Frag) (mg : Str → Option Value) (base : Heap) : Prop where
  mk ::
  _law_mixed : CallOk P w K mg base "_law_mixed" 2 2 F__law_mixed
  _law_tags : CallOk P w K mg base "_law_tags" 3 2 F__law_tags
theorem fn__law_names (hkl : KLOk K) (Z : Exs K mg) (B : Blt mg) (C : Cs__law_names P w K mg base) {f0 : Addr} {fd : FuncData} (F : Fun K "_law_names" "_law_names" s__law_names f0 fd) : FnOk P w K mg base CX0 4 f0 fd ["_law_urn", "_law_many_so"] (sp0 2 F__law_names) :=
  def_ok (k := 3) F sc__law_names (fun cdv A outer s H E hr => by
      have hu := Room.hu hr
      have nd := sc__law_names.nd
      exact (pssi_one (psi_ret (pei_callC C._law_mixed (hr.mono (by decide)) (pai_cons (pei_var 0) (pai_cons (pei_callC C._law_tags (hr.mono (by decide)) (pai_cons (pei_var 0) (pai_cons (pei_var 1) pai_nil))) pai_nil))))))
theorem ok__law_names (hkl : KLOk K) (Z : Exs K mg) (B : Blt mg) (T : TopFn K mg "_law_names" s__law_names ["_law_urn", "_law_many_so"]) (C : Cs__law_names P w K mg base) : CallOk P w K mg base "_law_names" 4 2 F__law_names :=
  let ⟨_, _, F, m, b⟩ := T; ⟨_, _, _, fn__law_names hkl Z B C F, m, F.kp, b⟩
theorem sc__law_other : FnScope N__law_other ["_law_tags_here"] (defScope s__law_other) := ⟨rfl, rfl, rfl, by decide +kernel, rfl, by decide +kernel, by decide +kernel⟩
structure Cs__law_other (P : Program) (w : World) (K : PySem.W.Frag) (mg : Str → Option Value) (base : Heap) : Prop where
  mk ::
theorem fn__law_other (hkl : KLOk K) (Z : Exs K mg) (B : Blt mg) (C : Cs__law_other P w K mg base) {f0 : Addr} {fd : FuncData} (F : Fun K "_law_other" "_law_other" s__law_other f0 fd) : FnOk P w K mg base CX0 1 f0 fd ["_law_tags_here"] (sp0 1 F__law_other) :=
  def_ok (k := 0) F sc__law_other (fun cdv A outer s H E hr => by
      have hu := Room.hu hr
      have nd := sc__law_other.nd
      exact (pssi_cons (psi_set 1 nd (pei_lst (pai_cons pei_str (pai_cons pei_str (pai_cons pei_str (pai_cons pei_str (pai_cons pei_str (pai_cons pei_str (pai_cons pei_str (pai_cons pei_str (pai_cons pei_str (pai_cons pei_str (pai_cons pei_str (pai_cons pei_str pai_nil))))))))))))))
        (pssi_one (psi_ret (pei_ix hu (pei_lc LN (p := (.n 2)) [("_law_own", 2)] rfl nd (pii_seq (pei_var 1)) (by show blkC N__law_other (defScope s__law_other) _ _ = true; decide +kernel) (fun _ _ _ _ _ => (pg_name (i := 2) nd rfl (by first | exact Or.inl rfl | exact Or.inr rfl))) (fun _ _ _ _ _ => (ptsi_one (pti_nin hu (pei_var 2) (pei_var 0)))) (fun _ _ _ _ _ => (pei_var 2))) pei_int)))))
theorem ok__law_other (hkl : KLOk K) (Z : Exs K mg) (B : Blt mg) (T : TopFn K mg "_law_other" s__law_other ["_law_tags_here"]) (C : Cs__law_other P w K mg base) : CallOk P w K mg base "_law_other" 1 1 F__law_other :=
  let ⟨_, _, F, m, b⟩ := T; ⟨_, _, _, fn__law_other hkl Z B C F, m, F.kp, b⟩
theorem sc__law_under : FnScope N__law_under ["_law_near", "_law_far"] (defScope s__law_under) := ⟨rfl, rfl, rfl, by decide +kernel, rfl, by decide +kernel, by decide +kernel⟩
structure Cs__law_under (P : Program) (w : World) (K : PySem.W.Frag) (mg : Str → Option Value) (base : Heap) : Prop where
  mk ::
theorem fn__law_under (hkl : KLOk K) (Z : Exs K mg) (B : Blt mg) (C : Cs__law_under P w K mg base) {f0 : Addr} {fd : FuncData} (F : Fun K "_law_under" "_law_under" s__law_under f0 fd) : FnOk P w K mg base CX0 1 f0 fd ["_law_near", "_law_far"] (sp0 2 F__law_under) :=
  def_ok (k := 0) F sc__law_under (fun cdv A outer s H E hr => by
      have hu := Room.hu hr
      have nd := sc__law_under.nd
      exact (pssi_one (psi_ret (pei_eq hu (pei_lc LN (p := (.n 2)) [("_law_own", 2)] rfl nd (pii_seq (pei_var 0)) (by show blkC N__law_under (defScope s__law_under) _ _ = true; decide +kernel) (fun _ _ _ _ _ => (pg_name (i := 2) nd rfl (by first | exact Or.inl rfl | exact Or.inr rfl))) (fun _ _ _ _ _ => (ptsi_one (pti_nin hu (pei_var 2) (pei_var 1)))) (fun _ _ _ _ _ => (pei_var 2))) (pei_lst pai_nil)))))
theorem ok__law_under (hkl : KLOk K) (Z : Exs K mg) (B : Blt mg) (T : TopFn K mg "_law_under" s__law_under ["_law_near", "_law_far"]) (C : Cs__law_under P w K mg base) : CallOk P w K mg base "_law_under" 1 2 F__law_under :=
  let ⟨_, _, F, m, b⟩ := T; ⟨_, _, _, fn__law_under hkl Z B C F, m, F.kp, b⟩
theorem sc__law_block : FnScope N__law_block ["_law_urn", "_law_many_so"] (defScope s__law_block) := ⟨rfl, rfl, rfl, by decide +kernel, rfl, by decide +kernel, by decide +kernel⟩
structure Cs__law_block (P : Program) (w : World) (K : PySem.W.Frag) (mg : Str → Option Value) (base : Heap) : Prop where
  mk ::
  _law_take : CallOk P w K mg base "_law_take" 1 2 F__law_take
  _law_of : CallOk P w K mg base "_law_of" 2 2 F__law_of
  _law_mixed : CallOk P w K mg base "_law_mixed" 2 2 F__law_mixed
  _law_names : CallOk P w K mg base "_law_names" 4 2 F__law_names
theorem fn__law_block (hkl : KLOk K) (Z : Exs K mg) (B : Blt mg) (C : Cs__law_block P w K mg base) {f0 : Addr} {fd : FuncData} (F : Fun K "_law_block" "_law_block" s__law_block f0 fd) : FnOk P w K mg base CX0 5 f0 fd ["_law_urn", "_law_many_so"] (sp0 2 F__law_block) :=
  def_ok (k := 4) F sc__law_block (fun cdv A outer s H E hr => by
      have hu := Room.hu hr
      have nd := sc__law_block.nd
      exact (pssi_cons (psi_par 2 3 rfl nd (pai_cons (pei_callC C._law_names (hr.mono (by decide)) (pai_cons (pei_var 0) (pai_cons (pei_var 1) pai_nil))) (pai_cons (pei_lst pai_nil) pai_nil)))
        (pssi_cons (psi_for LN PassesOwn.never rfl (pii_enum B.enumerate (pai_cons (pei_var 2) pai_nil)) (pgi_un 2 rfl (pgsi_cons (pgi_name 4 nd) (pgsi_cons (pgi_name 5 nd) pgsi_nil))) (pssi_cons (psi_set 6 nd (pei_sl hkl.l (pei_callC C._law_mixed (hr.mono (by decide)) (pai_cons (pei_var 0) (pai_cons (pei_sl hkl.l (pei_var 2) poi_none (poi_some (pei_var 4))) pai_nil))) poi_none (poi_some (pei_callC C._law_of (hr.mono (by decide)) (pai_cons (pei_var 0) (pai_cons (pei_lst (pai_cons pei_int (pai_cons pei_int (pai_cons pei_int (pai_cons pei_int (pai_cons pei_int pai_nil)))))) pai_nil))))))
        (pssi_one (psi_expr (pei_append (pei_var 3) (pai_cons (pei_tup (pai_cons (pei_var 5) (pai_cons (pei_tuple B.tuple (pai_cons (pei_sorted hu B.sorted (pai_cons (pei_var 6) pai_nil)) pai_nil)) (pai_cons (pei_eq hu (pei_callC C._law_take (hr.mono (by decide)) (pai_cons (pei_var 0) (pai_cons pei_int pai_nil))) pei_int) pai_nil)))) pai_nil))))))
        (pssi_one (psi_ret (pei_tup (pai_cons (pei_tuple B.tuple (pai_cons (pei_sorted hu B.sorted (pai_cons (pei_var 3) pai_nil)) pai_nil)) (pai_cons (pei_tuple B.tuple (pai_cons (pei_lc LN (p := (.n 5)) [("_law_own", 5)] rfl nd (pii_seq (pei_sorted hu B.sorted (pai_cons (pei_var 2) pai_nil))) (by show blkC N__law_block (defScope s__law_block) _ _ = true; decide +kernel) (fun _ _ _ _ _ => (pg_name (i := 5) nd rfl (by first | exact Or.inl rfl | exact Or.inr rfl))) (fun _ _ _ _ _ => (ptsi_one (pti_eq hu (pei_callC C._law_take (hr.mono (by decide)) (pai_cons (pei_var 0) (pai_cons pei_int pai_nil))) pei_int))) (fun _ _ _ _ _ => (pei_var 5))) pai_nil)) pai_nil))))))))
theorem ok__law_block (hkl : KLOk K) (Z : Exs K mg) (B : Blt mg) (T : TopFn K mg "_law_block" s__law_block ["_law_urn", "_law_many_so"]) (C : Cs__law_block P w K mg base) : CallOk P w K mg base "_law_block" 5 2 F__law_block :=
  let ⟨_, _, F, m, b⟩ := T; ⟨_, _, _, fn__law_block hkl Z B C F, m, F.kp, b⟩
theorem sc__law_host : FnScope N__law_host ["_law_flat"] (defScope s__law_host) := ⟨rfl, rfl, rfl, by decide +kernel, rfl, by decide +kernel, by decide +kernel⟩
structure Cs__law_host (P : Program) (w : World) (K : PySem.W.Frag) (mg : Str → Option Value) (base : Heap) : Prop where
  mk ::
theorem fn__law_host (hkl : KLOk K) (Z : Exs K mg) (B : Blt mg) (C : Cs__law_host P w K mg base) {f0 : Addr} {fd : FuncData} (F : Fun K "_law_host" "_law_host" s__law_host f0 fd) : FnOk P w K mg base CX0 1 f0 fd ["_law_flat"] (sp0 1 F__law_host) :=
  def_ok (k := 0) F sc__law_host (fun cdv A outer s H E hr => by
      have hu := Room.hu hr
      have nd := sc__law_host.nd
      exact (pssi_cons (psi_asg (pei_split (pei_var 0) (pai_cons pei_str pai_nil)) (pgi_un 2 rfl (pgsi_cons (pgi_name 1 nd) (pgsi_cons (pgi_name 2 nd) pgsi_nil))))
        (pssi_cons (psi_set 3 nd (pei_lst pai_nil))
        (pssi_cons (psi_for LN PassesOwn.never rfl (pii_seq (pei_split (pei_var 1) (pai_cons pei_str pai_nil))) (pgi_name 4 nd) (pssi_cons (psi_set 5 nd (pei_split (pei_var 4) (pai_cons pei_str pai_nil)))
        (pssi_one (psi_expr (pei_append (pei_var 3) (pai_cons (pei_tup (pai_cons (pei_ix hu (pei_split (pei_ix hu (pei_var 5) pei_int) (pai_cons pei_str pai_nil)) pei_int) (pai_cons (pei_tuple B.tuple (pai_cons (pei_sl hkl.l (pei_var 5) (poi_some pei_int) poi_none) pai_nil)) (pai_cons (pei_in hu pei_str (pei_ix hu (pei_var 5) pei_int)) pai_nil)))) pai_nil))))))
        (pssi_one (psi_ret (pei_tup (pai_cons (pei_tuple B.tuple (pai_cons (pei_var 3) pai_nil)) (pai_cons (pei_ifE (pti_ne hu (pei_var 2) pei_str) (pei_tuple B.tuple (pai_cons (pei_split (pei_var 2) (pai_cons pei_str pai_nil)) pai_nil)) (pei_tup pai_nil)) pai_nil)))))))))
theorem ok__law_host (hkl : KLOk K) (Z : Exs K mg) (B : Blt mg) (T : TopFn K mg "_law_host" s__law_host ["_law_flat"]) (C : Cs__law_host P w K mg base) : CallOk P w K mg base "_law_host" 1 1 F__law_host :=
  let ⟨_, _, F, m, b⟩ := T; ⟨_, _, _, fn__law_host hkl Z B C F, m, F.kp, b⟩
theorem sc__law_fits : FnScope N__law_fits ["_law_host_here", "_law_row_so"] (defScope s__law_fits) := ⟨rfl, rfl, rfl, by decide +kernel, rfl, by decide +kernel, by decide +kernel⟩
structure Cs__law_fits (P : Program) (w : World) (K : PySem.W.Frag) (mg : Str → Option Value) (base : Heap) : Prop where
  mk ::
  _law_under : CallOk P w K mg base "_law_under" 1 2 F__law_under
theorem fn__law_fits (hkl : KLOk K) (Z : Exs K mg) (B : Blt mg) (C : Cs__law_fits P w K mg base) {f0 : Addr} {fd : FuncData} (F : Fun K "_law_fits" "_law_fits" s__law_fits f0 fd) : FnOk P w K mg base CX0 2 f0 fd ["_law_host_here", "_law_row_so"] (sp0 2 F__law_fits) :=
  def_ok (k := 1) F sc__law_fits (fun cdv A outer s H E hr => by
      have hu := Room.hu hr
      have nd := sc__law_fits.nd
      exact (pssi_cons (psi_set 2 nd (pei_dict rfl B.dict (pai_cons (pei_lc LN (p := (.n 4)) [("_law_own", 4)] rfl nd (pii_seq (pei_ix hu (pei_var 0) pei_int)) (by show blkC N__law_fits (defScope s__law_fits) _ _ = true; decide +kernel) (fun _ _ _ _ _ => (pg_name (i := 4) nd rfl (by first | exact Or.inl rfl | exact Or.inr rfl))) (fun _ _ _ _ _ => ptsi_nil) (fun _ _ _ _ _ => (pei_tup (pai_cons (pei_ix hu (pei_var 4) pei_int) (pai_cons (pei_ix hu (pei_var 4) pei_int) pai_nil))))) pai_nil)))
        (pssi_one (psi_ret (pei_eq hu (pei_lc LN (p := (.t [3, 4])) [("_law_k", 3), ("_law_own", 4)] rfl nd (pii_enum B.enumerate (pai_cons (pei_var 1) pai_nil)) (by show blkC N__law_fits (defScope s__law_fits) _ _ = true; decide +kernel) (fun _ _ _ _ _ => (pg_tup rfl (pgs_cons (pg_name (i := 3) nd rfl (by first | exact Or.inl rfl | exact Or.inr rfl)) (pgs_cons (pg_name (i := 4) nd rfl (by first | exact Or.inl rfl | exact Or.inr rfl)) pgs_nil)))) (fun _ _ _ _ _ => (ptsi_one (pti_not (pti_tru (pei_callD C._law_under (hr.mono (by decide)) (pai_cons (pei_ix hu (pei_var 2) (pei_var 4)) (pai_cons (pei_sl hkl.l (pei_var 1) poi_none (poi_some (pei_var 3))) pai_nil))))))) (fun _ _ _ _ _ => (pei_var 3))) (pei_lst pai_nil))))))
theorem ok__law_fits (hkl : KLOk K) (Z : Exs K mg) (B : Blt mg) (T : TopFn K mg "_law_fits" s__law_fits ["_law_host_here", "_law_row_so"]) (C : Cs__law_fits P w K mg base) : CallOk P w K mg base "_law_fits" 2 2 F__law_fits :=
  let ⟨_, _, F, m, b⟩ := T; ⟨_, _, _, fn__law_fits hkl Z B C F, m, F.kp, b⟩
theorem sc__law_least : FnScope N__law_least ["_law_host_here"] (defScope s__law_least) := ⟨rfl, rfl, rfl, by decide +kernel, rfl, by decide +kernel, by decide +kernel⟩
structure Cs__law_least (P : Program) (w : World) (K : PySem.W.Frag) (mg : Str → Option Value) (base : Heap) : Prop where
  mk ::
  _law_under : CallOk P w K mg base "_law_under" 1 2 F__law_under
theorem fn__law_least (hkl : KLOk K) (Z : Exs K mg) (B : Blt mg) (C : Cs__law_least P w K mg base) {f0 : Addr} {fd : FuncData} (F : Fun K "_law_least" "_law_least" s__law_least f0 fd) : FnOk P w K mg base CX0 2 f0 fd ["_law_host_here"] (sp0 1 F__law_least) :=
  def_ok (k := 1) F sc__law_least (fun cdv A outer s H E hr => by
      have hu := Room.hu hr
      have nd := sc__law_least.nd
      exact (pssi_cons (psi_set 1 nd (pei_tup pai_nil))
        (pssi_cons (psi_for LN PassesOwn.never rfl (pii_range1 B.range (pai_cons (pei_len B.len (pai_cons (pei_ix hu (pei_var 0) pei_int) pai_nil)) pai_nil)) (pgi_name 2 nd) (pssi_one (psi_set 1 nd (pei_add (pei_var 1) (pei_tuple B.tuple (pai_cons (pei_sl hkl.l (pei_lc LN (p := (.n 3)) [("_law_own", 3)] rfl nd (pii_seq (pei_ix hu (pei_var 0) pei_int)) (by show blkC N__law_least (defScope s__law_least) _ _ = true; decide +kernel) (fun _ _ _ _ _ => (pg_name (i := 3) nd rfl (by first | exact Or.inl rfl | exact Or.inr rfl))) (fun _ _ _ _ _ => (ptsi_one (PWI.pt (pwi_and (pti_nin hu (pei_ix hu (pei_var 3) pei_int) (pei_var 1)) (pwi_and1 (pti_tru (pei_callD C._law_under (hr.mono (by decide)) (pai_cons (pei_ix hu (pei_var 3) pei_int) (pai_cons (pei_var 1) pai_nil))))))))) (fun _ _ _ _ _ => (pei_ix hu (pei_var 3) pei_int))) poi_none (poi_some pei_int)) pai_nil))))))
        (pssi_one (psi_ret (pei_var 1))))))
theorem ok__law_least (hkl : KLOk K) (Z : Exs K mg) (B : Blt mg) (T : TopFn K mg "_law_least" s__law_least ["_law_host_here"]) (C : Cs__law_least P w K mg base) : CallOk P w K mg base "_law_least" 2 1 F__law_least :=
  let ⟨_, _, F, m, b⟩ := T; ⟨_, _, _, fn__law_least hkl Z B C F, m, F.kp, b⟩
theorem sc__law_by_hand_right : FnScope N__law_by_hand_right [] (defScope s__law_by_hand_right) := ⟨rfl, rfl, rfl, by decide +kernel, rfl, by decide +kernel, by decide +kernel⟩
structure Cs__law_by_hand_right (P : Program) (w : World) (K : PySem.W.Frag) (mg : Str → Option Value) (base : Heap) : Prop where
  mk ::
  is_order : CallOk P w K mg base "is_order" 18 2 F_is_order
  least_order : CallOk P w K mg base "least_order" 18 1 F_least_order
  _law_same : CallOk P w K mg base "_law_same" 17 2 (F__law_same 16)
  _law_lists : CallOk P w K mg base "_law_lists" 17 1 (F__law_lists 16)
  _law_host : CallOk P w K mg base "_law_host" 1 1 F__law_host
  least_order__block : CallOkK P w K mg base "least_order" 18 1 F_least_order ["block"] [0]
  is_order__thing_block : CallOkK P w K mg base "is_order" 18 2 F_is_order ["thing", "block"] [1, 0]
theorem fn__law_by_hand_right (hkl : KLOk K) (Z : Exs K mg) (B : Blt mg) (C : Cs__law_by_hand_right P w K mg base) {f0 : Addr} {fd : FuncData} (F : Fun K "_law_by_hand_right" "_law_by_hand_right" s__law_by_hand_right f0 fd) : FnOk P w K mg base CX0 19 f0 fd [] (sp0 0 F__law_by_hand_right) :=
  def_ok (k := 18) F sc__law_by_hand_right (fun cdv A outer s H E hr => by
      have hu := Room.hu hr
      have nd := sc__law_by_hand_right.nd
      exact (pssi_cons (psi_set 0 nd (pei_callD C._law_host (hr.mono (by decide)) (pai_cons pei_str pai_nil)))
        (pssi_cons (psi_setLc LN 1 (p := (.n 7)) [("_law_own", 7)] rfl nd (pii_seq (pei_tup (pai_cons pei_str (pai_cons pei_str (pai_cons pei_str (pai_cons pei_str (pai_cons pei_str pai_nil))))))) (by show blkC N__law_by_hand_right (defScope s__law_by_hand_right) _ _ = true; decide +kernel) (fun _ _ _ _ _ => (pg_name (i := 7) nd rfl (by first | exact Or.inl rfl | exact Or.inr rfl))) (fun _ _ _ _ _ => ptsi_nil) (fun _ _ _ _ _ => (pei_tupStr rfl B.tuple (pai_cons (pei_var 7) pai_nil))) (sw_true rfl rfl rfl (by decide +kernel)))
        (pssi_cons (psi_set 2 nd (pei_lst (pai_cons (pei_tup pai_nil) (pai_cons (pei_tup (pai_cons pei_str (pai_cons pei_str (pai_cons pei_str pai_nil)))) (pai_cons (pei_tupStr rfl B.tuple (pai_cons pei_str pai_nil)) (pai_cons (pei_listStr rfl B.list (pai_cons pei_str pai_nil)) (pai_cons (pei_tupStr rfl B.tuple (pai_cons pei_str pai_nil)) (pai_cons (pei_tupStr rfl B.tuple (pai_cons pei_str pai_nil)) (pai_cons (pei_tupStr rfl B.tuple (pai_cons pei_str pai_nil)) (pai_cons pei_non pai_nil))))))))))
        (pssi_cons (psi_set 2 nd (pei_add (pei_var 2) (pei_lst (pai_cons pei_str (pai_cons pei_int pai_nil)))))
        (pssi_cons (psi_set 2 nd (pei_add (pei_var 2) (pei_lst (pai_cons (pei_tup (pai_cons pei_str (pai_cons pei_str (pai_cons (pei_lst (pai_cons pei_str pai_nil)) (pai_cons pei_str pai_nil))))) (pai_cons (pei_tup (pai_cons pei_str (pai_cons pei_str (pai_cons pei_non (pai_cons pei_str pai_nil))))) (pai_cons (pei_tupStr rfl B.tuple (pai_cons pei_str pai_nil)) (pai_cons (pei_tupStr rfl B.tuple (pai_cons pei_str pai_nil)) (pai_cons (pei_tupStr rfl B.tuple (pai_cons pei_str pai_nil)) pai_nil))))))))
        (pssi_cons (psi_set 2 nd (pei_add (pei_var 2) (pei_lst (pai_cons pei_bl (pai_cons (pei_lst pai_nil) pai_nil)))))
        (pssi_cons (psi_set 2 nd (pei_add (pei_var 2) (pei_lst (pai_cons (pei_tup (pai_cons pei_str (pai_cons pei_str (pai_cons (pei_tup (pai_cons pei_str pai_nil)) (pai_cons pei_str pai_nil))))) (pai_cons (pei_tup (pai_cons pei_str (pai_cons pei_str (pai_cons pei_str pai_nil)))) (pai_cons (pei_tupStr rfl B.tuple (pai_cons pei_str pai_nil)) (pai_cons (pei_bare Z.V_NoOrder hkl) (pai_cons (pei_tup (pai_cons pei_str (pai_cons pei_str (pai_cons pei_str (pai_cons (pei_bare Z.V_NoOrder hkl) pai_nil))))) pai_nil))))))))
        (pssi_cons (psi_set 3 nd (pei_lst (pai_cons (pei_lc LN (p := (.n 7)) [("_law_own", 7)] rfl nd (pii_seq (pei_var 1)) (by show blkC N__law_by_hand_right (defScope s__law_by_hand_right) _ _ = true; decide +kernel) (fun _ _ _ _ _ => (pg_name (i := 7) nd rfl (by first | exact Or.inl rfl | exact Or.inr rfl))) (fun _ _ _ _ _ => ptsi_nil) (fun _ _ _ _ _ => (pei_callD C.is_order (hr.mono (by decide)) (pai_cons (pei_var 0) (pai_cons (pei_var 7) pai_nil))))) (pai_cons (pei_lc LN (p := (.n 7)) [("_law_own", 7)] rfl nd (pii_seq (pei_var 2)) (by show blkC N__law_by_hand_right (defScope s__law_by_hand_right) _ _ = true; decide +kernel) (fun _ _ _ _ _ => (pg_name (i := 7) nd rfl (by first | exact Or.inl rfl | exact Or.inr rfl))) (fun _ _ _ _ _ => ptsi_nil) (fun _ _ _ _ _ => (pei_callD C.is_order (hr.mono (by decide)) (pai_cons (pei_var 0) (pai_cons (pei_var 7) pai_nil))))) (pai_cons (pei_callD C.is_order (hr.mono (by decide)) (pai_cons (pei_tup (pai_cons (pei_tup pai_nil) (pai_cons (pei_tup pai_nil) pai_nil))) (pai_cons (pei_tup pai_nil) pai_nil))) pai_nil)))))
        (pssi_cons (psi_set 4 nd (pei_lst (pai_cons (pei_rep (pei_lst (pai_cons pei_bl pai_nil)) pei_int) (pai_cons (pei_rep (pei_lst (pai_cons pei_bl pai_nil)) (pei_len B.len (pai_cons (pei_var 2) pai_nil))) (pai_cons pei_bl pai_nil)))))
        (pssi_cons (psi_set 3 nd (pei_add (pei_var 3) (pei_lst (pai_cons (pei_callD C.is_order (hr.mono (by decide)) (pai_cons (pei_tup (pai_cons (pei_tup pai_nil) (pai_cons (pei_tup pai_nil) pai_nil))) (pai_cons (pei_tup (pai_cons pei_str pai_nil)) pai_nil))) (pai_cons (pei_callD C.is_order (hr.mono (by decide)) (pai_cons (pei_tup (pai_cons (pei_tup pai_nil) (pai_cons (pei_tup pai_nil) pai_nil))) (pai_cons (pei_lst pai_nil) pai_nil))) (pai_cons (pei_callD C.least_order (hr.mono (by decide)) (pai_cons (pei_var 0) pai_nil)) (pai_cons (pei_callD C.least_order (hr.mono (by decide)) (pai_cons (pei_tup (pai_cons (pei_tup pai_nil) (pai_cons (pei_tup pai_nil) pai_nil))) pai_nil)) pai_nil)))))))
        (pssi_cons (psi_set 4 nd (pei_add (pei_var 4) (pei_lst (pai_cons pei_bl (pai_cons pei_bl (pai_cons (pei_tupStr rfl B.tuple (pai_cons pei_str pai_nil)) (pai_cons (pei_tup pai_nil) pai_nil)))))))
        (pssi_cons (psi_set 5 nd (pei_lst (pai_cons (pei_callD C._law_host (hr.mono (by decide)) (pai_cons pei_str pai_nil)) (pai_cons (pei_callD C._law_host (hr.mono (by decide)) (pai_cons pei_str pai_nil)) (pai_cons (pei_callD C._law_host (hr.mono (by decide)) (pai_cons pei_str pai_nil)) pai_nil)))))
        (pssi_cons (psi_set 3 nd (pei_add (pei_var 3) (pei_lst (pai_cons (pei_lc LN (p := (.n 7)) [("_law_own", 7)] rfl nd (pii_seq (pei_var 5)) (by show blkC N__law_by_hand_right (defScope s__law_by_hand_right) _ _ = true; decide +kernel) (fun _ _ _ _ _ => (pg_name (i := 7) nd rfl (by first | exact Or.inl rfl | exact Or.inr rfl))) (fun _ _ _ _ _ => ptsi_nil) (fun _ _ _ _ _ => (pei_callD C.least_order (hr.mono (by decide)) (pai_cons (pei_var 7) pai_nil)))) (pai_cons (pei_callK C.least_order__block (hr.mono (by decide)) (pki_cons (pei_callC C._law_lists (hr.mono (by decide)) (pai_cons (pei_ix hu (pei_var 5) pei_int) pai_nil)) pki_nil)) pai_nil)))))
        (pssi_cons (psi_set 4 nd (pei_add (pei_var 4) (pei_lst (pai_cons (pei_lst (pai_cons (pei_tupStr rfl B.tuple (pai_cons pei_str pai_nil)) (pai_cons (pei_tupStr rfl B.tuple (pai_cons pei_str pai_nil)) (pai_cons (pei_tupStr rfl B.tuple (pai_cons pei_str pai_nil)) pai_nil)))) (pai_cons (pei_tupStr rfl B.tuple (pai_cons pei_str pai_nil)) pai_nil)))))
        (pssi_cons (psi_set 3 nd (pei_add (pei_var 3) (pei_lst (pai_cons (pei_callD C.least_order (hr.mono (by decide)) (pai_cons (pei_callD C._law_host (hr.mono (by decide)) (pai_cons pei_str pai_nil)) pai_nil)) (pai_cons (pei_callD C.least_order (hr.mono (by decide)) (pai_cons (pei_callD C._law_host (hr.mono (by decide)) (pai_cons pei_str pai_nil)) pai_nil)) pai_nil)))))
        (pssi_cons (psi_set 4 nd (pei_add (pei_var 4) (pei_lst (pai_cons (pei_tup (pai_cons pei_str (pai_cons pei_str (pai_cons pei_str pai_nil)))) (pai_cons (pei_tup (pai_cons pei_str (pai_cons pei_str (pai_cons pei_str (pai_cons pei_str pai_nil))))) pai_nil)))))
        (pssi_cons (psi_set 3 nd (pei_add (pei_var 3) (pei_lst (pai_cons (pei_callK C.is_order__thing_block (hr.mono (by decide)) (pki_cons (pei_tupStr rfl B.tuple (pai_cons pei_str pai_nil)) (pki_cons (pei_callC C._law_lists (hr.mono (by decide)) (pai_cons (pei_ix hu (pei_var 5) pei_int) pai_nil)) pki_nil))) (pai_cons (pei_callD C.is_order (hr.mono (by decide)) (pai_cons (pei_ix hu (pei_var 5) pei_int) (pai_cons (pei_tupStr rfl B.tuple (pai_cons pei_str pai_nil)) pai_nil))) pai_nil)))))
        (pssi_cons (psi_set 4 nd (pei_add (pei_var 4) (pei_lst (pai_cons pei_bl (pai_cons pei_bl pai_nil)))))
        (pssi_cons (psi_set 6 nd (pei_callD C._law_host (hr.mono (by decide)) (pai_cons pei_str pai_nil)))
        (pssi_cons (psi_set 3 nd (pei_add (pei_var 3) (pei_lst (pai_cons (pei_callD C.least_order (hr.mono (by decide)) (pai_cons (pei_var 6) pai_nil)) (pai_cons (pei_callD C.is_order (hr.mono (by decide)) (pai_cons (pei_var 6) (pai_cons (pei_tupStr rfl B.tuple (pai_cons pei_str pai_nil)) pai_nil))) (pai_cons (pei_callD C.is_order (hr.mono (by decide)) (pai_cons (pei_var 6) (pai_cons (pei_tupStr rfl B.tuple (pai_cons pei_str pai_nil)) pai_nil))) pai_nil))))))
        (pssi_one (psi_ret (pei_callD C._law_same (hr.mono (by decide)) (pai_cons (pei_var 3) (pai_cons (pei_add (pei_var 4) (pei_lst (pai_cons (pei_tupStr rfl B.tuple (pai_cons pei_str pai_nil)) (pai_cons pei_bl (pai_cons pei_bl pai_nil))))) pai_nil))))))))))))))))))))))))))
theorem ok__law_by_hand_right (hkl : KLOk K) (Z : Exs K mg) (B : Blt mg) (T : TopFn K mg "_law_by_hand_right" s__law_by_hand_right []) (C : Cs__law_by_hand_right P w K mg base) : CallOk P w K mg base "_law_by_hand_right" 19 0 F__law_by_hand_right :=
  let ⟨_, _, F, m, b⟩ := T; ⟨_, _, _, fn__law_by_hand_right hkl Z B C F, m, F.kp, b⟩
theorem sc__law_right : FnScope N__law_right ["_law_urn"] (defScope s__law_right) := ⟨rfl, rfl, rfl, by decide +kernel, rfl, by decide +kernel, by decide +kernel⟩
structure Cs__law_right (P : Program) (w : World) (K : PySem.W.Frag) (mg : Str → Option Value) (base : Heap) : Prop where
  mk ::
  is_order : CallOk P w K mg base "is_order" 18 2 F_is_order
  least_order : CallOk P w K mg base "least_order" 18 1 F_least_order
  _law_take : CallOk P w K mg base "_law_take" 1 2 F__law_take
  _law_same : CallOk P w K mg base "_law_same" 17 2 (F__law_same 16)
  _law_lists : CallOk P w K mg base "_law_lists" 17 1 (F__law_lists 16)
  _law_mixed : CallOk P w K mg base "_law_mixed" 2 2 F__law_mixed
  _law_other : CallOk P w K mg base "_law_other" 1 1 F__law_other
  _law_block : CallOk P w K mg base "_law_block" 5 2 F__law_block
  _law_fits : CallOk P w K mg base "_law_fits" 2 2 F__law_fits
  _law_least : CallOk P w K mg base "_law_least" 2 1 F__law_least
theorem fn__law_right (hkl : KLOk K) (Z : Exs K mg) (B : Blt mg) (C : Cs__law_right P w K mg base) {f0 : Addr} {fd : FuncData} (F : Fun K "_law_right" "_law_right" s__law_right f0 fd) : FnOk P w K mg base CX0 19 f0 fd ["_law_urn"] (sp0 1 F__law_right) :=
  def_ok (k := 18) F sc__law_right (fun cdv A outer s H E hr => by
      have hu := Room.hu hr
      have nd := sc__law_right.nd
      exact (pssi_cons (psi_for LN PassesOwn.never rfl (pii_range1 B.range (pai_cons pei_int pai_nil)) (pgi_name 1 nd) (pssi_cons (psi_set 2 nd (pei_callC C._law_block (hr.mono (by decide)) (pai_cons (pei_var 0) (pai_cons (pei_callC C._law_take (hr.mono (by decide)) (pai_cons (pei_var 0) (pai_cons pei_int pai_nil))) pai_nil))))
        (pssi_cons (psi_setLc LN 3 (p := (.n 11)) [("_law_own", 11)] rfl nd (pii_seq (pei_ix hu (pei_var 2) pei_int)) (by show blkC N__law_right (defScope s__law_right) _ _ = true; decide +kernel) (fun _ _ _ _ _ => (pg_name (i := 11) nd rfl (by first | exact Or.inl rfl | exact Or.inr rfl))) (fun _ _ _ _ _ => ptsi_nil) (fun _ _ _ _ _ => (pei_ix hu (pei_var 11) pei_int)) (sw_true rfl rfl rfl (by decide +kernel)))
        (pssi_cons (psi_set 4 nd (pei_callD C._law_least (hr.mono (by decide)) (pai_cons (pei_var 2) pai_nil)))
        (pssi_cons (psi_set 5 nd (pei_callC C._law_lists (hr.mono (by decide)) (pai_cons (pei_var 2) pai_nil)))
        (pssi_cons (psi_set 6 nd (pei_lst (pai_cons (pei_callD C.least_order (hr.mono (by decide)) (pai_cons (pei_var 2) pai_nil)) (pai_cons (pei_callD C.least_order (hr.mono (by decide)) (pai_cons (pei_var 5) pai_nil)) (pai_cons (pei_callD C.is_order (hr.mono (by decide)) (pai_cons (pei_var 5) (pai_cons (pei_var 4) pai_nil))) (pai_cons (pei_callD C.least_order (hr.mono (by decide)) (pai_cons (pei_var 5) pai_nil)) (pai_cons (pei_var 5) pai_nil)))))))
        (pssi_cons (psi_if (pti_not (pti_tru (pei_callD C._law_same (hr.mono (by decide)) (pai_cons (pei_var 6) (pai_cons (pei_lst (pai_cons (pei_var 4) (pai_cons (pei_var 4) (pai_cons pei_bl (pai_cons (pei_var 4) (pai_cons (pei_callC C._law_lists (hr.mono (by decide)) (pai_cons (pei_var 2) pai_nil)) pai_nil)))))) pai_nil))))) (pssi_one (psi_ret pei_bl)) pssi_nil)
        (pssi_cons (psi_for LN PassesOwn.never rfl (pii_range1 B.range (pai_cons pei_int pai_nil)) (pgi_name 7 nd) (pssi_cons (psi_set 8 nd (pei_tuple B.tuple (pai_cons (pei_callC C._law_mixed (hr.mono (by decide)) (pai_cons (pei_var 0) (pai_cons (pei_var 3) pai_nil))) pai_nil)))
        (pssi_cons (psi_if (PWI.pt (pwi_and (pti_gt (pei_len B.len (pai_cons (pei_var 3) pai_nil)) pei_int) (pwi_and1 (pti_eq hu (pei_callC C._law_take (hr.mono (by decide)) (pai_cons (pei_var 0) (pai_cons pei_int pai_nil))) pei_int)))) (pssi_cons (psi_set 9 nd (pei_callC C._law_take (hr.mono (by decide)) (pai_cons (pei_var 0) (pai_cons (pei_sub (pei_len B.len (pai_cons (pei_var 3) pai_nil)) pei_int) pai_nil))))
        (pssi_one (psi_set 8 nd (pei_add (pei_add (pei_sl hkl.l (pei_var 4) poi_none (poi_some (pei_var 9))) (pei_tup (pai_cons (pei_ix hu (pei_var 4) (pei_add (pei_var 9) pei_int)) (pai_cons (pei_ix hu (pei_var 4) (pei_var 9)) pai_nil)))) (pei_sl hkl.l (pei_var 4) (poi_some (pei_add (pei_var 9) pei_int)) poi_none))))) pssi_nil)
        (pssi_one (psi_if (pti_not (pti_tru (pei_callD C._law_same (hr.mono (by decide)) (pai_cons (pei_lst (pai_cons (pei_callD C.is_order (hr.mono (by decide)) (pai_cons (pei_var 2) (pai_cons (pei_var 8) pai_nil))) (pai_cons (pei_callD C.is_order (hr.mono (by decide)) (pai_cons (pei_var 2) (pai_cons (pei_list rfl B.list (pai_cons (pei_var 8) pai_nil)) pai_nil))) pai_nil))) (pai_cons (pei_lst (pai_cons (pei_callD C._law_fits (hr.mono (by decide)) (pai_cons (pei_var 2) (pai_cons (pei_var 8) pai_nil))) (pai_cons pei_bl pai_nil))) pai_nil))))) (pssi_one (psi_ret pei_bl)) pssi_nil)))))
        (pssi_cons (psi_set 10 nd (pei_lst (pai_cons (pei_add (pei_var 4) (pei_tup (pai_cons (pei_callC C._law_other (hr.mono (by decide)) (pai_cons (pei_var 3) pai_nil)) pai_nil))) (pai_cons (pei_add (pei_sl hkl.l (pei_var 4) (poi_some pei_int) poi_none) (pei_tup (pai_cons (pei_callC C._law_other (hr.mono (by decide)) (pai_cons (pei_var 3) pai_nil)) pai_nil))) pai_nil))))
        (pssi_one (psi_if (pti_ne hu (pei_lc LN (p := (.n 11)) [("_law_own", 11)] rfl nd (pii_seq (pei_var 10)) (by show blkC N__law_right (defScope s__law_right) _ _ = true; decide +kernel) (fun _ _ _ _ _ => (pg_name (i := 11) nd rfl (by first | exact Or.inl rfl | exact Or.inr rfl))) (fun _ _ _ _ _ => (ptsi_one (pti_tru (pei_callD C.is_order (hr.mono (by decide)) (pai_cons (pei_callC C._law_lists (hr.mono (by decide)) (pai_cons (pei_var 2) pai_nil)) (pai_cons (pei_var 11) pai_nil)))))) (fun _ _ _ _ _ => (pei_var 11))) (pei_lst pai_nil)) (pssi_one (psi_ret pei_bl)) pssi_nil)))))))))))
        (pssi_one (psi_ret pei_bl))))
theorem ok__law_right (hkl : KLOk K) (Z : Exs K mg) (B : Blt mg) (T : TopFn K mg "_law_right" s__law_right ["_law_urn"]) (C : Cs__law_right P w K mg base) : CallOk P w K mg base "_law_right" 19 1 F__law_right :=
  let ⟨_, _, F, m, b⟩ := T; ⟨_, _, _, fn__law_right hkl Z B C F, m, F.kp, b⟩
theorem sc_law : FnScope N_law ["_law_script"] (defScope s_law) := ⟨rfl, rfl, rfl, by decide +kernel, rfl, by decide +kernel, by decide +kernel⟩
structure Cs_law (P : Program) (w : World) (K : PySem.W.Frag) (mg : Str → Option Value) (base : Heap) : Prop where
  mk ::
  _law_box : CallOk P w K mg base "_law_box" 1 2 F__law_box
  _law_cells : CallOk P w K mg base "_law_cells" 1 2 F__law_cells
  _law_by_hand_right : CallOk P w K mg base "_law_by_hand_right" 19 0 F__law_by_hand_right
  _law_right : CallOk P w K mg base "_law_right" 19 1 F__law_right
theorem fn_law (hkl : KLOk K) (Z : Exs K mg) (B : Blt mg) (C : Cs_law P w K mg base) {f0 : Addr} {fd : FuncData} (F : Fun K "law" "law" s_law f0 fd) : FnOk P w K mg base CX0 20 f0 fd ["_law_script"] (sp0 1 F_law) :=
  def_ok (k := 19) F sc_law (fun cdv A outer s H E hr => by
      have hu := Room.hu hr
      have nd := sc_law.nd
      exact (pssi_cons (psi_set 1 nd (pei_callC C._law_cells (hr.mono (by decide)) (pai_cons (pei_var 0) (pai_cons pei_int pai_nil))))
        (pssi_one (psi_ret (pei_and (pei_callP0 C._law_by_hand_right (hr.mono (by decide))) (pei_one (pei_all rfl B.all (pai_cons (pei_lc LN (p := (.n 2)) [("_law_k", 2)] rfl nd (pii_range1 B.range (pai_cons (pei_len B.len (pai_cons (pei_var 1) pai_nil)) pai_nil)) (by show blkC N_law (defScope s_law) _ _ = true; decide +kernel) (fun _ _ _ _ _ => (pg_name (i := 2) nd rfl (by first | exact Or.inl rfl | exact Or.inr rfl))) (fun _ _ _ _ _ => ptsi_nil) (fun _ _ _ _ _ => (pei_callC C._law_right (hr.mono (by decide)) (pai_cons (pei_callC C._law_box (hr.mono (by decide)) (pai_cons (pei_var 1) (pai_cons (pei_var 2) pai_nil))) pai_nil)))) pai_nil))))))))
theorem ok_law (hkl : KLOk K) (Z : Exs K mg) (B : Blt mg) (T : TopFn K mg "law" s_law ["_law_script"]) (C : Cs_law P w K mg base) : CallOk P w K mg base "law" 20 1 F_law :=
  let ⟨_, _, F, m, b⟩ := T; ⟨_, _, _, fn_law hkl Z B C F, m, F.kp, b⟩
end
/-- all of the text together -/
structure Tops (K : PySem.W.Frag) (mg : Str → Option Value) : Prop where
  tupled : TopFn K mg "tupled" s_tupled ["value"]
  is_name : TopFn K mg "is_name" s_is_name ["thing"]
  is_tuple_of : TopFn K mg "is_tuple_of" s_is_tuple_of ["thing", "many"]
  reads_by_name : TopFn K mg "reads_by_name" s_reads_by_name ["rows"]
  next_names : TopFn K mg "next_names" s_next_names ["reads", "laid"]
  is_order_of : TopFn K mg "is_order_of" s_is_order_of ["reads", "thing"]
  is_order : TopFn K mg "is_order" s_is_order ["block", "thing"]
  least_order : TopFn K mg "least_order" s_least_order ["block"]
  _law_box : TopFn K mg "_law_box" s__law_box ["_law_script", "_law_k"]
  _law_take : TopFn K mg "_law_take" s__law_take ["_law_urn", "_law_low_so"]
  _law_cells : TopFn K mg "_law_cells" s__law_cells ["_law_script", "_law_top"]
  _law_of : TopFn K mg "_law_of" s__law_of ["_law_urn", "_law_some_so"]
  _law_same : TopFn K mg "_law_same" s__law_same ["_law_got", "_law_goal"]
  _law_lists : TopFn K mg "_law_lists" s__law_lists ["_law_thing_so"]
  _law_mixed : TopFn K mg "_law_mixed" s__law_mixed ["_law_urn", "_law_pool"]
  _law_tags : TopFn K mg "_law_tags" s__law_tags ["_law_urn", "_law_many_so"]
  _law_names : TopFn K mg "_law_names" s__law_names ["_law_urn", "_law_many_so"]
  _law_other : TopFn K mg "_law_other" s__law_other ["_law_tags_here"]
  _law_under : TopFn K mg "_law_under" s__law_under ["_law_near", "_law_far"]
  _law_block : TopFn K mg "_law_block" s__law_block ["_law_urn", "_law_many_so"]
  _law_host : TopFn K mg "_law_host" s__law_host ["_law_flat"]
  _law_fits : TopFn K mg "_law_fits" s__law_fits ["_law_host_here", "_law_row_so"]
  _law_least : TopFn K mg "_law_least" s__law_least ["_law_host_here"]
  _law_by_hand_right : TopFn K mg "_law_by_hand_right" s__law_by_hand_right []
  _law_right : TopFn K mg "_law_right" s__law_right ["_law_urn"]
  law : TopFn K mg "law" s_law ["_law_script"]
theorem law_fn {P : Program} {w : World} {K : PySem.W.Frag} {mg : Str → Option Value} {base : Heap} (hkl : KLOk K) (Z : Exs K mg) (B : Blt mg) (T : Tops K mg) {f0 : Addr} {fd : FuncData} (F : Fun K "law" "law" s_law f0 fd) : FnOk P w K mg base CX0 20 f0 fd ["_law_script"] (sp0 1 F_law) := by
  have O_tupled : CallOk P w K mg base "tupled" 17 1 (F_tupled 16) := ok_tupled hkl Z B T.tupled ⟨⟩ 16
  have O_is_name : CallOk P w K mg base "is_name" 1 1 F_is_name := ok_is_name hkl Z B T.is_name ⟨⟩
  have O_is_tuple_of : CallOk P w K mg base "is_tuple_of" 1 2 F_is_tuple_of := ok_is_tuple_of hkl Z B T.is_tuple_of ⟨⟩
  have O_reads_by_name : CallOk P w K mg base "reads_by_name" 1 1 F_reads_by_name := ok_reads_by_name hkl Z B T.reads_by_name ⟨⟩
  have O_next_names : CallOk P w K mg base "next_names" 1 2 F_next_names := ok_next_names hkl Z B T.next_names ⟨⟩
  have O_is_order_of : CallOk P w K mg base "is_order_of" 2 2 F_is_order_of := ok_is_order_of hkl Z B T.is_order_of ⟨O_is_name, O_is_tuple_of⟩
  have O_is_order : CallOk P w K mg base "is_order" 18 2 F_is_order := ok_is_order hkl Z B T.is_order ⟨O_tupled, O_reads_by_name, O_is_order_of⟩
  have O_least_order : CallOk P w K mg base "least_order" 18 1 F_least_order := ok_least_order hkl Z B T.least_order ⟨O_tupled, O_reads_by_name, O_next_names⟩
  have O__law_box : CallOk P w K mg base "_law_box" 1 2 F__law_box := ok__law_box hkl Z B T._law_box ⟨⟩
  have O__law_take : CallOk P w K mg base "_law_take" 1 2 F__law_take := ok__law_take hkl Z B T._law_take ⟨⟩
  have O__law_cells : CallOk P w K mg base "_law_cells" 1 2 F__law_cells := ok__law_cells hkl Z B T._law_cells ⟨⟩
  have O__law_of : CallOk P w K mg base "_law_of" 2 2 F__law_of := ok__law_of hkl Z B T._law_of ⟨O__law_take⟩
  have O__law_same : CallOk P w K mg base "_law_same" 17 2 (F__law_same 16) := ok__law_same hkl Z B T._law_same ⟨⟩ 16
  have O__law_lists : CallOk P w K mg base "_law_lists" 17 1 (F__law_lists 16) := ok__law_lists hkl Z B T._law_lists ⟨⟩ 16
  have O__law_mixed : CallOk P w K mg base "_law_mixed" 2 2 F__law_mixed := ok__law_mixed hkl Z B T._law_mixed ⟨O__law_take⟩
  have O__law_tags : CallOk P w K mg base "_law_tags" 3 2 F__law_tags := ok__law_tags hkl Z B T._law_tags ⟨O__law_take, O__law_of⟩
  have O__law_names : CallOk P w K mg base "_law_names" 4 2 F__law_names := ok__law_names hkl Z B T._law_names ⟨O__law_mixed, O__law_tags⟩
  have O__law_other : CallOk P w K mg base "_law_other" 1 1 F__law_other := ok__law_other hkl Z B T._law_other ⟨⟩
  have O__law_under : CallOk P w K mg base "_law_under" 1 2 F__law_under := ok__law_under hkl Z B T._law_under ⟨⟩
  have O__law_block : CallOk P w K mg base "_law_block" 5 2 F__law_block := ok__law_block hkl Z B T._law_block ⟨O__law_take, O__law_of, O__law_mixed, O__law_names⟩
  have O__law_host : CallOk P w K mg base "_law_host" 1 1 F__law_host := ok__law_host hkl Z B T._law_host ⟨⟩
  have O__law_fits : CallOk P w K mg base "_law_fits" 2 2 F__law_fits := ok__law_fits hkl Z B T._law_fits ⟨O__law_under⟩
  have O__law_least : CallOk P w K mg base "_law_least" 2 1 F__law_least := ok__law_least hkl Z B T._law_least ⟨O__law_under⟩
  have O__law_by_hand_right : CallOk P w K mg base "_law_by_hand_right" 19 0 F__law_by_hand_right := ok__law_by_hand_right hkl Z B T._law_by_hand_right ⟨O_is_order, O_least_order, O__law_same, O__law_lists, O__law_host, (callK_of T.least_order (topK_of fun _ _ _ _ _ _ ws hl => match ws, hl with | [_], _ => rfl) fun _ _ F => fn_least_order hkl Z B ⟨O_tupled, O_reads_by_name, O_next_names⟩ F), (callK_of T.is_order (topK_of fun _ _ _ _ _ _ ws hl => match ws, hl with | [_, _], _ => rfl) fun _ _ F => fn_is_order hkl Z B ⟨O_tupled, O_reads_by_name, O_is_order_of⟩ F)⟩
  have O__law_right : CallOk P w K mg base "_law_right" 19 1 F__law_right := ok__law_right hkl Z B T._law_right ⟨O_is_order, O_least_order, O__law_take, O__law_same, O__law_lists, O__law_mixed, O__law_other, O__law_block, O__law_fits, O__law_least⟩
  exact fn_law hkl Z B ⟨O__law_box, O__law_cells, O__law_by_hand_right, O__law_right⟩ F
end K02
set_option autoImplicit true
set_option maxRecDepth 100000
set_option maxHeartbeats 0
set_option linter.all false
namespace K02
open PySem L2 Iv
mutual
def qqV : IV → IV → Bool
  | .non, .non => true
  | .exo, .exo => true
  | .bl a, .bl b => decide (a = b)
  | .int a, .int b => decide (a = b)
  | .str a, .str b => decide (a = b)
  | .ref a, .ref b => decide (a = b)
  | .tup a, .tup b => qqVs a b
  | _, _ => false
def qqVs : List IV → List IV → Bool
  | [], [] => true
  | x :: xs, y :: ys => qqV x y && qqVs xs ys
  | _, _ => false
end
mutual
theorem qqV_eq : ∀ {x y : IV}, qqV x y = true → x = y
  | .non, .non, _ => rfl
  | .exo, .exo, _ => rfl
  | .bl a, .bl b, e => by rw [qqV] at e; rw [of_decide_eq_true e]
  | .int a, .int b, e => by rw [qqV] at e; rw [of_decide_eq_true e]
  | .str a, .str b, e => by rw [qqV] at e; rw [of_decide_eq_true e]
  | .ref a, .ref b, e => by rw [qqV] at e; rw [of_decide_eq_true e]
  | .tup a, .tup b, e => by rw [qqV] at e; rw [qqVs_eq e]
  | .non, .bl _, e | .non, .int _, e | .non, .str _, e | .non, .tup _, e | .non, .fl _, e | .non, .kl _, e | .non, .ref _, e | .non, .exo, e => by simp [qqV] at e
  | .bl _, .non, e | .bl _, .int _, e | .bl _, .str _, e | .bl _, .tup _, e | .bl _, .fl _, e | .bl _, .kl _, e | .bl _, .ref _, e | .bl _, .exo, e => by simp [qqV] at e
  | .int _, .non, e | .int _, .bl _, e | .int _, .str _, e | .int _, .tup _, e | .int _, .fl _, e | .int _, .kl _, e | .int _, .ref _, e | .int _, .exo, e => by simp [qqV] at e
  | .str _, .non, e | .str _, .bl _, e | .str _, .int _, e | .str _, .tup _, e | .str _, .fl _, e | .str _, .kl _, e | .str _, .ref _, e | .str _, .exo, e => by simp [qqV] at e
  | .tup _, .non, e | .tup _, .bl _, e | .tup _, .int _, e | .tup _, .str _, e | .tup _, .fl _, e | .tup _, .kl _, e | .tup _, .ref _, e | .tup _, .exo, e => by simp [qqV] at e
  | .fl _, _, e => by simp [qqV] at e
  | .kl _, _, e => by simp [qqV] at e
  | .ref _, .non, e | .ref _, .bl _, e | .ref _, .int _, e | .ref _, .str _, e | .ref _, .tup _, e | .ref _, .fl _, e | .ref _, .kl _, e | .ref _, .exo, e => by simp [qqV] at e
  | .exo, .non, e | .exo, .bl _, e | .exo, .int _, e | .exo, .str _, e | .exo, .tup _, e | .exo, .fl _, e | .exo, .kl _, e | .exo, .ref _, e => by simp [qqV] at e
theorem qqVs_eq : ∀ {x y : List IV}, qqVs x y = true → x = y
  | [], [], _ => rfl
  | x :: xs, y :: ys, e => by
    rw [qqVs, Bool.and_eq_true] at e
    rw [qqV_eq e.1, qqVs_eq e.2]
  | [], _ :: _, e => by simp [qqVs] at e
  | _ :: _, [], e => by simp [qqVs] at e
end
def qqE : Iv.Env → Iv.Env → Bool
  | [], [] => true
  | none :: a, none :: b => qqE a b
  | some x :: a, some y :: b => qqV x y && qqE a b
  | _, _ => false
def qqK : List (Key × IV) → List (Key × IV) → Bool
  | [], [] => true
  | (k, x) :: a, (l, y) :: b => decide (k = l) && (qqV x y && qqK a b)
  | _, _ => false
theorem qqK_eq : ∀ {a b : List (Key × IV)}, qqK a b = true → a = b
  | [], [], _ => rfl
  | (k, x) :: a, (l, y) :: b, e => by
    rw [qqK, Bool.and_eq_true, Bool.and_eq_true] at e
    rw [of_decide_eq_true e.1, qqV_eq e.2.1, qqK_eq e.2.2]
  | [], _ :: _, e | _ :: _, [], e => by simp [qqK] at e
def qqH : IH → IH → Bool
  | [], [] => true
  | .dic x :: a, .dic y :: b => qqK x y && qqH a b
  | .lst x :: a, .lst y :: b => qqVs x y && qqH a b
  | _, _ => false
theorem qqE_eq : ∀ {a b : Iv.Env}, qqE a b = true → a = b
  | [], [], _ => rfl
  | none :: a, none :: b, e => by rw [qqE] at e; rw [qqE_eq e]
  | some x :: a, some y :: b, e => by
    rw [qqE, Bool.and_eq_true] at e
    rw [qqV_eq e.1, qqE_eq e.2]
  | none :: _, some _ :: _, e | some _ :: _, none :: _, e | [], _ :: _, e | none :: _, [], e | some _ :: _, [], e => by simp [qqE] at e
theorem qqH_eq : ∀ {a b : IH}, qqH a b = true → a = b
  | [], [], _ => rfl
  | .lst x :: a, .lst y :: b, e => by
    rw [qqH, Bool.and_eq_true] at e
    rw [qqVs_eq e.1, qqH_eq e.2]
  | .dic x :: a, .dic y :: b, e => by
    rw [qqH, Bool.and_eq_true] at e
    rw [qqK_eq e.1, qqH_eq e.2]
  | .lst _ :: _, .dic _ :: _, e | .lst _ :: _, .fdc _ :: _, e | .dic _ :: _, .lst _ :: _, e | .dic _ :: _, .fdc _ :: _, e | .fdc _ :: _, _, e | [], _ :: _, e | .lst _ :: _, [], e | .dic _ :: _, [], e => by simp [qqH] at e
def stepC (m : Iv.Env → M Fl) (env : Iv.Env) (h : IH) (env2 : Iv.Env) (h2 : IH) : Bool := match m env h with
  | some (.ok (.nx e), h') => qqE e env2 && qqH h' h2
  | _ => false
theorem step_of {m : Iv.Env → M Fl} {env env2 : Iv.Env} {h h2 : IH} (c : stepC m env h env2 h2 = true) : m env h = some (.ok (.nx env2), h2) := by
  unfold stepC at c
  split at c
  · rename_i e h' q
    rw [Bool.and_eq_true] at c
    rw [q, qqE_eq c.1, qqH_eq c.2]
  · cases c
theorem seq_as (a b c : Iv.Env → M Fl) : SeqS a (SeqS b c) = SeqS (SeqS a b) c := by
  funext env h
  unfold SeqS M.bind
  cases a env h with
  | none => rfl
  | some o =>
    obtain ⟨o, h1⟩ := o
    cases o with
    | ex e => rfl
    | ok f => cases f <;> rfl
def F_next_namesN : List IV → M IV := Fn 4
    (RetS (CallB sortN (Cons (lockM 0 (LcE LN (Iter (Var 0)) (.n 2) (AndT (Tst (Bin (inM true) (Var 2) (Var 1))) (Tru (CallB allI (Cons (LcE LN (Iter (Bin ixM (Var 0) (Var 2))) (.n 3) YesT (Bin (inM false) (Var 3) (Var 1)) [3]) Nil)))) (Var 2) [2])) Nil)))
theorem n_next_names : F_next_names = F_next_namesN := by
  unfold F_next_names b_next_names F_next_namesN
  rw [sortN_eq]
def F_least_orderN : List IV → M IV := Fn 4
    (SeqS (AsgS (CallF 1 F_reads_by_name (Cons (Bin ixM (CallD 1 (F_tupled 16) (Cons (Var 0) Nil)) (Cst (.int 0))) Nil)) (TgN 1))
    (SeqS (AsgS DNew (TgN 2))
    (SeqS (lockM 1 (ForS LN (Iter (Var 1)) (TgN 3) (AsgS (Cst (.bl true)) (TgSub (Var 2) (Bin ixM (CallF 2 F_next_namesN (Cons (Var 1) (Cons (Var 2) Nil))) (Cst (.int 0)))))))
    (RetS (CallB tupDM (Cons (Var 2) Nil))))))
theorem n_least_order : F_least_order = F_least_orderN := by
  unfold F_least_order b_least_order F_least_orderN
  rw [n_next_names]
def hc0 : Iv.Env → M Fl :=
  (AsgS (CallD 1 F__law_host (Cons (Cst (.str "a*; b*; c a b; d b / c d")) Nil)) (TgN 0))
def hc1 : Iv.Env → M Fl :=
  (AsgS (LcE LN (Iter (Tup (Cons (Cst (.str "abcd")) (Cons (Cst (.str "abdc")) (Cons (Cst (.str "bacd")) (Cons (Cst (.str "badc")) (Cons (Cst (.str "bdac")) Nil))))))) (.n 7) YesT (CallB tupStrM (Cons (Var 7) Nil)) [7]) (TgN 1))
def hc2 : Iv.Env → M Fl :=
  (AsgS (Lst (Cons (Tup Nil) (Cons (Tup (Cons (Cst (.str "a")) (Cons (Cst (.str "b")) (Cons (Cst (.str "c")) Nil)))) (Cons (CallB tupStrM (Cons (Cst (.str "cabd")) Nil)) (Cons (CallB listStrM (Cons (Cst (.str "abcd")) Nil)) (Cons (CallB tupStrM (Cons (Cst (.str "abcc")) Nil)) (Cons (CallB tupStrM (Cons (Cst (.str "abcdd")) Nil)) (Cons (CallB tupStrM (Cons (Cst (.str "abce")) Nil)) (Cons (Cst .non) Nil))))))))) (TgN 2))
def hc3 : Iv.Env → M Fl :=
  (AsgS (Bin addI (Var 2) (Lst (Cons (Cst (.str "abcd")) (Cons (Cst (.int 5)) Nil)))) (TgN 2))
def hc4 : Iv.Env → M Fl :=
  (AsgS (Bin addI (Var 2) (Lst (Cons (Tup (Cons (Cst (.str "a")) (Cons (Cst (.str "b")) (Cons (Lst (Cons (Cst (.str "c")) Nil)) (Cons (Cst (.str "d")) Nil))))) (Cons (Tup (Cons (Cst (.str "a")) (Cons (Cst (.str "b")) (Cons (Cst .non) (Cons (Cst (.str "d")) Nil))))) (Cons (CallB tupStrM (Cons (Cst (.str "dbac")) Nil)) (Cons (CallB tupStrM (Cons (Cst (.str "acbd")) Nil)) (Cons (CallB tupStrM (Cons (Cst (.str "adbc")) Nil)) Nil))))))) (TgN 2))
def hc5 : Iv.Env → M Fl :=
  (AsgS (Bin addI (Var 2) (Lst (Cons (Cst (.bl true)) (Cons (Lst Nil) Nil)))) (TgN 2))
def hc6 : Iv.Env → M Fl :=
  (AsgS (Bin addI (Var 2) (Lst (Cons (Tup (Cons (Cst (.str "a")) (Cons (Cst (.str "b")) (Cons (Tup (Cons (Cst (.str "c")) Nil)) (Cons (Cst (.str "d")) Nil))))) (Cons (Tup (Cons (Cst (.str "ab")) (Cons (Cst (.str "c")) (Cons (Cst (.str "d")) Nil)))) (Cons (CallB tupStrM (Cons (Cst (.str "aabcd")) Nil)) (Cons NewX (Cons (Tup (Cons (Cst (.str "a")) (Cons (Cst (.str "b")) (Cons (Cst (.str "c")) (Cons NewX Nil))))) Nil))))))) (TgN 2))
def hc7 : Iv.Env → M Fl :=
  (AsgS (Lst (Cons (LcE LN (Iter (Var 1)) (.n 7) YesT (CallD 2 F_is_order (Cons (Var 0) (Cons (Var 7) Nil))) [7]) (Cons (LcE LN (Iter (Var 2)) (.n 7) YesT (CallD 2 F_is_order (Cons (Var 0) (Cons (Var 7) Nil))) [7]) (Cons (CallD 2 F_is_order (Cons (Tup (Cons (Tup Nil) (Cons (Tup Nil) Nil))) (Cons (Tup Nil) Nil))) Nil)))) (TgN 3))
def hc8 : Iv.Env → M Fl :=
  (AsgS (Lst (Cons (Bin repI (Lst (Cons (Cst (.bl true)) Nil)) (Cst (.int 5))) (Cons (Bin repI (Lst (Cons (Cst (.bl false)) Nil)) (CallB lenM (Cons (Var 2) Nil))) (Cons (Cst (.bl true)) Nil)))) (TgN 4))
def hc9 : Iv.Env → M Fl :=
  (AsgS (Bin addI (Var 3) (Lst (Cons (CallD 2 F_is_order (Cons (Tup (Cons (Tup Nil) (Cons (Tup Nil) Nil))) (Cons (Tup (Cons (Cst (.str "a")) Nil)) Nil))) (Cons (CallD 2 F_is_order (Cons (Tup (Cons (Tup Nil) (Cons (Tup Nil) Nil))) (Cons (Lst Nil) Nil))) (Cons (CallD 1 F_least_orderN (Cons (Var 0) Nil)) (Cons (CallD 1 F_least_orderN (Cons (Tup (Cons (Tup Nil) (Cons (Tup Nil) Nil))) Nil)) Nil)))))) (TgN 3))
def hc10 : Iv.Env → M Fl :=
  (AsgS (Bin addI (Var 4) (Lst (Cons (Cst (.bl false)) (Cons (Cst (.bl false)) (Cons (CallB tupStrM (Cons (Cst (.str "abcd")) Nil)) (Cons (Tup Nil) Nil)))))) (TgN 4))
def hc11 : Iv.Env → M Fl :=
  (AsgS (Lst (Cons (CallD 1 F__law_host (Cons (Cst (.str "a b; b c; c / a")) Nil)) (Cons (CallD 1 F__law_host (Cons (Cst (.str "a c; b; c* / a b")) Nil)) (Cons (CallD 1 F__law_host (Cons (Cst (.str "a d; b d; c; d / -")) Nil)) Nil)))) (TgN 5))
def hc12 : Iv.Env → M Fl :=
  (AsgS (Bin addI (Var 3) (Lst (Cons (LcE LN (Iter (Var 5)) (.n 7) YesT (CallD 1 F_least_orderN (Cons (Var 7) Nil)) [7]) (Cons (CallK 1 F_least_orderN [0] (Cons (CallF 1 (F__law_lists 16) (Cons (Bin ixM (Var 5) (Cst (.int 1))) Nil)) Nil)) Nil)))) (TgN 3))
def hc13 : Iv.Env → M Fl :=
  (AsgS (Bin addI (Var 4) (Lst (Cons (Lst (Cons (CallB tupStrM (Cons (Cst (.str "cba")) Nil)) (Cons (CallB tupStrM (Cons (Cst (.str "bca")) Nil)) (Cons (CallB tupStrM (Cons (Cst (.str "cdab")) Nil)) Nil)))) (Cons (CallB tupStrM (Cons (Cst (.str "bca")) Nil)) Nil)))) (TgN 4))
def hc14 : Iv.Env → M Fl :=
  (AsgS (Bin addI (Var 3) (Lst (Cons (CallD 1 F_least_orderN (Cons (CallD 1 F__law_host (Cons (Cst (.str "ab; b; c b / -")) Nil)) Nil)) (Cons (CallD 1 F_least_orderN (Cons (CallD 1 F__law_host (Cons (Cst (.str "aaa b; b; ba; c / -")) Nil)) Nil)) Nil)))) (TgN 3))
def hc15 : Iv.Env → M Fl :=
  (AsgS (Bin addI (Var 4) (Lst (Cons (Tup (Cons (Cst (.str "ab")) (Cons (Cst (.str "b")) (Cons (Cst (.str "c")) Nil)))) (Cons (Tup (Cons (Cst (.str "b")) (Cons (Cst (.str "aaa")) (Cons (Cst (.str "ba")) (Cons (Cst (.str "c")) Nil))))) Nil)))) (TgN 4))
def hc16 : Iv.Env → M Fl :=
  (AsgS (Bin addI (Var 3) (Lst (Cons (CallK 2 F_is_order [1, 0] (Cons (CallB tupStrM (Cons (Cst (.str "cba")) Nil)) (Cons (CallF 1 (F__law_lists 16) (Cons (Bin ixM (Var 5) (Cst (.int 0))) Nil)) Nil))) (Cons (CallD 2 F_is_order (Cons (Bin ixM (Var 5) (Cst (.int 0))) (Cons (CallB tupStrM (Cons (Cst (.str "abc")) Nil)) Nil))) Nil)))) (TgN 3))
def hc17 : Iv.Env → M Fl :=
  (AsgS (Bin addI (Var 4) (Lst (Cons (Cst (.bl true)) (Cons (Cst (.bl false)) Nil)))) (TgN 4))
def hc18 : Iv.Env → M Fl :=
  (AsgS (CallD 1 F__law_host (Cons (Cst (.str "a h; b; c; d; e; f; g; h* g / a")) Nil)) (TgN 6))
def hc19 : Iv.Env → M Fl :=
  (AsgS (Bin addI (Var 3) (Lst (Cons (CallD 1 F_least_orderN (Cons (Var 6) Nil)) (Cons (CallD 2 F_is_order (Cons (Var 6) (Cons (CallB tupStrM (Cons (Cst (.str "bcdefgha")) Nil)) Nil))) (Cons (CallD 2 F_is_order (Cons (Var 6) (Cons (CallB tupStrM (Cons (Cst (.str "ghabcdef")) Nil)) Nil))) Nil))))) (TgN 3))
def hcE : Iv.Env → M Fl :=
  (RetS (CallD 2 (F__law_same 16) (Cons (Var 3) (Cons (Bin addI (Var 4) (Lst (Cons (CallB tupStrM (Cons (Cst (.str "bcdefgha")) Nil)) (Cons (Cst (.bl true)) (Cons (Cst (.bl true)) Nil))))) Nil))))
def he0 : Iv.Env := List.replicate 8 none
def hh0 : IH := []
def he1 : Iv.Env := [some (.tup [.tup [.tup [.str ⟨#[97]⟩, .tup [], .bl true], .tup [.str ⟨#[98]⟩, .tup [], .bl true], .tup [.str ⟨#[99]⟩, .tup [.str ⟨#[97]⟩, .str ⟨#[98]⟩], .bl false], .tup [.str ⟨#[100]⟩, .tup [.str ⟨#[98]⟩], .bl false]], .tup [.str ⟨#[99]⟩, .str ⟨#[100]⟩]]), none, none, none, none, none, none, none]
def hh1 : IH := []
def he2 : Iv.Env := [some (.tup [.tup [.tup [.str ⟨#[97]⟩, .tup [], .bl true], .tup [.str ⟨#[98]⟩, .tup [], .bl true], .tup [.str ⟨#[99]⟩, .tup [.str ⟨#[97]⟩, .str ⟨#[98]⟩], .bl false], .tup [.str ⟨#[100]⟩, .tup [.str ⟨#[98]⟩], .bl false]], .tup [.str ⟨#[99]⟩, .str ⟨#[100]⟩]]), some (.ref 0), none, none, none, none, none, none]
def hh2 : IH := [.lst [.tup [.str ⟨#[97]⟩, .str ⟨#[98]⟩, .str ⟨#[99]⟩, .str ⟨#[100]⟩], .tup [.str ⟨#[97]⟩, .str ⟨#[98]⟩, .str ⟨#[100]⟩, .str ⟨#[99]⟩], .tup [.str ⟨#[98]⟩, .str ⟨#[97]⟩, .str ⟨#[99]⟩, .str ⟨#[100]⟩], .tup [.str ⟨#[98]⟩, .str ⟨#[97]⟩, .str ⟨#[100]⟩, .str ⟨#[99]⟩], .tup [.str ⟨#[98]⟩, .str ⟨#[100]⟩, .str ⟨#[97]⟩, .str ⟨#[99]⟩]]]
def he3 : Iv.Env := [some (.tup [.tup [.tup [.str ⟨#[97]⟩, .tup [], .bl true], .tup [.str ⟨#[98]⟩, .tup [], .bl true], .tup [.str ⟨#[99]⟩, .tup [.str ⟨#[97]⟩, .str ⟨#[98]⟩], .bl false], .tup [.str ⟨#[100]⟩, .tup [.str ⟨#[98]⟩], .bl false]], .tup [.str ⟨#[99]⟩, .str ⟨#[100]⟩]]), some (.ref 0), some (.ref 2), none, none, none, none, none]
def hh3 : IH := [.lst [.tup [.str ⟨#[97]⟩, .str ⟨#[98]⟩, .str ⟨#[99]⟩, .str ⟨#[100]⟩], .tup [.str ⟨#[97]⟩, .str ⟨#[98]⟩, .str ⟨#[100]⟩, .str ⟨#[99]⟩], .tup [.str ⟨#[98]⟩, .str ⟨#[97]⟩, .str ⟨#[99]⟩, .str ⟨#[100]⟩], .tup [.str ⟨#[98]⟩, .str ⟨#[97]⟩, .str ⟨#[100]⟩, .str ⟨#[99]⟩], .tup [.str ⟨#[98]⟩, .str ⟨#[100]⟩, .str ⟨#[97]⟩, .str ⟨#[99]⟩]], .lst [.str ⟨#[97]⟩, .str ⟨#[98]⟩, .str ⟨#[99]⟩, .str ⟨#[100]⟩], .lst [.tup [], .tup [.str ⟨#[97]⟩, .str ⟨#[98]⟩, .str ⟨#[99]⟩], .tup [.str ⟨#[99]⟩, .str ⟨#[97]⟩, .str ⟨#[98]⟩, .str ⟨#[100]⟩], .ref 1, .tup [.str ⟨#[97]⟩, .str ⟨#[98]⟩, .str ⟨#[99]⟩, .str ⟨#[99]⟩], .tup [.str ⟨#[97]⟩, .str ⟨#[98]⟩, .str ⟨#[99]⟩, .str ⟨#[100]⟩, .str ⟨#[100]⟩], .tup [.str ⟨#[97]⟩, .str ⟨#[98]⟩, .str ⟨#[99]⟩, .str ⟨#[101]⟩], .non]]
def he4 : Iv.Env := [some (.tup [.tup [.tup [.str ⟨#[97]⟩, .tup [], .bl true], .tup [.str ⟨#[98]⟩, .tup [], .bl true], .tup [.str ⟨#[99]⟩, .tup [.str ⟨#[97]⟩, .str ⟨#[98]⟩], .bl false], .tup [.str ⟨#[100]⟩, .tup [.str ⟨#[98]⟩], .bl false]], .tup [.str ⟨#[99]⟩, .str ⟨#[100]⟩]]), some (.ref 0), some (.ref 4), none, none, none, none, none]
def hh4 : IH := [.lst [.tup [.str ⟨#[97]⟩, .str ⟨#[98]⟩, .str ⟨#[99]⟩, .str ⟨#[100]⟩], .tup [.str ⟨#[97]⟩, .str ⟨#[98]⟩, .str ⟨#[100]⟩, .str ⟨#[99]⟩], .tup [.str ⟨#[98]⟩, .str ⟨#[97]⟩, .str ⟨#[99]⟩, .str ⟨#[100]⟩], .tup [.str ⟨#[98]⟩, .str ⟨#[97]⟩, .str ⟨#[100]⟩, .str ⟨#[99]⟩], .tup [.str ⟨#[98]⟩, .str ⟨#[100]⟩, .str ⟨#[97]⟩, .str ⟨#[99]⟩]], .lst [.str ⟨#[97]⟩, .str ⟨#[98]⟩, .str ⟨#[99]⟩, .str ⟨#[100]⟩], .lst [.tup [], .tup [.str ⟨#[97]⟩, .str ⟨#[98]⟩, .str ⟨#[99]⟩], .tup [.str ⟨#[99]⟩, .str ⟨#[97]⟩, .str ⟨#[98]⟩, .str ⟨#[100]⟩], .ref 1, .tup [.str ⟨#[97]⟩, .str ⟨#[98]⟩, .str ⟨#[99]⟩, .str ⟨#[99]⟩], .tup [.str ⟨#[97]⟩, .str ⟨#[98]⟩, .str ⟨#[99]⟩, .str ⟨#[100]⟩, .str ⟨#[100]⟩], .tup [.str ⟨#[97]⟩, .str ⟨#[98]⟩, .str ⟨#[99]⟩, .str ⟨#[101]⟩], .non], .lst [.str ⟨#[97, 98, 99, 100]⟩, .int (5)], .lst [.tup [], .tup [.str ⟨#[97]⟩, .str ⟨#[98]⟩, .str ⟨#[99]⟩], .tup [.str ⟨#[99]⟩, .str ⟨#[97]⟩, .str ⟨#[98]⟩, .str ⟨#[100]⟩], .ref 1, .tup [.str ⟨#[97]⟩, .str ⟨#[98]⟩, .str ⟨#[99]⟩, .str ⟨#[99]⟩], .tup [.str ⟨#[97]⟩, .str ⟨#[98]⟩, .str ⟨#[99]⟩, .str ⟨#[100]⟩, .str ⟨#[100]⟩], .tup [.str ⟨#[97]⟩, .str ⟨#[98]⟩, .str ⟨#[99]⟩, .str ⟨#[101]⟩], .non, .str ⟨#[97, 98, 99, 100]⟩, .int (5)]]
def he5 : Iv.Env := [some (.tup [.tup [.tup [.str ⟨#[97]⟩, .tup [], .bl true], .tup [.str ⟨#[98]⟩, .tup [], .bl true], .tup [.str ⟨#[99]⟩, .tup [.str ⟨#[97]⟩, .str ⟨#[98]⟩], .bl false], .tup [.str ⟨#[100]⟩, .tup [.str ⟨#[98]⟩], .bl false]], .tup [.str ⟨#[99]⟩, .str ⟨#[100]⟩]]), some (.ref 0), some (.ref 7), none, none, none, none, none]
def hh5 : IH := [.lst [.tup [.str ⟨#[97]⟩, .str ⟨#[98]⟩, .str ⟨#[99]⟩, .str ⟨#[100]⟩], .tup [.str ⟨#[97]⟩, .str ⟨#[98]⟩, .str ⟨#[100]⟩, .str ⟨#[99]⟩], .tup [.str ⟨#[98]⟩, .str ⟨#[97]⟩, .str ⟨#[99]⟩, .str ⟨#[100]⟩], .tup [.str ⟨#[98]⟩, .str ⟨#[97]⟩, .str ⟨#[100]⟩, .str ⟨#[99]⟩], .tup [.str ⟨#[98]⟩, .str ⟨#[100]⟩, .str ⟨#[97]⟩, .str ⟨#[99]⟩]], .lst [.str ⟨#[97]⟩, .str ⟨#[98]⟩, .str ⟨#[99]⟩, .str ⟨#[100]⟩], .lst [.tup [], .tup [.str ⟨#[97]⟩, .str ⟨#[98]⟩, .str ⟨#[99]⟩], .tup [.str ⟨#[99]⟩, .str ⟨#[97]⟩, .str ⟨#[98]⟩, .str ⟨#[100]⟩], .ref 1, .tup [.str ⟨#[97]⟩, .str ⟨#[98]⟩, .str ⟨#[99]⟩, .str ⟨#[99]⟩], .tup [.str ⟨#[97]⟩, .str ⟨#[98]⟩, .str ⟨#[99]⟩, .str ⟨#[100]⟩, .str ⟨#[100]⟩], .tup [.str ⟨#[97]⟩, .str ⟨#[98]⟩, .str ⟨#[99]⟩, .str ⟨#[101]⟩], .non], .lst [.str ⟨#[97, 98, 99, 100]⟩, .int (5)], .lst [.tup [], .tup [.str ⟨#[97]⟩, .str ⟨#[98]⟩, .str ⟨#[99]⟩], .tup [.str ⟨#[99]⟩, .str ⟨#[97]⟩, .str ⟨#[98]⟩, .str ⟨#[100]⟩], .ref 1, .tup [.str ⟨#[97]⟩, .str ⟨#[98]⟩, .str ⟨#[99]⟩, .str ⟨#[99]⟩], .tup [.str ⟨#[97]⟩, .str ⟨#[98]⟩, .str ⟨#[99]⟩, .str ⟨#[100]⟩, .str ⟨#[100]⟩], .tup [.str ⟨#[97]⟩, .str ⟨#[98]⟩, .str ⟨#[99]⟩, .str ⟨#[101]⟩], .non, .str ⟨#[97, 98, 99, 100]⟩, .int (5)], .lst [.str ⟨#[99]⟩], .lst [.tup [.str ⟨#[97]⟩, .str ⟨#[98]⟩, .ref 5, .str ⟨#[100]⟩], .tup [.str ⟨#[97]⟩, .str ⟨#[98]⟩, .non, .str ⟨#[100]⟩], .tup [.str ⟨#[100]⟩, .str ⟨#[98]⟩, .str ⟨#[97]⟩, .str ⟨#[99]⟩], .tup [.str ⟨#[97]⟩, .str ⟨#[99]⟩, .str ⟨#[98]⟩, .str ⟨#[100]⟩], .tup [.str ⟨#[97]⟩, .str ⟨#[100]⟩, .str ⟨#[98]⟩, .str ⟨#[99]⟩]], .lst [.tup [], .tup [.str ⟨#[97]⟩, .str ⟨#[98]⟩, .str ⟨#[99]⟩], .tup [.str ⟨#[99]⟩, .str ⟨#[97]⟩, .str ⟨#[98]⟩, .str ⟨#[100]⟩], .ref 1, .tup [.str ⟨#[97]⟩, .str ⟨#[98]⟩, .str ⟨#[99]⟩, .str ⟨#[99]⟩], .tup [.str ⟨#[97]⟩, .str ⟨#[98]⟩, .str ⟨#[99]⟩, .str ⟨#[100]⟩, .str ⟨#[100]⟩], .tup [.str ⟨#[97]⟩, .str ⟨#[98]⟩, .str ⟨#[99]⟩, .str ⟨#[101]⟩], .non, .str ⟨#[97, 98, 99, 100]⟩, .int (5), .tup [.str ⟨#[97]⟩, .str ⟨#[98]⟩, .ref 5, .str ⟨#[100]⟩], .tup [.str ⟨#[97]⟩, .str ⟨#[98]⟩, .non, .str ⟨#[100]⟩], .tup [.str ⟨#[100]⟩, .str ⟨#[98]⟩, .str ⟨#[97]⟩, .str ⟨#[99]⟩], .tup [.str ⟨#[97]⟩, .str ⟨#[99]⟩, .str ⟨#[98]⟩, .str ⟨#[100]⟩], .tup [.str ⟨#[97]⟩, .str ⟨#[100]⟩, .str ⟨#[98]⟩, .str ⟨#[99]⟩]]]
def he6 : Iv.Env := [some (.tup [.tup [.tup [.str ⟨#[97]⟩, .tup [], .bl true], .tup [.str ⟨#[98]⟩, .tup [], .bl true], .tup [.str ⟨#[99]⟩, .tup [.str ⟨#[97]⟩, .str ⟨#[98]⟩], .bl false], .tup [.str ⟨#[100]⟩, .tup [.str ⟨#[98]⟩], .bl false]], .tup [.str ⟨#[99]⟩, .str ⟨#[100]⟩]]), some (.ref 0), some (.ref 10), none, none, none, none, none]
def hh6 : IH := [.lst [.tup [.str ⟨#[97]⟩, .str ⟨#[98]⟩, .str ⟨#[99]⟩, .str ⟨#[100]⟩], .tup [.str ⟨#[97]⟩, .str ⟨#[98]⟩, .str ⟨#[100]⟩, .str ⟨#[99]⟩], .tup [.str ⟨#[98]⟩, .str ⟨#[97]⟩, .str ⟨#[99]⟩, .str ⟨#[100]⟩], .tup [.str ⟨#[98]⟩, .str ⟨#[97]⟩, .str ⟨#[100]⟩, .str ⟨#[99]⟩], .tup [.str ⟨#[98]⟩, .str ⟨#[100]⟩, .str ⟨#[97]⟩, .str ⟨#[99]⟩]], .lst [.str ⟨#[97]⟩, .str ⟨#[98]⟩, .str ⟨#[99]⟩, .str ⟨#[100]⟩], .lst [.tup [], .tup [.str ⟨#[97]⟩, .str ⟨#[98]⟩, .str ⟨#[99]⟩], .tup [.str ⟨#[99]⟩, .str ⟨#[97]⟩, .str ⟨#[98]⟩, .str ⟨#[100]⟩], .ref 1, .tup [.str ⟨#[97]⟩, .str ⟨#[98]⟩, .str ⟨#[99]⟩, .str ⟨#[99]⟩], .tup [.str ⟨#[97]⟩, .str ⟨#[98]⟩, .str ⟨#[99]⟩, .str ⟨#[100]⟩, .str ⟨#[100]⟩], .tup [.str ⟨#[97]⟩, .str ⟨#[98]⟩, .str ⟨#[99]⟩, .str ⟨#[101]⟩], .non], .lst [.str ⟨#[97, 98, 99, 100]⟩, .int (5)], .lst [.tup [], .tup [.str ⟨#[97]⟩, .str ⟨#[98]⟩, .str ⟨#[99]⟩], .tup [.str ⟨#[99]⟩, .str ⟨#[97]⟩, .str ⟨#[98]⟩, .str ⟨#[100]⟩], .ref 1, .tup [.str ⟨#[97]⟩, .str ⟨#[98]⟩, .str ⟨#[99]⟩, .str ⟨#[99]⟩], .tup [.str ⟨#[97]⟩, .str ⟨#[98]⟩, .str ⟨#[99]⟩, .str ⟨#[100]⟩, .str ⟨#[100]⟩], .tup [.str ⟨#[97]⟩, .str ⟨#[98]⟩, .str ⟨#[99]⟩, .str ⟨#[101]⟩], .non, .str ⟨#[97, 98, 99, 100]⟩, .int (5)], .lst [.str ⟨#[99]⟩], .lst [.tup [.str ⟨#[97]⟩, .str ⟨#[98]⟩, .ref 5, .str ⟨#[100]⟩], .tup [.str ⟨#[97]⟩, .str ⟨#[98]⟩, .non, .str ⟨#[100]⟩], .tup [.str ⟨#[100]⟩, .str ⟨#[98]⟩, .str ⟨#[97]⟩, .str ⟨#[99]⟩], .tup [.str ⟨#[97]⟩, .str ⟨#[99]⟩, .str ⟨#[98]⟩, .str ⟨#[100]⟩], .tup [.str ⟨#[97]⟩, .str ⟨#[100]⟩, .str ⟨#[98]⟩, .str ⟨#[99]⟩]], .lst [.tup [], .tup [.str ⟨#[97]⟩, .str ⟨#[98]⟩, .str ⟨#[99]⟩], .tup [.str ⟨#[99]⟩, .str ⟨#[97]⟩, .str ⟨#[98]⟩, .str ⟨#[100]⟩], .ref 1, .tup [.str ⟨#[97]⟩, .str ⟨#[98]⟩, .str ⟨#[99]⟩, .str ⟨#[99]⟩], .tup [.str ⟨#[97]⟩, .str ⟨#[98]⟩, .str ⟨#[99]⟩, .str ⟨#[100]⟩, .str ⟨#[100]⟩], .tup [.str ⟨#[97]⟩, .str ⟨#[98]⟩, .str ⟨#[99]⟩, .str ⟨#[101]⟩], .non, .str ⟨#[97, 98, 99, 100]⟩, .int (5), .tup [.str ⟨#[97]⟩, .str ⟨#[98]⟩, .ref 5, .str ⟨#[100]⟩], .tup [.str ⟨#[97]⟩, .str ⟨#[98]⟩, .non, .str ⟨#[100]⟩], .tup [.str ⟨#[100]⟩, .str ⟨#[98]⟩, .str ⟨#[97]⟩, .str ⟨#[99]⟩], .tup [.str ⟨#[97]⟩, .str ⟨#[99]⟩, .str ⟨#[98]⟩, .str ⟨#[100]⟩], .tup [.str ⟨#[97]⟩, .str ⟨#[100]⟩, .str ⟨#[98]⟩, .str ⟨#[99]⟩]], .lst [], .lst [.bl true, .ref 8], .lst [.tup [], .tup [.str ⟨#[97]⟩, .str ⟨#[98]⟩, .str ⟨#[99]⟩], .tup [.str ⟨#[99]⟩, .str ⟨#[97]⟩, .str ⟨#[98]⟩, .str ⟨#[100]⟩], .ref 1, .tup [.str ⟨#[97]⟩, .str ⟨#[98]⟩, .str ⟨#[99]⟩, .str ⟨#[99]⟩], .tup [.str ⟨#[97]⟩, .str ⟨#[98]⟩, .str ⟨#[99]⟩, .str ⟨#[100]⟩, .str ⟨#[100]⟩], .tup [.str ⟨#[97]⟩, .str ⟨#[98]⟩, .str ⟨#[99]⟩, .str ⟨#[101]⟩], .non, .str ⟨#[97, 98, 99, 100]⟩, .int (5), .tup [.str ⟨#[97]⟩, .str ⟨#[98]⟩, .ref 5, .str ⟨#[100]⟩], .tup [.str ⟨#[97]⟩, .str ⟨#[98]⟩, .non, .str ⟨#[100]⟩], .tup [.str ⟨#[100]⟩, .str ⟨#[98]⟩, .str ⟨#[97]⟩, .str ⟨#[99]⟩], .tup [.str ⟨#[97]⟩, .str ⟨#[99]⟩, .str ⟨#[98]⟩, .str ⟨#[100]⟩], .tup [.str ⟨#[97]⟩, .str ⟨#[100]⟩, .str ⟨#[98]⟩, .str ⟨#[99]⟩], .bl true, .ref 8]]
def he7 : Iv.Env := [some (.tup [.tup [.tup [.str ⟨#[97]⟩, .tup [], .bl true], .tup [.str ⟨#[98]⟩, .tup [], .bl true], .tup [.str ⟨#[99]⟩, .tup [.str ⟨#[97]⟩, .str ⟨#[98]⟩], .bl false], .tup [.str ⟨#[100]⟩, .tup [.str ⟨#[98]⟩], .bl false]], .tup [.str ⟨#[99]⟩, .str ⟨#[100]⟩]]), some (.ref 0), some (.ref 12), none, none, none, none, none]
def hh7 : IH := [.lst [.tup [.str ⟨#[97]⟩, .str ⟨#[98]⟩, .str ⟨#[99]⟩, .str ⟨#[100]⟩], .tup [.str ⟨#[97]⟩, .str ⟨#[98]⟩, .str ⟨#[100]⟩, .str ⟨#[99]⟩], .tup [.str ⟨#[98]⟩, .str ⟨#[97]⟩, .str ⟨#[99]⟩, .str ⟨#[100]⟩], .tup [.str ⟨#[98]⟩, .str ⟨#[97]⟩, .str ⟨#[100]⟩, .str ⟨#[99]⟩], .tup [.str ⟨#[98]⟩, .str ⟨#[100]⟩, .str ⟨#[97]⟩, .str ⟨#[99]⟩]], .lst [.str ⟨#[97]⟩, .str ⟨#[98]⟩, .str ⟨#[99]⟩, .str ⟨#[100]⟩], .lst [.tup [], .tup [.str ⟨#[97]⟩, .str ⟨#[98]⟩, .str ⟨#[99]⟩], .tup [.str ⟨#[99]⟩, .str ⟨#[97]⟩, .str ⟨#[98]⟩, .str ⟨#[100]⟩], .ref 1, .tup [.str ⟨#[97]⟩, .str ⟨#[98]⟩, .str ⟨#[99]⟩, .str ⟨#[99]⟩], .tup [.str ⟨#[97]⟩, .str ⟨#[98]⟩, .str ⟨#[99]⟩, .str ⟨#[100]⟩, .str ⟨#[100]⟩], .tup [.str ⟨#[97]⟩, .str ⟨#[98]⟩, .str ⟨#[99]⟩, .str ⟨#[101]⟩], .non], .lst [.str ⟨#[97, 98, 99, 100]⟩, .int (5)], .lst [.tup [], .tup [.str ⟨#[97]⟩, .str ⟨#[98]⟩, .str ⟨#[99]⟩], .tup [.str ⟨#[99]⟩, .str ⟨#[97]⟩, .str ⟨#[98]⟩, .str ⟨#[100]⟩], .ref 1, .tup [.str ⟨#[97]⟩, .str ⟨#[98]⟩, .str ⟨#[99]⟩, .str ⟨#[99]⟩], .tup [.str ⟨#[97]⟩, .str ⟨#[98]⟩, .str ⟨#[99]⟩, .str ⟨#[100]⟩, .str ⟨#[100]⟩], .tup [.str ⟨#[97]⟩, .str ⟨#[98]⟩, .str ⟨#[99]⟩, .str ⟨#[101]⟩], .non, .str ⟨#[97, 98, 99, 100]⟩, .int (5)], .lst [.str ⟨#[99]⟩], .lst [.tup [.str ⟨#[97]⟩, .str ⟨#[98]⟩, .ref 5, .str ⟨#[100]⟩], .tup [.str ⟨#[97]⟩, .str ⟨#[98]⟩, .non, .str ⟨#[100]⟩], .tup [.str ⟨#[100]⟩, .str ⟨#[98]⟩, .str ⟨#[97]⟩, .str ⟨#[99]⟩], .tup [.str ⟨#[97]⟩, .str ⟨#[99]⟩, .str ⟨#[98]⟩, .str ⟨#[100]⟩], .tup [.str ⟨#[97]⟩, .str ⟨#[100]⟩, .str ⟨#[98]⟩, .str ⟨#[99]⟩]], .lst [.tup [], .tup [.str ⟨#[97]⟩, .str ⟨#[98]⟩, .str ⟨#[99]⟩], .tup [.str ⟨#[99]⟩, .str ⟨#[97]⟩, .str ⟨#[98]⟩, .str ⟨#[100]⟩], .ref 1, .tup [.str ⟨#[97]⟩, .str ⟨#[98]⟩, .str ⟨#[99]⟩, .str ⟨#[99]⟩], .tup [.str ⟨#[97]⟩, .str ⟨#[98]⟩, .str ⟨#[99]⟩, .str ⟨#[100]⟩, .str ⟨#[100]⟩], .tup [.str ⟨#[97]⟩, .str ⟨#[98]⟩, .str ⟨#[99]⟩, .str ⟨#[101]⟩], .non, .str ⟨#[97, 98, 99, 100]⟩, .int (5), .tup [.str ⟨#[97]⟩, .str ⟨#[98]⟩, .ref 5, .str ⟨#[100]⟩], .tup [.str ⟨#[97]⟩, .str ⟨#[98]⟩, .non, .str ⟨#[100]⟩], .tup [.str ⟨#[100]⟩, .str ⟨#[98]⟩, .str ⟨#[97]⟩, .str ⟨#[99]⟩], .tup [.str ⟨#[97]⟩, .str ⟨#[99]⟩, .str ⟨#[98]⟩, .str ⟨#[100]⟩], .tup [.str ⟨#[97]⟩, .str ⟨#[100]⟩, .str ⟨#[98]⟩, .str ⟨#[99]⟩]], .lst [], .lst [.bl true, .ref 8], .lst [.tup [], .tup [.str ⟨#[97]⟩, .str ⟨#[98]⟩, .str ⟨#[99]⟩], .tup [.str ⟨#[99]⟩, .str ⟨#[97]⟩, .str ⟨#[98]⟩, .str ⟨#[100]⟩], .ref 1, .tup [.str ⟨#[97]⟩, .str ⟨#[98]⟩, .str ⟨#[99]⟩, .str ⟨#[99]⟩], .tup [.str ⟨#[97]⟩, .str ⟨#[98]⟩, .str ⟨#[99]⟩, .str ⟨#[100]⟩, .str ⟨#[100]⟩], .tup [.str ⟨#[97]⟩, .str ⟨#[98]⟩, .str ⟨#[99]⟩, .str ⟨#[101]⟩], .non, .str ⟨#[97, 98, 99, 100]⟩, .int (5), .tup [.str ⟨#[97]⟩, .str ⟨#[98]⟩, .ref 5, .str ⟨#[100]⟩], .tup [.str ⟨#[97]⟩, .str ⟨#[98]⟩, .non, .str ⟨#[100]⟩], .tup [.str ⟨#[100]⟩, .str ⟨#[98]⟩, .str ⟨#[97]⟩, .str ⟨#[99]⟩], .tup [.str ⟨#[97]⟩, .str ⟨#[99]⟩, .str ⟨#[98]⟩, .str ⟨#[100]⟩], .tup [.str ⟨#[97]⟩, .str ⟨#[100]⟩, .str ⟨#[98]⟩, .str ⟨#[99]⟩], .bl true, .ref 8], .lst [.tup [.str ⟨#[97]⟩, .str ⟨#[98]⟩, .tup [.str ⟨#[99]⟩], .str ⟨#[100]⟩], .tup [.str ⟨#[97, 98]⟩, .str ⟨#[99]⟩, .str ⟨#[100]⟩], .tup [.str ⟨#[97]⟩, .str ⟨#[97]⟩, .str ⟨#[98]⟩, .str ⟨#[99]⟩, .str ⟨#[100]⟩], .exo, .tup [.str ⟨#[97]⟩, .str ⟨#[98]⟩, .str ⟨#[99]⟩, .exo]], .lst [.tup [], .tup [.str ⟨#[97]⟩, .str ⟨#[98]⟩, .str ⟨#[99]⟩], .tup [.str ⟨#[99]⟩, .str ⟨#[97]⟩, .str ⟨#[98]⟩, .str ⟨#[100]⟩], .ref 1, .tup [.str ⟨#[97]⟩, .str ⟨#[98]⟩, .str ⟨#[99]⟩, .str ⟨#[99]⟩], .tup [.str ⟨#[97]⟩, .str ⟨#[98]⟩, .str ⟨#[99]⟩, .str ⟨#[100]⟩, .str ⟨#[100]⟩], .tup [.str ⟨#[97]⟩, .str ⟨#[98]⟩, .str ⟨#[99]⟩, .str ⟨#[101]⟩], .non, .str ⟨#[97, 98, 99, 100]⟩, .int (5), .tup [.str ⟨#[97]⟩, .str ⟨#[98]⟩, .ref 5, .str ⟨#[100]⟩], .tup [.str ⟨#[97]⟩, .str ⟨#[98]⟩, .non, .str ⟨#[100]⟩], .tup [.str ⟨#[100]⟩, .str ⟨#[98]⟩, .str ⟨#[97]⟩, .str ⟨#[99]⟩], .tup [.str ⟨#[97]⟩, .str ⟨#[99]⟩, .str ⟨#[98]⟩, .str ⟨#[100]⟩], .tup [.str ⟨#[97]⟩, .str ⟨#[100]⟩, .str ⟨#[98]⟩, .str ⟨#[99]⟩], .bl true, .ref 8, .tup [.str ⟨#[97]⟩, .str ⟨#[98]⟩, .tup [.str ⟨#[99]⟩], .str ⟨#[100]⟩], .tup [.str ⟨#[97, 98]⟩, .str ⟨#[99]⟩, .str ⟨#[100]⟩], .tup [.str ⟨#[97]⟩, .str ⟨#[97]⟩, .str ⟨#[98]⟩, .str ⟨#[99]⟩, .str ⟨#[100]⟩], .exo, .tup [.str ⟨#[97]⟩, .str ⟨#[98]⟩, .str ⟨#[99]⟩, .exo]]]
def he8 : Iv.Env := [some (.tup [.tup [.tup [.str ⟨#[97]⟩, .tup [], .bl true], .tup [.str ⟨#[98]⟩, .tup [], .bl true], .tup [.str ⟨#[99]⟩, .tup [.str ⟨#[97]⟩, .str ⟨#[98]⟩], .bl false], .tup [.str ⟨#[100]⟩, .tup [.str ⟨#[98]⟩], .bl false]], .tup [.str ⟨#[99]⟩, .str ⟨#[100]⟩]]), some (.ref 0), some (.ref 12), some (.ref 27), none, none, none, none]
def hh8 : IH := [.lst [.tup [.str ⟨#[97]⟩, .str ⟨#[98]⟩, .str ⟨#[99]⟩, .str ⟨#[100]⟩], .tup [.str ⟨#[97]⟩, .str ⟨#[98]⟩, .str ⟨#[100]⟩, .str ⟨#[99]⟩], .tup [.str ⟨#[98]⟩, .str ⟨#[97]⟩, .str ⟨#[99]⟩, .str ⟨#[100]⟩], .tup [.str ⟨#[98]⟩, .str ⟨#[97]⟩, .str ⟨#[100]⟩, .str ⟨#[99]⟩], .tup [.str ⟨#[98]⟩, .str ⟨#[100]⟩, .str ⟨#[97]⟩, .str ⟨#[99]⟩]], .lst [.str ⟨#[97]⟩, .str ⟨#[98]⟩, .str ⟨#[99]⟩, .str ⟨#[100]⟩], .lst [.tup [], .tup [.str ⟨#[97]⟩, .str ⟨#[98]⟩, .str ⟨#[99]⟩], .tup [.str ⟨#[99]⟩, .str ⟨#[97]⟩, .str ⟨#[98]⟩, .str ⟨#[100]⟩], .ref 1, .tup [.str ⟨#[97]⟩, .str ⟨#[98]⟩, .str ⟨#[99]⟩, .str ⟨#[99]⟩], .tup [.str ⟨#[97]⟩, .str ⟨#[98]⟩, .str ⟨#[99]⟩, .str ⟨#[100]⟩, .str ⟨#[100]⟩], .tup [.str ⟨#[97]⟩, .str ⟨#[98]⟩, .str ⟨#[99]⟩, .str ⟨#[101]⟩], .non], .lst [.str ⟨#[97, 98, 99, 100]⟩, .int (5)], .lst [.tup [], .tup [.str ⟨#[97]⟩, .str ⟨#[98]⟩, .str ⟨#[99]⟩], .tup [.str ⟨#[99]⟩, .str ⟨#[97]⟩, .str ⟨#[98]⟩, .str ⟨#[100]⟩], .ref 1, .tup [.str ⟨#[97]⟩, .str ⟨#[98]⟩, .str ⟨#[99]⟩, .str ⟨#[99]⟩], .tup [.str ⟨#[97]⟩, .str ⟨#[98]⟩, .str ⟨#[99]⟩, .str ⟨#[100]⟩, .str ⟨#[100]⟩], .tup [.str ⟨#[97]⟩, .str ⟨#[98]⟩, .str ⟨#[99]⟩, .str ⟨#[101]⟩], .non, .str ⟨#[97, 98, 99, 100]⟩, .int (5)], .lst [.str ⟨#[99]⟩], .lst [.tup [.str ⟨#[97]⟩, .str ⟨#[98]⟩, .ref 5, .str ⟨#[100]⟩], .tup [.str ⟨#[97]⟩, .str ⟨#[98]⟩, .non, .str ⟨#[100]⟩], .tup [.str ⟨#[100]⟩, .str ⟨#[98]⟩, .str ⟨#[97]⟩, .str ⟨#[99]⟩], .tup [.str ⟨#[97]⟩, .str ⟨#[99]⟩, .str ⟨#[98]⟩, .str ⟨#[100]⟩], .tup [.str ⟨#[97]⟩, .str ⟨#[100]⟩, .str ⟨#[98]⟩, .str ⟨#[99]⟩]], .lst [.tup [], .tup [.str ⟨#[97]⟩, .str ⟨#[98]⟩, .str ⟨#[99]⟩], .tup [.str ⟨#[99]⟩, .str ⟨#[97]⟩, .str ⟨#[98]⟩, .str ⟨#[100]⟩], .ref 1, .tup [.str ⟨#[97]⟩, .str ⟨#[98]⟩, .str ⟨#[99]⟩, .str ⟨#[99]⟩], .tup [.str ⟨#[97]⟩, .str ⟨#[98]⟩, .str ⟨#[99]⟩, .str ⟨#[100]⟩, .str ⟨#[100]⟩], .tup [.str ⟨#[97]⟩, .str ⟨#[98]⟩, .str ⟨#[99]⟩, .str ⟨#[101]⟩], .non, .str ⟨#[97, 98, 99, 100]⟩, .int (5), .tup [.str ⟨#[97]⟩, .str ⟨#[98]⟩, .ref 5, .str ⟨#[100]⟩], .tup [.str ⟨#[97]⟩, .str ⟨#[98]⟩, .non, .str ⟨#[100]⟩], .tup [.str ⟨#[100]⟩, .str ⟨#[98]⟩, .str ⟨#[97]⟩, .str ⟨#[99]⟩], .tup [.str ⟨#[97]⟩, .str ⟨#[99]⟩, .str ⟨#[98]⟩, .str ⟨#[100]⟩], .tup [.str ⟨#[97]⟩, .str ⟨#[100]⟩, .str ⟨#[98]⟩, .str ⟨#[99]⟩]], .lst [], .lst [.bl true, .ref 8], .lst [.tup [], .tup [.str ⟨#[97]⟩, .str ⟨#[98]⟩, .str ⟨#[99]⟩], .tup [.str ⟨#[99]⟩, .str ⟨#[97]⟩, .str ⟨#[98]⟩, .str ⟨#[100]⟩], .ref 1, .tup [.str ⟨#[97]⟩, .str ⟨#[98]⟩, .str ⟨#[99]⟩, .str ⟨#[99]⟩], .tup [.str ⟨#[97]⟩, .str ⟨#[98]⟩, .str ⟨#[99]⟩, .str ⟨#[100]⟩, .str ⟨#[100]⟩], .tup [.str ⟨#[97]⟩, .str ⟨#[98]⟩, .str ⟨#[99]⟩, .str ⟨#[101]⟩], .non, .str ⟨#[97, 98, 99, 100]⟩, .int (5), .tup [.str ⟨#[97]⟩, .str ⟨#[98]⟩, .ref 5, .str ⟨#[100]⟩], .tup [.str ⟨#[97]⟩, .str ⟨#[98]⟩, .non, .str ⟨#[100]⟩], .tup [.str ⟨#[100]⟩, .str ⟨#[98]⟩, .str ⟨#[97]⟩, .str ⟨#[99]⟩], .tup [.str ⟨#[97]⟩, .str ⟨#[99]⟩, .str ⟨#[98]⟩, .str ⟨#[100]⟩], .tup [.str ⟨#[97]⟩, .str ⟨#[100]⟩, .str ⟨#[98]⟩, .str ⟨#[99]⟩], .bl true, .ref 8], .lst [.tup [.str ⟨#[97]⟩, .str ⟨#[98]⟩, .tup [.str ⟨#[99]⟩], .str ⟨#[100]⟩], .tup [.str ⟨#[97, 98]⟩, .str ⟨#[99]⟩, .str ⟨#[100]⟩], .tup [.str ⟨#[97]⟩, .str ⟨#[97]⟩, .str ⟨#[98]⟩, .str ⟨#[99]⟩, .str ⟨#[100]⟩], .exo, .tup [.str ⟨#[97]⟩, .str ⟨#[98]⟩, .str ⟨#[99]⟩, .exo]], .lst [.tup [], .tup [.str ⟨#[97]⟩, .str ⟨#[98]⟩, .str ⟨#[99]⟩], .tup [.str ⟨#[99]⟩, .str ⟨#[97]⟩, .str ⟨#[98]⟩, .str ⟨#[100]⟩], .ref 1, .tup [.str ⟨#[97]⟩, .str ⟨#[98]⟩, .str ⟨#[99]⟩, .str ⟨#[99]⟩], .tup [.str ⟨#[97]⟩, .str ⟨#[98]⟩, .str ⟨#[99]⟩, .str ⟨#[100]⟩, .str ⟨#[100]⟩], .tup [.str ⟨#[97]⟩, .str ⟨#[98]⟩, .str ⟨#[99]⟩, .str ⟨#[101]⟩], .non, .str ⟨#[97, 98, 99, 100]⟩, .int (5), .tup [.str ⟨#[97]⟩, .str ⟨#[98]⟩, .ref 5, .str ⟨#[100]⟩], .tup [.str ⟨#[97]⟩, .str ⟨#[98]⟩, .non, .str ⟨#[100]⟩], .tup [.str ⟨#[100]⟩, .str ⟨#[98]⟩, .str ⟨#[97]⟩, .str ⟨#[99]⟩], .tup [.str ⟨#[97]⟩, .str ⟨#[99]⟩, .str ⟨#[98]⟩, .str ⟨#[100]⟩], .tup [.str ⟨#[97]⟩, .str ⟨#[100]⟩, .str ⟨#[98]⟩, .str ⟨#[99]⟩], .bl true, .ref 8, .tup [.str ⟨#[97]⟩, .str ⟨#[98]⟩, .tup [.str ⟨#[99]⟩], .str ⟨#[100]⟩], .tup [.str ⟨#[97, 98]⟩, .str ⟨#[99]⟩, .str ⟨#[100]⟩], .tup [.str ⟨#[97]⟩, .str ⟨#[97]⟩, .str ⟨#[98]⟩, .str ⟨#[99]⟩, .str ⟨#[100]⟩], .exo, .tup [.str ⟨#[97]⟩, .str ⟨#[98]⟩, .str ⟨#[99]⟩, .exo]], .lst [.bl true, .bl true, .bl true, .bl true, .bl true], .lst [.bl false, .bl false, .bl false, .bl false, .bl false, .bl false, .bl false, .bl false, .bl false, .bl false, .bl false, .bl false, .bl false, .bl false, .bl false, .bl false, .bl false, .bl false, .bl false, .bl false, .bl false, .bl false], .dic [(.inr ⟨#[97]⟩, .tup []), (.inr ⟨#[98]⟩, .tup []), (.inr ⟨#[99]⟩, .tup [.str ⟨#[97]⟩, .str ⟨#[98]⟩]), (.inr ⟨#[100]⟩, .tup [.str ⟨#[98]⟩])], .dic [(.inr ⟨#[97]⟩, .tup []), (.inr ⟨#[98]⟩, .tup []), (.inr ⟨#[99]⟩, .tup [.str ⟨#[97]⟩, .str ⟨#[98]⟩]), (.inr ⟨#[100]⟩, .tup [.str ⟨#[98]⟩])], .dic [(.inr ⟨#[97]⟩, .bl true), (.inr ⟨#[98]⟩, .bl true)], .lst [], .lst [], .dic [(.inr ⟨#[97]⟩, .tup []), (.inr ⟨#[98]⟩, .tup []), (.inr ⟨#[99]⟩, .tup [.str ⟨#[97]⟩, .str ⟨#[98]⟩]), (.inr ⟨#[100]⟩, .tup [.str ⟨#[98]⟩])], .dic [(.inr ⟨#[97]⟩, .tup []), (.inr ⟨#[98]⟩, .tup []), (.inr ⟨#[99]⟩, .tup [.str ⟨#[97]⟩, .str ⟨#[98]⟩]), (.inr ⟨#[100]⟩, .tup [.str ⟨#[98]⟩])], .dic [(.inr ⟨#[97]⟩, .tup []), (.inr ⟨#[98]⟩, .tup []), (.inr ⟨#[99]⟩, .tup [.str ⟨#[97]⟩, .str ⟨#[98]⟩]), (.inr ⟨#[100]⟩, .tup [.str ⟨#[98]⟩])], .dic [(.inr ⟨#[97]⟩, .bl true), (.inr ⟨#[98]⟩, .bl true), (.inr ⟨#[99]⟩, .bl true)], .lst [], .lst [], .lst [.bl true, .bl true], .lst [.ref 13, .ref 14, .bl true]]
def he9 : Iv.Env := [some (.tup [.tup [.tup [.str ⟨#[97]⟩, .tup [], .bl true], .tup [.str ⟨#[98]⟩, .tup [], .bl true], .tup [.str ⟨#[99]⟩, .tup [.str ⟨#[97]⟩, .str ⟨#[98]⟩], .bl false], .tup [.str ⟨#[100]⟩, .tup [.str ⟨#[98]⟩], .bl false]], .tup [.str ⟨#[99]⟩, .str ⟨#[100]⟩]]), some (.ref 0), some (.ref 12), some (.ref 27), some (.ref 32), none, none, none]
def hh9 : IH := [.lst [.tup [.str ⟨#[97]⟩, .str ⟨#[98]⟩, .str ⟨#[99]⟩, .str ⟨#[100]⟩], .tup [.str ⟨#[97]⟩, .str ⟨#[98]⟩, .str ⟨#[100]⟩, .str ⟨#[99]⟩], .tup [.str ⟨#[98]⟩, .str ⟨#[97]⟩, .str ⟨#[99]⟩, .str ⟨#[100]⟩], .tup [.str ⟨#[98]⟩, .str ⟨#[97]⟩, .str ⟨#[100]⟩, .str ⟨#[99]⟩], .tup [.str ⟨#[98]⟩, .str ⟨#[100]⟩, .str ⟨#[97]⟩, .str ⟨#[99]⟩]], .lst [.str ⟨#[97]⟩, .str ⟨#[98]⟩, .str ⟨#[99]⟩, .str ⟨#[100]⟩], .lst [.tup [], .tup [.str ⟨#[97]⟩, .str ⟨#[98]⟩, .str ⟨#[99]⟩], .tup [.str ⟨#[99]⟩, .str ⟨#[97]⟩, .str ⟨#[98]⟩, .str ⟨#[100]⟩], .ref 1, .tup [.str ⟨#[97]⟩, .str ⟨#[98]⟩, .str ⟨#[99]⟩, .str ⟨#[99]⟩], .tup [.str ⟨#[97]⟩, .str ⟨#[98]⟩, .str ⟨#[99]⟩, .str ⟨#[100]⟩, .str ⟨#[100]⟩], .tup [.str ⟨#[97]⟩, .str ⟨#[98]⟩, .str ⟨#[99]⟩, .str ⟨#[101]⟩], .non], .lst [.str ⟨#[97, 98, 99, 100]⟩, .int (5)], .lst [.tup [], .tup [.str ⟨#[97]⟩, .str ⟨#[98]⟩, .str ⟨#[99]⟩], .tup [.str ⟨#[99]⟩, .str ⟨#[97]⟩, .str ⟨#[98]⟩, .str ⟨#[100]⟩], .ref 1, .tup [.str ⟨#[97]⟩, .str ⟨#[98]⟩, .str ⟨#[99]⟩, .str ⟨#[99]⟩], .tup [.str ⟨#[97]⟩, .str ⟨#[98]⟩, .str ⟨#[99]⟩, .str ⟨#[100]⟩, .str ⟨#[100]⟩], .tup [.str ⟨#[97]⟩, .str ⟨#[98]⟩, .str ⟨#[99]⟩, .str ⟨#[101]⟩], .non, .str ⟨#[97, 98, 99, 100]⟩, .int (5)], .lst [.str ⟨#[99]⟩], .lst [.tup [.str ⟨#[97]⟩, .str ⟨#[98]⟩, .ref 5, .str ⟨#[100]⟩], .tup [.str ⟨#[97]⟩, .str ⟨#[98]⟩, .non, .str ⟨#[100]⟩], .tup [.str ⟨#[100]⟩, .str ⟨#[98]⟩, .str ⟨#[97]⟩, .str ⟨#[99]⟩], .tup [.str ⟨#[97]⟩, .str ⟨#[99]⟩, .str ⟨#[98]⟩, .str ⟨#[100]⟩], .tup [.str ⟨#[97]⟩, .str ⟨#[100]⟩, .str ⟨#[98]⟩, .str ⟨#[99]⟩]], .lst [.tup [], .tup [.str ⟨#[97]⟩, .str ⟨#[98]⟩, .str ⟨#[99]⟩], .tup [.str ⟨#[99]⟩, .str ⟨#[97]⟩, .str ⟨#[98]⟩, .str ⟨#[100]⟩], .ref 1, .tup [.str ⟨#[97]⟩, .str ⟨#[98]⟩, .str ⟨#[99]⟩, .str ⟨#[99]⟩], .tup [.str ⟨#[97]⟩, .str ⟨#[98]⟩, .str ⟨#[99]⟩, .str ⟨#[100]⟩, .str ⟨#[100]⟩], .tup [.str ⟨#[97]⟩, .str ⟨#[98]⟩, .str ⟨#[99]⟩, .str ⟨#[101]⟩], .non, .str ⟨#[97, 98, 99, 100]⟩, .int (5), .tup [.str ⟨#[97]⟩, .str ⟨#[98]⟩, .ref 5, .str ⟨#[100]⟩], .tup [.str ⟨#[97]⟩, .str ⟨#[98]⟩, .non, .str ⟨#[100]⟩], .tup [.str ⟨#[100]⟩, .str ⟨#[98]⟩, .str ⟨#[97]⟩, .str ⟨#[99]⟩], .tup [.str ⟨#[97]⟩, .str ⟨#[99]⟩, .str ⟨#[98]⟩, .str ⟨#[100]⟩], .tup [.str ⟨#[97]⟩, .str ⟨#[100]⟩, .str ⟨#[98]⟩, .str ⟨#[99]⟩]], .lst [], .lst [.bl true, .ref 8], .lst [.tup [], .tup [.str ⟨#[97]⟩, .str ⟨#[98]⟩, .str ⟨#[99]⟩], .tup [.str ⟨#[99]⟩, .str ⟨#[97]⟩, .str ⟨#[98]⟩, .str ⟨#[100]⟩], .ref 1, .tup [.str ⟨#[97]⟩, .str ⟨#[98]⟩, .str ⟨#[99]⟩, .str ⟨#[99]⟩], .tup [.str ⟨#[97]⟩, .str ⟨#[98]⟩, .str ⟨#[99]⟩, .str ⟨#[100]⟩, .str ⟨#[100]⟩], .tup [.str ⟨#[97]⟩, .str ⟨#[98]⟩, .str ⟨#[99]⟩, .str ⟨#[101]⟩], .non, .str ⟨#[97, 98, 99, 100]⟩, .int (5), .tup [.str ⟨#[97]⟩, .str ⟨#[98]⟩, .ref 5, .str ⟨#[100]⟩], .tup [.str ⟨#[97]⟩, .str ⟨#[98]⟩, .non, .str ⟨#[100]⟩], .tup [.str ⟨#[100]⟩, .str ⟨#[98]⟩, .str ⟨#[97]⟩, .str ⟨#[99]⟩], .tup [.str ⟨#[97]⟩, .str ⟨#[99]⟩, .str ⟨#[98]⟩, .str ⟨#[100]⟩], .tup [.str ⟨#[97]⟩, .str ⟨#[100]⟩, .str ⟨#[98]⟩, .str ⟨#[99]⟩], .bl true, .ref 8], .lst [.tup [.str ⟨#[97]⟩, .str ⟨#[98]⟩, .tup [.str ⟨#[99]⟩], .str ⟨#[100]⟩], .tup [.str ⟨#[97, 98]⟩, .str ⟨#[99]⟩, .str ⟨#[100]⟩], .tup [.str ⟨#[97]⟩, .str ⟨#[97]⟩, .str ⟨#[98]⟩, .str ⟨#[99]⟩, .str ⟨#[100]⟩], .exo, .tup [.str ⟨#[97]⟩, .str ⟨#[98]⟩, .str ⟨#[99]⟩, .exo]], .lst [.tup [], .tup [.str ⟨#[97]⟩, .str ⟨#[98]⟩, .str ⟨#[99]⟩], .tup [.str ⟨#[99]⟩, .str ⟨#[97]⟩, .str ⟨#[98]⟩, .str ⟨#[100]⟩], .ref 1, .tup [.str ⟨#[97]⟩, .str ⟨#[98]⟩, .str ⟨#[99]⟩, .str ⟨#[99]⟩], .tup [.str ⟨#[97]⟩, .str ⟨#[98]⟩, .str ⟨#[99]⟩, .str ⟨#[100]⟩, .str ⟨#[100]⟩], .tup [.str ⟨#[97]⟩, .str ⟨#[98]⟩, .str ⟨#[99]⟩, .str ⟨#[101]⟩], .non, .str ⟨#[97, 98, 99, 100]⟩, .int (5), .tup [.str ⟨#[97]⟩, .str ⟨#[98]⟩, .ref 5, .str ⟨#[100]⟩], .tup [.str ⟨#[97]⟩, .str ⟨#[98]⟩, .non, .str ⟨#[100]⟩], .tup [.str ⟨#[100]⟩, .str ⟨#[98]⟩, .str ⟨#[97]⟩, .str ⟨#[99]⟩], .tup [.str ⟨#[97]⟩, .str ⟨#[99]⟩, .str ⟨#[98]⟩, .str ⟨#[100]⟩], .tup [.str ⟨#[97]⟩, .str ⟨#[100]⟩, .str ⟨#[98]⟩, .str ⟨#[99]⟩], .bl true, .ref 8, .tup [.str ⟨#[97]⟩, .str ⟨#[98]⟩, .tup [.str ⟨#[99]⟩], .str ⟨#[100]⟩], .tup [.str ⟨#[97, 98]⟩, .str ⟨#[99]⟩, .str ⟨#[100]⟩], .tup [.str ⟨#[97]⟩, .str ⟨#[97]⟩, .str ⟨#[98]⟩, .str ⟨#[99]⟩, .str ⟨#[100]⟩], .exo, .tup [.str ⟨#[97]⟩, .str ⟨#[98]⟩, .str ⟨#[99]⟩, .exo]], .lst [.bl true, .bl true, .bl true, .bl true, .bl true], .lst [.bl false, .bl false, .bl false, .bl false, .bl false, .bl false, .bl false, .bl false, .bl false, .bl false, .bl false, .bl false, .bl false, .bl false, .bl false, .bl false, .bl false, .bl false, .bl false, .bl false, .bl false, .bl false], .dic [(.inr ⟨#[97]⟩, .tup []), (.inr ⟨#[98]⟩, .tup []), (.inr ⟨#[99]⟩, .tup [.str ⟨#[97]⟩, .str ⟨#[98]⟩]), (.inr ⟨#[100]⟩, .tup [.str ⟨#[98]⟩])], .dic [(.inr ⟨#[97]⟩, .tup []), (.inr ⟨#[98]⟩, .tup []), (.inr ⟨#[99]⟩, .tup [.str ⟨#[97]⟩, .str ⟨#[98]⟩]), (.inr ⟨#[100]⟩, .tup [.str ⟨#[98]⟩])], .dic [(.inr ⟨#[97]⟩, .bl true), (.inr ⟨#[98]⟩, .bl true)], .lst [], .lst [], .dic [(.inr ⟨#[97]⟩, .tup []), (.inr ⟨#[98]⟩, .tup []), (.inr ⟨#[99]⟩, .tup [.str ⟨#[97]⟩, .str ⟨#[98]⟩]), (.inr ⟨#[100]⟩, .tup [.str ⟨#[98]⟩])], .dic [(.inr ⟨#[97]⟩, .tup []), (.inr ⟨#[98]⟩, .tup []), (.inr ⟨#[99]⟩, .tup [.str ⟨#[97]⟩, .str ⟨#[98]⟩]), (.inr ⟨#[100]⟩, .tup [.str ⟨#[98]⟩])], .dic [(.inr ⟨#[97]⟩, .tup []), (.inr ⟨#[98]⟩, .tup []), (.inr ⟨#[99]⟩, .tup [.str ⟨#[97]⟩, .str ⟨#[98]⟩]), (.inr ⟨#[100]⟩, .tup [.str ⟨#[98]⟩])], .dic [(.inr ⟨#[97]⟩, .bl true), (.inr ⟨#[98]⟩, .bl true), (.inr ⟨#[99]⟩, .bl true)], .lst [], .lst [], .lst [.bl true, .bl true], .lst [.ref 13, .ref 14, .bl true], .lst [.bl true], .lst [.bl true, .bl true, .bl true, .bl true, .bl true], .lst [.bl false], .lst [.bl false, .bl false, .bl false, .bl false, .bl false, .bl false, .bl false, .bl false, .bl false, .bl false, .bl false, .bl false, .bl false, .bl false, .bl false, .bl false, .bl false, .bl false, .bl false, .bl false, .bl false, .bl false], .lst [.ref 29, .ref 31, .bl true]]
def he10 : Iv.Env := [some (.tup [.tup [.tup [.str ⟨#[97]⟩, .tup [], .bl true], .tup [.str ⟨#[98]⟩, .tup [], .bl true], .tup [.str ⟨#[99]⟩, .tup [.str ⟨#[97]⟩, .str ⟨#[98]⟩], .bl false], .tup [.str ⟨#[100]⟩, .tup [.str ⟨#[98]⟩], .bl false]], .tup [.str ⟨#[99]⟩, .str ⟨#[100]⟩]]), some (.ref 0), some (.ref 12), some (.ref 36), some (.ref 32), none, none, none]
def hh10 : IH := [.lst [.tup [.str ⟨#[97]⟩, .str ⟨#[98]⟩, .str ⟨#[99]⟩, .str ⟨#[100]⟩], .tup [.str ⟨#[97]⟩, .str ⟨#[98]⟩, .str ⟨#[100]⟩, .str ⟨#[99]⟩], .tup [.str ⟨#[98]⟩, .str ⟨#[97]⟩, .str ⟨#[99]⟩, .str ⟨#[100]⟩], .tup [.str ⟨#[98]⟩, .str ⟨#[97]⟩, .str ⟨#[100]⟩, .str ⟨#[99]⟩], .tup [.str ⟨#[98]⟩, .str ⟨#[100]⟩, .str ⟨#[97]⟩, .str ⟨#[99]⟩]], .lst [.str ⟨#[97]⟩, .str ⟨#[98]⟩, .str ⟨#[99]⟩, .str ⟨#[100]⟩], .lst [.tup [], .tup [.str ⟨#[97]⟩, .str ⟨#[98]⟩, .str ⟨#[99]⟩], .tup [.str ⟨#[99]⟩, .str ⟨#[97]⟩, .str ⟨#[98]⟩, .str ⟨#[100]⟩], .ref 1, .tup [.str ⟨#[97]⟩, .str ⟨#[98]⟩, .str ⟨#[99]⟩, .str ⟨#[99]⟩], .tup [.str ⟨#[97]⟩, .str ⟨#[98]⟩, .str ⟨#[99]⟩, .str ⟨#[100]⟩, .str ⟨#[100]⟩], .tup [.str ⟨#[97]⟩, .str ⟨#[98]⟩, .str ⟨#[99]⟩, .str ⟨#[101]⟩], .non], .lst [.str ⟨#[97, 98, 99, 100]⟩, .int (5)], .lst [.tup [], .tup [.str ⟨#[97]⟩, .str ⟨#[98]⟩, .str ⟨#[99]⟩], .tup [.str ⟨#[99]⟩, .str ⟨#[97]⟩, .str ⟨#[98]⟩, .str ⟨#[100]⟩], .ref 1, .tup [.str ⟨#[97]⟩, .str ⟨#[98]⟩, .str ⟨#[99]⟩, .str ⟨#[99]⟩], .tup [.str ⟨#[97]⟩, .str ⟨#[98]⟩, .str ⟨#[99]⟩, .str ⟨#[100]⟩, .str ⟨#[100]⟩], .tup [.str ⟨#[97]⟩, .str ⟨#[98]⟩, .str ⟨#[99]⟩, .str ⟨#[101]⟩], .non, .str ⟨#[97, 98, 99, 100]⟩, .int (5)], .lst [.str ⟨#[99]⟩], .lst [.tup [.str ⟨#[97]⟩, .str ⟨#[98]⟩, .ref 5, .str ⟨#[100]⟩], .tup [.str ⟨#[97]⟩, .str ⟨#[98]⟩, .non, .str ⟨#[100]⟩], .tup [.str ⟨#[100]⟩, .str ⟨#[98]⟩, .str ⟨#[97]⟩, .str ⟨#[99]⟩], .tup [.str ⟨#[97]⟩, .str ⟨#[99]⟩, .str ⟨#[98]⟩, .str ⟨#[100]⟩], .tup [.str ⟨#[97]⟩, .str ⟨#[100]⟩, .str ⟨#[98]⟩, .str ⟨#[99]⟩]], .lst [.tup [], .tup [.str ⟨#[97]⟩, .str ⟨#[98]⟩, .str ⟨#[99]⟩], .tup [.str ⟨#[99]⟩, .str ⟨#[97]⟩, .str ⟨#[98]⟩, .str ⟨#[100]⟩], .ref 1, .tup [.str ⟨#[97]⟩, .str ⟨#[98]⟩, .str ⟨#[99]⟩, .str ⟨#[99]⟩], .tup [.str ⟨#[97]⟩, .str ⟨#[98]⟩, .str ⟨#[99]⟩, .str ⟨#[100]⟩, .str ⟨#[100]⟩], .tup [.str ⟨#[97]⟩, .str ⟨#[98]⟩, .str ⟨#[99]⟩, .str ⟨#[101]⟩], .non, .str ⟨#[97, 98, 99, 100]⟩, .int (5), .tup [.str ⟨#[97]⟩, .str ⟨#[98]⟩, .ref 5, .str ⟨#[100]⟩], .tup [.str ⟨#[97]⟩, .str ⟨#[98]⟩, .non, .str ⟨#[100]⟩], .tup [.str ⟨#[100]⟩, .str ⟨#[98]⟩, .str ⟨#[97]⟩, .str ⟨#[99]⟩], .tup [.str ⟨#[97]⟩, .str ⟨#[99]⟩, .str ⟨#[98]⟩, .str ⟨#[100]⟩], .tup [.str ⟨#[97]⟩, .str ⟨#[100]⟩, .str ⟨#[98]⟩, .str ⟨#[99]⟩]], .lst [], .lst [.bl true, .ref 8], .lst [.tup [], .tup [.str ⟨#[97]⟩, .str ⟨#[98]⟩, .str ⟨#[99]⟩], .tup [.str ⟨#[99]⟩, .str ⟨#[97]⟩, .str ⟨#[98]⟩, .str ⟨#[100]⟩], .ref 1, .tup [.str ⟨#[97]⟩, .str ⟨#[98]⟩, .str ⟨#[99]⟩, .str ⟨#[99]⟩], .tup [.str ⟨#[97]⟩, .str ⟨#[98]⟩, .str ⟨#[99]⟩, .str ⟨#[100]⟩, .str ⟨#[100]⟩], .tup [.str ⟨#[97]⟩, .str ⟨#[98]⟩, .str ⟨#[99]⟩, .str ⟨#[101]⟩], .non, .str ⟨#[97, 98, 99, 100]⟩, .int (5), .tup [.str ⟨#[97]⟩, .str ⟨#[98]⟩, .ref 5, .str ⟨#[100]⟩], .tup [.str ⟨#[97]⟩, .str ⟨#[98]⟩, .non, .str ⟨#[100]⟩], .tup [.str ⟨#[100]⟩, .str ⟨#[98]⟩, .str ⟨#[97]⟩, .str ⟨#[99]⟩], .tup [.str ⟨#[97]⟩, .str ⟨#[99]⟩, .str ⟨#[98]⟩, .str ⟨#[100]⟩], .tup [.str ⟨#[97]⟩, .str ⟨#[100]⟩, .str ⟨#[98]⟩, .str ⟨#[99]⟩], .bl true, .ref 8], .lst [.tup [.str ⟨#[97]⟩, .str ⟨#[98]⟩, .tup [.str ⟨#[99]⟩], .str ⟨#[100]⟩], .tup [.str ⟨#[97, 98]⟩, .str ⟨#[99]⟩, .str ⟨#[100]⟩], .tup [.str ⟨#[97]⟩, .str ⟨#[97]⟩, .str ⟨#[98]⟩, .str ⟨#[99]⟩, .str ⟨#[100]⟩], .exo, .tup [.str ⟨#[97]⟩, .str ⟨#[98]⟩, .str ⟨#[99]⟩, .exo]], .lst [.tup [], .tup [.str ⟨#[97]⟩, .str ⟨#[98]⟩, .str ⟨#[99]⟩], .tup [.str ⟨#[99]⟩, .str ⟨#[97]⟩, .str ⟨#[98]⟩, .str ⟨#[100]⟩], .ref 1, .tup [.str ⟨#[97]⟩, .str ⟨#[98]⟩, .str ⟨#[99]⟩, .str ⟨#[99]⟩], .tup [.str ⟨#[97]⟩, .str ⟨#[98]⟩, .str ⟨#[99]⟩, .str ⟨#[100]⟩, .str ⟨#[100]⟩], .tup [.str ⟨#[97]⟩, .str ⟨#[98]⟩, .str ⟨#[99]⟩, .str ⟨#[101]⟩], .non, .str ⟨#[97, 98, 99, 100]⟩, .int (5), .tup [.str ⟨#[97]⟩, .str ⟨#[98]⟩, .ref 5, .str ⟨#[100]⟩], .tup [.str ⟨#[97]⟩, .str ⟨#[98]⟩, .non, .str ⟨#[100]⟩], .tup [.str ⟨#[100]⟩, .str ⟨#[98]⟩, .str ⟨#[97]⟩, .str ⟨#[99]⟩], .tup [.str ⟨#[97]⟩, .str ⟨#[99]⟩, .str ⟨#[98]⟩, .str ⟨#[100]⟩], .tup [.str ⟨#[97]⟩, .str ⟨#[100]⟩, .str ⟨#[98]⟩, .str ⟨#[99]⟩], .bl true, .ref 8, .tup [.str ⟨#[97]⟩, .str ⟨#[98]⟩, .tup [.str ⟨#[99]⟩], .str ⟨#[100]⟩], .tup [.str ⟨#[97, 98]⟩, .str ⟨#[99]⟩, .str ⟨#[100]⟩], .tup [.str ⟨#[97]⟩, .str ⟨#[97]⟩, .str ⟨#[98]⟩, .str ⟨#[99]⟩, .str ⟨#[100]⟩], .exo, .tup [.str ⟨#[97]⟩, .str ⟨#[98]⟩, .str ⟨#[99]⟩, .exo]], .lst [.bl true, .bl true, .bl true, .bl true, .bl true], .lst [.bl false, .bl false, .bl false, .bl false, .bl false, .bl false, .bl false, .bl false, .bl false, .bl false, .bl false, .bl false, .bl false, .bl false, .bl false, .bl false, .bl false, .bl false, .bl false, .bl false, .bl false, .bl false], .dic [(.inr ⟨#[97]⟩, .tup []), (.inr ⟨#[98]⟩, .tup []), (.inr ⟨#[99]⟩, .tup [.str ⟨#[97]⟩, .str ⟨#[98]⟩]), (.inr ⟨#[100]⟩, .tup [.str ⟨#[98]⟩])], .dic [(.inr ⟨#[97]⟩, .tup []), (.inr ⟨#[98]⟩, .tup []), (.inr ⟨#[99]⟩, .tup [.str ⟨#[97]⟩, .str ⟨#[98]⟩]), (.inr ⟨#[100]⟩, .tup [.str ⟨#[98]⟩])], .dic [(.inr ⟨#[97]⟩, .bl true), (.inr ⟨#[98]⟩, .bl true)], .lst [], .lst [], .dic [(.inr ⟨#[97]⟩, .tup []), (.inr ⟨#[98]⟩, .tup []), (.inr ⟨#[99]⟩, .tup [.str ⟨#[97]⟩, .str ⟨#[98]⟩]), (.inr ⟨#[100]⟩, .tup [.str ⟨#[98]⟩])], .dic [(.inr ⟨#[97]⟩, .tup []), (.inr ⟨#[98]⟩, .tup []), (.inr ⟨#[99]⟩, .tup [.str ⟨#[97]⟩, .str ⟨#[98]⟩]), (.inr ⟨#[100]⟩, .tup [.str ⟨#[98]⟩])], .dic [(.inr ⟨#[97]⟩, .tup []), (.inr ⟨#[98]⟩, .tup []), (.inr ⟨#[99]⟩, .tup [.str ⟨#[97]⟩, .str ⟨#[98]⟩]), (.inr ⟨#[100]⟩, .tup [.str ⟨#[98]⟩])], .dic [(.inr ⟨#[97]⟩, .bl true), (.inr ⟨#[98]⟩, .bl true), (.inr ⟨#[99]⟩, .bl true)], .lst [], .lst [], .lst [.bl true, .bl true], .lst [.ref 13, .ref 14, .bl true], .lst [.bl true], .lst [.bl true, .bl true, .bl true, .bl true, .bl true], .lst [.bl false], .lst [.bl false, .bl false, .bl false, .bl false, .bl false, .bl false, .bl false, .bl false, .bl false, .bl false, .bl false, .bl false, .bl false, .bl false, .bl false, .bl false, .bl false, .bl false, .bl false, .bl false, .bl false, .bl false], .lst [.ref 29, .ref 31, .bl true], .lst [], .dic [], .lst [.bl false, .bl false, .tup [.str ⟨#[97]⟩, .str ⟨#[98]⟩, .str ⟨#[99]⟩, .str ⟨#[100]⟩], .tup []], .lst [.ref 13, .ref 14, .bl true, .bl false, .bl false, .tup [.str ⟨#[97]⟩, .str ⟨#[98]⟩, .str ⟨#[99]⟩, .str ⟨#[100]⟩], .tup []]]
def he11 : Iv.Env := [some (.tup [.tup [.tup [.str ⟨#[97]⟩, .tup [], .bl true], .tup [.str ⟨#[98]⟩, .tup [], .bl true], .tup [.str ⟨#[99]⟩, .tup [.str ⟨#[97]⟩, .str ⟨#[98]⟩], .bl false], .tup [.str ⟨#[100]⟩, .tup [.str ⟨#[98]⟩], .bl false]], .tup [.str ⟨#[99]⟩, .str ⟨#[100]⟩]]), some (.ref 0), some (.ref 12), some (.ref 36), some (.ref 38), none, none, none]
def hh11 : IH := [.lst [.tup [.str ⟨#[97]⟩, .str ⟨#[98]⟩, .str ⟨#[99]⟩, .str ⟨#[100]⟩], .tup [.str ⟨#[97]⟩, .str ⟨#[98]⟩, .str ⟨#[100]⟩, .str ⟨#[99]⟩], .tup [.str ⟨#[98]⟩, .str ⟨#[97]⟩, .str ⟨#[99]⟩, .str ⟨#[100]⟩], .tup [.str ⟨#[98]⟩, .str ⟨#[97]⟩, .str ⟨#[100]⟩, .str ⟨#[99]⟩], .tup [.str ⟨#[98]⟩, .str ⟨#[100]⟩, .str ⟨#[97]⟩, .str ⟨#[99]⟩]], .lst [.str ⟨#[97]⟩, .str ⟨#[98]⟩, .str ⟨#[99]⟩, .str ⟨#[100]⟩], .lst [.tup [], .tup [.str ⟨#[97]⟩, .str ⟨#[98]⟩, .str ⟨#[99]⟩], .tup [.str ⟨#[99]⟩, .str ⟨#[97]⟩, .str ⟨#[98]⟩, .str ⟨#[100]⟩], .ref 1, .tup [.str ⟨#[97]⟩, .str ⟨#[98]⟩, .str ⟨#[99]⟩, .str ⟨#[99]⟩], .tup [.str ⟨#[97]⟩, .str ⟨#[98]⟩, .str ⟨#[99]⟩, .str ⟨#[100]⟩, .str ⟨#[100]⟩], .tup [.str ⟨#[97]⟩, .str ⟨#[98]⟩, .str ⟨#[99]⟩, .str ⟨#[101]⟩], .non], .lst [.str ⟨#[97, 98, 99, 100]⟩, .int (5)], .lst [.tup [], .tup [.str ⟨#[97]⟩, .str ⟨#[98]⟩, .str ⟨#[99]⟩], .tup [.str ⟨#[99]⟩, .str ⟨#[97]⟩, .str ⟨#[98]⟩, .str ⟨#[100]⟩], .ref 1, .tup [.str ⟨#[97]⟩, .str ⟨#[98]⟩, .str ⟨#[99]⟩, .str ⟨#[99]⟩], .tup [.str ⟨#[97]⟩, .str ⟨#[98]⟩, .str ⟨#[99]⟩, .str ⟨#[100]⟩, .str ⟨#[100]⟩], .tup [.str ⟨#[97]⟩, .str ⟨#[98]⟩, .str ⟨#[99]⟩, .str ⟨#[101]⟩], .non, .str ⟨#[97, 98, 99, 100]⟩, .int (5)], .lst [.str ⟨#[99]⟩], .lst [.tup [.str ⟨#[97]⟩, .str ⟨#[98]⟩, .ref 5, .str ⟨#[100]⟩], .tup [.str ⟨#[97]⟩, .str ⟨#[98]⟩, .non, .str ⟨#[100]⟩], .tup [.str ⟨#[100]⟩, .str ⟨#[98]⟩, .str ⟨#[97]⟩, .str ⟨#[99]⟩], .tup [.str ⟨#[97]⟩, .str ⟨#[99]⟩, .str ⟨#[98]⟩, .str ⟨#[100]⟩], .tup [.str ⟨#[97]⟩, .str ⟨#[100]⟩, .str ⟨#[98]⟩, .str ⟨#[99]⟩]], .lst [.tup [], .tup [.str ⟨#[97]⟩, .str ⟨#[98]⟩, .str ⟨#[99]⟩], .tup [.str ⟨#[99]⟩, .str ⟨#[97]⟩, .str ⟨#[98]⟩, .str ⟨#[100]⟩], .ref 1, .tup [.str ⟨#[97]⟩, .str ⟨#[98]⟩, .str ⟨#[99]⟩, .str ⟨#[99]⟩], .tup [.str ⟨#[97]⟩, .str ⟨#[98]⟩, .str ⟨#[99]⟩, .str ⟨#[100]⟩, .str ⟨#[100]⟩], .tup [.str ⟨#[97]⟩, .str ⟨#[98]⟩, .str ⟨#[99]⟩, .str ⟨#[101]⟩], .non, .str ⟨#[97, 98, 99, 100]⟩, .int (5), .tup [.str ⟨#[97]⟩, .str ⟨#[98]⟩, .ref 5, .str ⟨#[100]⟩], .tup [.str ⟨#[97]⟩, .str ⟨#[98]⟩, .non, .str ⟨#[100]⟩], .tup [.str ⟨#[100]⟩, .str ⟨#[98]⟩, .str ⟨#[97]⟩, .str ⟨#[99]⟩], .tup [.str ⟨#[97]⟩, .str ⟨#[99]⟩, .str ⟨#[98]⟩, .str ⟨#[100]⟩], .tup [.str ⟨#[97]⟩, .str ⟨#[100]⟩, .str ⟨#[98]⟩, .str ⟨#[99]⟩]], .lst [], .lst [.bl true, .ref 8], .lst [.tup [], .tup [.str ⟨#[97]⟩, .str ⟨#[98]⟩, .str ⟨#[99]⟩], .tup [.str ⟨#[99]⟩, .str ⟨#[97]⟩, .str ⟨#[98]⟩, .str ⟨#[100]⟩], .ref 1, .tup [.str ⟨#[97]⟩, .str ⟨#[98]⟩, .str ⟨#[99]⟩, .str ⟨#[99]⟩], .tup [.str ⟨#[97]⟩, .str ⟨#[98]⟩, .str ⟨#[99]⟩, .str ⟨#[100]⟩, .str ⟨#[100]⟩], .tup [.str ⟨#[97]⟩, .str ⟨#[98]⟩, .str ⟨#[99]⟩, .str ⟨#[101]⟩], .non, .str ⟨#[97, 98, 99, 100]⟩, .int (5), .tup [.str ⟨#[97]⟩, .str ⟨#[98]⟩, .ref 5, .str ⟨#[100]⟩], .tup [.str ⟨#[97]⟩, .str ⟨#[98]⟩, .non, .str ⟨#[100]⟩], .tup [.str ⟨#[100]⟩, .str ⟨#[98]⟩, .str ⟨#[97]⟩, .str ⟨#[99]⟩], .tup [.str ⟨#[97]⟩, .str ⟨#[99]⟩, .str ⟨#[98]⟩, .str ⟨#[100]⟩], .tup [.str ⟨#[97]⟩, .str ⟨#[100]⟩, .str ⟨#[98]⟩, .str ⟨#[99]⟩], .bl true, .ref 8], .lst [.tup [.str ⟨#[97]⟩, .str ⟨#[98]⟩, .tup [.str ⟨#[99]⟩], .str ⟨#[100]⟩], .tup [.str ⟨#[97, 98]⟩, .str ⟨#[99]⟩, .str ⟨#[100]⟩], .tup [.str ⟨#[97]⟩, .str ⟨#[97]⟩, .str ⟨#[98]⟩, .str ⟨#[99]⟩, .str ⟨#[100]⟩], .exo, .tup [.str ⟨#[97]⟩, .str ⟨#[98]⟩, .str ⟨#[99]⟩, .exo]], .lst [.tup [], .tup [.str ⟨#[97]⟩, .str ⟨#[98]⟩, .str ⟨#[99]⟩], .tup [.str ⟨#[99]⟩, .str ⟨#[97]⟩, .str ⟨#[98]⟩, .str ⟨#[100]⟩], .ref 1, .tup [.str ⟨#[97]⟩, .str ⟨#[98]⟩, .str ⟨#[99]⟩, .str ⟨#[99]⟩], .tup [.str ⟨#[97]⟩, .str ⟨#[98]⟩, .str ⟨#[99]⟩, .str ⟨#[100]⟩, .str ⟨#[100]⟩], .tup [.str ⟨#[97]⟩, .str ⟨#[98]⟩, .str ⟨#[99]⟩, .str ⟨#[101]⟩], .non, .str ⟨#[97, 98, 99, 100]⟩, .int (5), .tup [.str ⟨#[97]⟩, .str ⟨#[98]⟩, .ref 5, .str ⟨#[100]⟩], .tup [.str ⟨#[97]⟩, .str ⟨#[98]⟩, .non, .str ⟨#[100]⟩], .tup [.str ⟨#[100]⟩, .str ⟨#[98]⟩, .str ⟨#[97]⟩, .str ⟨#[99]⟩], .tup [.str ⟨#[97]⟩, .str ⟨#[99]⟩, .str ⟨#[98]⟩, .str ⟨#[100]⟩], .tup [.str ⟨#[97]⟩, .str ⟨#[100]⟩, .str ⟨#[98]⟩, .str ⟨#[99]⟩], .bl true, .ref 8, .tup [.str ⟨#[97]⟩, .str ⟨#[98]⟩, .tup [.str ⟨#[99]⟩], .str ⟨#[100]⟩], .tup [.str ⟨#[97, 98]⟩, .str ⟨#[99]⟩, .str ⟨#[100]⟩], .tup [.str ⟨#[97]⟩, .str ⟨#[97]⟩, .str ⟨#[98]⟩, .str ⟨#[99]⟩, .str ⟨#[100]⟩], .exo, .tup [.str ⟨#[97]⟩, .str ⟨#[98]⟩, .str ⟨#[99]⟩, .exo]], .lst [.bl true, .bl true, .bl true, .bl true, .bl true], .lst [.bl false, .bl false, .bl false, .bl false, .bl false, .bl false, .bl false, .bl false, .bl false, .bl false, .bl false, .bl false, .bl false, .bl false, .bl false, .bl false, .bl false, .bl false, .bl false, .bl false, .bl false, .bl false], .dic [(.inr ⟨#[97]⟩, .tup []), (.inr ⟨#[98]⟩, .tup []), (.inr ⟨#[99]⟩, .tup [.str ⟨#[97]⟩, .str ⟨#[98]⟩]), (.inr ⟨#[100]⟩, .tup [.str ⟨#[98]⟩])], .dic [(.inr ⟨#[97]⟩, .tup []), (.inr ⟨#[98]⟩, .tup []), (.inr ⟨#[99]⟩, .tup [.str ⟨#[97]⟩, .str ⟨#[98]⟩]), (.inr ⟨#[100]⟩, .tup [.str ⟨#[98]⟩])], .dic [(.inr ⟨#[97]⟩, .bl true), (.inr ⟨#[98]⟩, .bl true)], .lst [], .lst [], .dic [(.inr ⟨#[97]⟩, .tup []), (.inr ⟨#[98]⟩, .tup []), (.inr ⟨#[99]⟩, .tup [.str ⟨#[97]⟩, .str ⟨#[98]⟩]), (.inr ⟨#[100]⟩, .tup [.str ⟨#[98]⟩])], .dic [(.inr ⟨#[97]⟩, .tup []), (.inr ⟨#[98]⟩, .tup []), (.inr ⟨#[99]⟩, .tup [.str ⟨#[97]⟩, .str ⟨#[98]⟩]), (.inr ⟨#[100]⟩, .tup [.str ⟨#[98]⟩])], .dic [(.inr ⟨#[97]⟩, .tup []), (.inr ⟨#[98]⟩, .tup []), (.inr ⟨#[99]⟩, .tup [.str ⟨#[97]⟩, .str ⟨#[98]⟩]), (.inr ⟨#[100]⟩, .tup [.str ⟨#[98]⟩])], .dic [(.inr ⟨#[97]⟩, .bl true), (.inr ⟨#[98]⟩, .bl true), (.inr ⟨#[99]⟩, .bl true)], .lst [], .lst [], .lst [.bl true, .bl true], .lst [.ref 13, .ref 14, .bl true], .lst [.bl true], .lst [.bl true, .bl true, .bl true, .bl true, .bl true], .lst [.bl false], .lst [.bl false, .bl false, .bl false, .bl false, .bl false, .bl false, .bl false, .bl false, .bl false, .bl false, .bl false, .bl false, .bl false, .bl false, .bl false, .bl false, .bl false, .bl false, .bl false, .bl false, .bl false, .bl false], .lst [.ref 29, .ref 31, .bl true], .lst [], .dic [], .lst [.bl false, .bl false, .tup [.str ⟨#[97]⟩, .str ⟨#[98]⟩, .str ⟨#[99]⟩, .str ⟨#[100]⟩], .tup []], .lst [.ref 13, .ref 14, .bl true, .bl false, .bl false, .tup [.str ⟨#[97]⟩, .str ⟨#[98]⟩, .str ⟨#[99]⟩, .str ⟨#[100]⟩], .tup []], .lst [.bl false, .bl false, .tup [.str ⟨#[97]⟩, .str ⟨#[98]⟩, .str ⟨#[99]⟩, .str ⟨#[100]⟩], .tup []], .lst [.ref 29, .ref 31, .bl true, .bl false, .bl false, .tup [.str ⟨#[97]⟩, .str ⟨#[98]⟩, .str ⟨#[99]⟩, .str ⟨#[100]⟩], .tup []]]
def he12 : Iv.Env := [some (.tup [.tup [.tup [.str ⟨#[97]⟩, .tup [], .bl true], .tup [.str ⟨#[98]⟩, .tup [], .bl true], .tup [.str ⟨#[99]⟩, .tup [.str ⟨#[97]⟩, .str ⟨#[98]⟩], .bl false], .tup [.str ⟨#[100]⟩, .tup [.str ⟨#[98]⟩], .bl false]], .tup [.str ⟨#[99]⟩, .str ⟨#[100]⟩]]), some (.ref 0), some (.ref 12), some (.ref 36), some (.ref 38), some (.ref 39), none, none]
def hh12 : IH := [.lst [.tup [.str ⟨#[97]⟩, .str ⟨#[98]⟩, .str ⟨#[99]⟩, .str ⟨#[100]⟩], .tup [.str ⟨#[97]⟩, .str ⟨#[98]⟩, .str ⟨#[100]⟩, .str ⟨#[99]⟩], .tup [.str ⟨#[98]⟩, .str ⟨#[97]⟩, .str ⟨#[99]⟩, .str ⟨#[100]⟩], .tup [.str ⟨#[98]⟩, .str ⟨#[97]⟩, .str ⟨#[100]⟩, .str ⟨#[99]⟩], .tup [.str ⟨#[98]⟩, .str ⟨#[100]⟩, .str ⟨#[97]⟩, .str ⟨#[99]⟩]], .lst [.str ⟨#[97]⟩, .str ⟨#[98]⟩, .str ⟨#[99]⟩, .str ⟨#[100]⟩], .lst [.tup [], .tup [.str ⟨#[97]⟩, .str ⟨#[98]⟩, .str ⟨#[99]⟩], .tup [.str ⟨#[99]⟩, .str ⟨#[97]⟩, .str ⟨#[98]⟩, .str ⟨#[100]⟩], .ref 1, .tup [.str ⟨#[97]⟩, .str ⟨#[98]⟩, .str ⟨#[99]⟩, .str ⟨#[99]⟩], .tup [.str ⟨#[97]⟩, .str ⟨#[98]⟩, .str ⟨#[99]⟩, .str ⟨#[100]⟩, .str ⟨#[100]⟩], .tup [.str ⟨#[97]⟩, .str ⟨#[98]⟩, .str ⟨#[99]⟩, .str ⟨#[101]⟩], .non], .lst [.str ⟨#[97, 98, 99, 100]⟩, .int (5)], .lst [.tup [], .tup [.str ⟨#[97]⟩, .str ⟨#[98]⟩, .str ⟨#[99]⟩], .tup [.str ⟨#[99]⟩, .str ⟨#[97]⟩, .str ⟨#[98]⟩, .str ⟨#[100]⟩], .ref 1, .tup [.str ⟨#[97]⟩, .str ⟨#[98]⟩, .str ⟨#[99]⟩, .str ⟨#[99]⟩], .tup [.str ⟨#[97]⟩, .str ⟨#[98]⟩, .str ⟨#[99]⟩, .str ⟨#[100]⟩, .str ⟨#[100]⟩], .tup [.str ⟨#[97]⟩, .str ⟨#[98]⟩, .str ⟨#[99]⟩, .str ⟨#[101]⟩], .non, .str ⟨#[97, 98, 99, 100]⟩, .int (5)], .lst [.str ⟨#[99]⟩], .lst [.tup [.str ⟨#[97]⟩, .str ⟨#[98]⟩, .ref 5, .str ⟨#[100]⟩], .tup [.str ⟨#[97]⟩, .str ⟨#[98]⟩, .non, .str ⟨#[100]⟩], .tup [.str ⟨#[100]⟩, .str ⟨#[98]⟩, .str ⟨#[97]⟩, .str ⟨#[99]⟩], .tup [.str ⟨#[97]⟩, .str ⟨#[99]⟩, .str ⟨#[98]⟩, .str ⟨#[100]⟩], .tup [.str ⟨#[97]⟩, .str ⟨#[100]⟩, .str ⟨#[98]⟩, .str ⟨#[99]⟩]], .lst [.tup [], .tup [.str ⟨#[97]⟩, .str ⟨#[98]⟩, .str ⟨#[99]⟩], .tup [.str ⟨#[99]⟩, .str ⟨#[97]⟩, .str ⟨#[98]⟩, .str ⟨#[100]⟩], .ref 1, .tup [.str ⟨#[97]⟩, .str ⟨#[98]⟩, .str ⟨#[99]⟩, .str ⟨#[99]⟩], .tup [.str ⟨#[97]⟩, .str ⟨#[98]⟩, .str ⟨#[99]⟩, .str ⟨#[100]⟩, .str ⟨#[100]⟩], .tup [.str ⟨#[97]⟩, .str ⟨#[98]⟩, .str ⟨#[99]⟩, .str ⟨#[101]⟩], .non, .str ⟨#[97, 98, 99, 100]⟩, .int (5), .tup [.str ⟨#[97]⟩, .str ⟨#[98]⟩, .ref 5, .str ⟨#[100]⟩], .tup [.str ⟨#[97]⟩, .str ⟨#[98]⟩, .non, .str ⟨#[100]⟩], .tup [.str ⟨#[100]⟩, .str ⟨#[98]⟩, .str ⟨#[97]⟩, .str ⟨#[99]⟩], .tup [.str ⟨#[97]⟩, .str ⟨#[99]⟩, .str ⟨#[98]⟩, .str ⟨#[100]⟩], .tup [.str ⟨#[97]⟩, .str ⟨#[100]⟩, .str ⟨#[98]⟩, .str ⟨#[99]⟩]], .lst [], .lst [.bl true, .ref 8], .lst [.tup [], .tup [.str ⟨#[97]⟩, .str ⟨#[98]⟩, .str ⟨#[99]⟩], .tup [.str ⟨#[99]⟩, .str ⟨#[97]⟩, .str ⟨#[98]⟩, .str ⟨#[100]⟩], .ref 1, .tup [.str ⟨#[97]⟩, .str ⟨#[98]⟩, .str ⟨#[99]⟩, .str ⟨#[99]⟩], .tup [.str ⟨#[97]⟩, .str ⟨#[98]⟩, .str ⟨#[99]⟩, .str ⟨#[100]⟩, .str ⟨#[100]⟩], .tup [.str ⟨#[97]⟩, .str ⟨#[98]⟩, .str ⟨#[99]⟩, .str ⟨#[101]⟩], .non, .str ⟨#[97, 98, 99, 100]⟩, .int (5), .tup [.str ⟨#[97]⟩, .str ⟨#[98]⟩, .ref 5, .str ⟨#[100]⟩], .tup [.str ⟨#[97]⟩, .str ⟨#[98]⟩, .non, .str ⟨#[100]⟩], .tup [.str ⟨#[100]⟩, .str ⟨#[98]⟩, .str ⟨#[97]⟩, .str ⟨#[99]⟩], .tup [.str ⟨#[97]⟩, .str ⟨#[99]⟩, .str ⟨#[98]⟩, .str ⟨#[100]⟩], .tup [.str ⟨#[97]⟩, .str ⟨#[100]⟩, .str ⟨#[98]⟩, .str ⟨#[99]⟩], .bl true, .ref 8], .lst [.tup [.str ⟨#[97]⟩, .str ⟨#[98]⟩, .tup [.str ⟨#[99]⟩], .str ⟨#[100]⟩], .tup [.str ⟨#[97, 98]⟩, .str ⟨#[99]⟩, .str ⟨#[100]⟩], .tup [.str ⟨#[97]⟩, .str ⟨#[97]⟩, .str ⟨#[98]⟩, .str ⟨#[99]⟩, .str ⟨#[100]⟩], .exo, .tup [.str ⟨#[97]⟩, .str ⟨#[98]⟩, .str ⟨#[99]⟩, .exo]], .lst [.tup [], .tup [.str ⟨#[97]⟩, .str ⟨#[98]⟩, .str ⟨#[99]⟩], .tup [.str ⟨#[99]⟩, .str ⟨#[97]⟩, .str ⟨#[98]⟩, .str ⟨#[100]⟩], .ref 1, .tup [.str ⟨#[97]⟩, .str ⟨#[98]⟩, .str ⟨#[99]⟩, .str ⟨#[99]⟩], .tup [.str ⟨#[97]⟩, .str ⟨#[98]⟩, .str ⟨#[99]⟩, .str ⟨#[100]⟩, .str ⟨#[100]⟩], .tup [.str ⟨#[97]⟩, .str ⟨#[98]⟩, .str ⟨#[99]⟩, .str ⟨#[101]⟩], .non, .str ⟨#[97, 98, 99, 100]⟩, .int (5), .tup [.str ⟨#[97]⟩, .str ⟨#[98]⟩, .ref 5, .str ⟨#[100]⟩], .tup [.str ⟨#[97]⟩, .str ⟨#[98]⟩, .non, .str ⟨#[100]⟩], .tup [.str ⟨#[100]⟩, .str ⟨#[98]⟩, .str ⟨#[97]⟩, .str ⟨#[99]⟩], .tup [.str ⟨#[97]⟩, .str ⟨#[99]⟩, .str ⟨#[98]⟩, .str ⟨#[100]⟩], .tup [.str ⟨#[97]⟩, .str ⟨#[100]⟩, .str ⟨#[98]⟩, .str ⟨#[99]⟩], .bl true, .ref 8, .tup [.str ⟨#[97]⟩, .str ⟨#[98]⟩, .tup [.str ⟨#[99]⟩], .str ⟨#[100]⟩], .tup [.str ⟨#[97, 98]⟩, .str ⟨#[99]⟩, .str ⟨#[100]⟩], .tup [.str ⟨#[97]⟩, .str ⟨#[97]⟩, .str ⟨#[98]⟩, .str ⟨#[99]⟩, .str ⟨#[100]⟩], .exo, .tup [.str ⟨#[97]⟩, .str ⟨#[98]⟩, .str ⟨#[99]⟩, .exo]], .lst [.bl true, .bl true, .bl true, .bl true, .bl true], .lst [.bl false, .bl false, .bl false, .bl false, .bl false, .bl false, .bl false, .bl false, .bl false, .bl false, .bl false, .bl false, .bl false, .bl false, .bl false, .bl false, .bl false, .bl false, .bl false, .bl false, .bl false, .bl false], .dic [(.inr ⟨#[97]⟩, .tup []), (.inr ⟨#[98]⟩, .tup []), (.inr ⟨#[99]⟩, .tup [.str ⟨#[97]⟩, .str ⟨#[98]⟩]), (.inr ⟨#[100]⟩, .tup [.str ⟨#[98]⟩])], .dic [(.inr ⟨#[97]⟩, .tup []), (.inr ⟨#[98]⟩, .tup []), (.inr ⟨#[99]⟩, .tup [.str ⟨#[97]⟩, .str ⟨#[98]⟩]), (.inr ⟨#[100]⟩, .tup [.str ⟨#[98]⟩])], .dic [(.inr ⟨#[97]⟩, .bl true), (.inr ⟨#[98]⟩, .bl true)], .lst [], .lst [], .dic [(.inr ⟨#[97]⟩, .tup []), (.inr ⟨#[98]⟩, .tup []), (.inr ⟨#[99]⟩, .tup [.str ⟨#[97]⟩, .str ⟨#[98]⟩]), (.inr ⟨#[100]⟩, .tup [.str ⟨#[98]⟩])], .dic [(.inr ⟨#[97]⟩, .tup []), (.inr ⟨#[98]⟩, .tup []), (.inr ⟨#[99]⟩, .tup [.str ⟨#[97]⟩, .str ⟨#[98]⟩]), (.inr ⟨#[100]⟩, .tup [.str ⟨#[98]⟩])], .dic [(.inr ⟨#[97]⟩, .tup []), (.inr ⟨#[98]⟩, .tup []), (.inr ⟨#[99]⟩, .tup [.str ⟨#[97]⟩, .str ⟨#[98]⟩]), (.inr ⟨#[100]⟩, .tup [.str ⟨#[98]⟩])], .dic [(.inr ⟨#[97]⟩, .bl true), (.inr ⟨#[98]⟩, .bl true), (.inr ⟨#[99]⟩, .bl true)], .lst [], .lst [], .lst [.bl true, .bl true], .lst [.ref 13, .ref 14, .bl true], .lst [.bl true], .lst [.bl true, .bl true, .bl true, .bl true, .bl true], .lst [.bl false], .lst [.bl false, .bl false, .bl false, .bl false, .bl false, .bl false, .bl false, .bl false, .bl false, .bl false, .bl false, .bl false, .bl false, .bl false, .bl false, .bl false, .bl false, .bl false, .bl false, .bl false, .bl false, .bl false], .lst [.ref 29, .ref 31, .bl true], .lst [], .dic [], .lst [.bl false, .bl false, .tup [.str ⟨#[97]⟩, .str ⟨#[98]⟩, .str ⟨#[99]⟩, .str ⟨#[100]⟩], .tup []], .lst [.ref 13, .ref 14, .bl true, .bl false, .bl false, .tup [.str ⟨#[97]⟩, .str ⟨#[98]⟩, .str ⟨#[99]⟩, .str ⟨#[100]⟩], .tup []], .lst [.bl false, .bl false, .tup [.str ⟨#[97]⟩, .str ⟨#[98]⟩, .str ⟨#[99]⟩, .str ⟨#[100]⟩], .tup []], .lst [.ref 29, .ref 31, .bl true, .bl false, .bl false, .tup [.str ⟨#[97]⟩, .str ⟨#[98]⟩, .str ⟨#[99]⟩, .str ⟨#[100]⟩], .tup []], .lst [.tup [.tup [.tup [.str ⟨#[97]⟩, .tup [.str ⟨#[98]⟩], .bl false], .tup [.str ⟨#[98]⟩, .tup [.str ⟨#[99]⟩], .bl false], .tup [.str ⟨#[99]⟩, .tup [], .bl false]], .tup [.str ⟨#[97]⟩]], .tup [.tup [.tup [.str ⟨#[97]⟩, .tup [.str ⟨#[99]⟩], .bl false], .tup [.str ⟨#[98]⟩, .tup [], .bl false], .tup [.str ⟨#[99]⟩, .tup [], .bl true]], .tup [.str ⟨#[97]⟩, .str ⟨#[98]⟩]], .tup [.tup [.tup [.str ⟨#[97]⟩, .tup [.str ⟨#[100]⟩], .bl false], .tup [.str ⟨#[98]⟩, .tup [.str ⟨#[100]⟩], .bl false], .tup [.str ⟨#[99]⟩, .tup [], .bl false], .tup [.str ⟨#[100]⟩, .tup [], .bl false]], .tup []]]]
def he13 : Iv.Env := [some (.tup [.tup [.tup [.str ⟨#[97]⟩, .tup [], .bl true], .tup [.str ⟨#[98]⟩, .tup [], .bl true], .tup [.str ⟨#[99]⟩, .tup [.str ⟨#[97]⟩, .str ⟨#[98]⟩], .bl false], .tup [.str ⟨#[100]⟩, .tup [.str ⟨#[98]⟩], .bl false]], .tup [.str ⟨#[99]⟩, .str ⟨#[100]⟩]]), some (.ref 0), some (.ref 12), some (.ref 74), some (.ref 38), some (.ref 39), none, none]
def hh13 : IH := [.lst [.tup [.str ⟨#[97]⟩, .str ⟨#[98]⟩, .str ⟨#[99]⟩, .str ⟨#[100]⟩], .tup [.str ⟨#[97]⟩, .str ⟨#[98]⟩, .str ⟨#[100]⟩, .str ⟨#[99]⟩], .tup [.str ⟨#[98]⟩, .str ⟨#[97]⟩, .str ⟨#[99]⟩, .str ⟨#[100]⟩], .tup [.str ⟨#[98]⟩, .str ⟨#[97]⟩, .str ⟨#[100]⟩, .str ⟨#[99]⟩], .tup [.str ⟨#[98]⟩, .str ⟨#[100]⟩, .str ⟨#[97]⟩, .str ⟨#[99]⟩]], .lst [.str ⟨#[97]⟩, .str ⟨#[98]⟩, .str ⟨#[99]⟩, .str ⟨#[100]⟩], .lst [.tup [], .tup [.str ⟨#[97]⟩, .str ⟨#[98]⟩, .str ⟨#[99]⟩], .tup [.str ⟨#[99]⟩, .str ⟨#[97]⟩, .str ⟨#[98]⟩, .str ⟨#[100]⟩], .ref 1, .tup [.str ⟨#[97]⟩, .str ⟨#[98]⟩, .str ⟨#[99]⟩, .str ⟨#[99]⟩], .tup [.str ⟨#[97]⟩, .str ⟨#[98]⟩, .str ⟨#[99]⟩, .str ⟨#[100]⟩, .str ⟨#[100]⟩], .tup [.str ⟨#[97]⟩, .str ⟨#[98]⟩, .str ⟨#[99]⟩, .str ⟨#[101]⟩], .non], .lst [.str ⟨#[97, 98, 99, 100]⟩, .int (5)], .lst [.tup [], .tup [.str ⟨#[97]⟩, .str ⟨#[98]⟩, .str ⟨#[99]⟩], .tup [.str ⟨#[99]⟩, .str ⟨#[97]⟩, .str ⟨#[98]⟩, .str ⟨#[100]⟩], .ref 1, .tup [.str ⟨#[97]⟩, .str ⟨#[98]⟩, .str ⟨#[99]⟩, .str ⟨#[99]⟩], .tup [.str ⟨#[97]⟩, .str ⟨#[98]⟩, .str ⟨#[99]⟩, .str ⟨#[100]⟩, .str ⟨#[100]⟩], .tup [.str ⟨#[97]⟩, .str ⟨#[98]⟩, .str ⟨#[99]⟩, .str ⟨#[101]⟩], .non, .str ⟨#[97, 98, 99, 100]⟩, .int (5)], .lst [.str ⟨#[99]⟩], .lst [.tup [.str ⟨#[97]⟩, .str ⟨#[98]⟩, .ref 5, .str ⟨#[100]⟩], .tup [.str ⟨#[97]⟩, .str ⟨#[98]⟩, .non, .str ⟨#[100]⟩], .tup [.str ⟨#[100]⟩, .str ⟨#[98]⟩, .str ⟨#[97]⟩, .str ⟨#[99]⟩], .tup [.str ⟨#[97]⟩, .str ⟨#[99]⟩, .str ⟨#[98]⟩, .str ⟨#[100]⟩], .tup [.str ⟨#[97]⟩, .str ⟨#[100]⟩, .str ⟨#[98]⟩, .str ⟨#[99]⟩]], .lst [.tup [], .tup [.str ⟨#[97]⟩, .str ⟨#[98]⟩, .str ⟨#[99]⟩], .tup [.str ⟨#[99]⟩, .str ⟨#[97]⟩, .str ⟨#[98]⟩, .str ⟨#[100]⟩], .ref 1, .tup [.str ⟨#[97]⟩, .str ⟨#[98]⟩, .str ⟨#[99]⟩, .str ⟨#[99]⟩], .tup [.str ⟨#[97]⟩, .str ⟨#[98]⟩, .str ⟨#[99]⟩, .str ⟨#[100]⟩, .str ⟨#[100]⟩], .tup [.str ⟨#[97]⟩, .str ⟨#[98]⟩, .str ⟨#[99]⟩, .str ⟨#[101]⟩], .non, .str ⟨#[97, 98, 99, 100]⟩, .int (5), .tup [.str ⟨#[97]⟩, .str ⟨#[98]⟩, .ref 5, .str ⟨#[100]⟩], .tup [.str ⟨#[97]⟩, .str ⟨#[98]⟩, .non, .str ⟨#[100]⟩], .tup [.str ⟨#[100]⟩, .str ⟨#[98]⟩, .str ⟨#[97]⟩, .str ⟨#[99]⟩], .tup [.str ⟨#[97]⟩, .str ⟨#[99]⟩, .str ⟨#[98]⟩, .str ⟨#[100]⟩], .tup [.str ⟨#[97]⟩, .str ⟨#[100]⟩, .str ⟨#[98]⟩, .str ⟨#[99]⟩]], .lst [], .lst [.bl true, .ref 8], .lst [.tup [], .tup [.str ⟨#[97]⟩, .str ⟨#[98]⟩, .str ⟨#[99]⟩], .tup [.str ⟨#[99]⟩, .str ⟨#[97]⟩, .str ⟨#[98]⟩, .str ⟨#[100]⟩], .ref 1, .tup [.str ⟨#[97]⟩, .str ⟨#[98]⟩, .str ⟨#[99]⟩, .str ⟨#[99]⟩], .tup [.str ⟨#[97]⟩, .str ⟨#[98]⟩, .str ⟨#[99]⟩, .str ⟨#[100]⟩, .str ⟨#[100]⟩], .tup [.str ⟨#[97]⟩, .str ⟨#[98]⟩, .str ⟨#[99]⟩, .str ⟨#[101]⟩], .non, .str ⟨#[97, 98, 99, 100]⟩, .int (5), .tup [.str ⟨#[97]⟩, .str ⟨#[98]⟩, .ref 5, .str ⟨#[100]⟩], .tup [.str ⟨#[97]⟩, .str ⟨#[98]⟩, .non, .str ⟨#[100]⟩], .tup [.str ⟨#[100]⟩, .str ⟨#[98]⟩, .str ⟨#[97]⟩, .str ⟨#[99]⟩], .tup [.str ⟨#[97]⟩, .str ⟨#[99]⟩, .str ⟨#[98]⟩, .str ⟨#[100]⟩], .tup [.str ⟨#[97]⟩, .str ⟨#[100]⟩, .str ⟨#[98]⟩, .str ⟨#[99]⟩], .bl true, .ref 8], .lst [.tup [.str ⟨#[97]⟩, .str ⟨#[98]⟩, .tup [.str ⟨#[99]⟩], .str ⟨#[100]⟩], .tup [.str ⟨#[97, 98]⟩, .str ⟨#[99]⟩, .str ⟨#[100]⟩], .tup [.str ⟨#[97]⟩, .str ⟨#[97]⟩, .str ⟨#[98]⟩, .str ⟨#[99]⟩, .str ⟨#[100]⟩], .exo, .tup [.str ⟨#[97]⟩, .str ⟨#[98]⟩, .str ⟨#[99]⟩, .exo]], .lst [.tup [], .tup [.str ⟨#[97]⟩, .str ⟨#[98]⟩, .str ⟨#[99]⟩], .tup [.str ⟨#[99]⟩, .str ⟨#[97]⟩, .str ⟨#[98]⟩, .str ⟨#[100]⟩], .ref 1, .tup [.str ⟨#[97]⟩, .str ⟨#[98]⟩, .str ⟨#[99]⟩, .str ⟨#[99]⟩], .tup [.str ⟨#[97]⟩, .str ⟨#[98]⟩, .str ⟨#[99]⟩, .str ⟨#[100]⟩, .str ⟨#[100]⟩], .tup [.str ⟨#[97]⟩, .str ⟨#[98]⟩, .str ⟨#[99]⟩, .str ⟨#[101]⟩], .non, .str ⟨#[97, 98, 99, 100]⟩, .int (5), .tup [.str ⟨#[97]⟩, .str ⟨#[98]⟩, .ref 5, .str ⟨#[100]⟩], .tup [.str ⟨#[97]⟩, .str ⟨#[98]⟩, .non, .str ⟨#[100]⟩], .tup [.str ⟨#[100]⟩, .str ⟨#[98]⟩, .str ⟨#[97]⟩, .str ⟨#[99]⟩], .tup [.str ⟨#[97]⟩, .str ⟨#[99]⟩, .str ⟨#[98]⟩, .str ⟨#[100]⟩], .tup [.str ⟨#[97]⟩, .str ⟨#[100]⟩, .str ⟨#[98]⟩, .str ⟨#[99]⟩], .bl true, .ref 8, .tup [.str ⟨#[97]⟩, .str ⟨#[98]⟩, .tup [.str ⟨#[99]⟩], .str ⟨#[100]⟩], .tup [.str ⟨#[97, 98]⟩, .str ⟨#[99]⟩, .str ⟨#[100]⟩], .tup [.str ⟨#[97]⟩, .str ⟨#[97]⟩, .str ⟨#[98]⟩, .str ⟨#[99]⟩, .str ⟨#[100]⟩], .exo, .tup [.str ⟨#[97]⟩, .str ⟨#[98]⟩, .str ⟨#[99]⟩, .exo]], .lst [.bl true, .bl true, .bl true, .bl true, .bl true], .lst [.bl false, .bl false, .bl false, .bl false, .bl false, .bl false, .bl false, .bl false, .bl false, .bl false, .bl false, .bl false, .bl false, .bl false, .bl false, .bl false, .bl false, .bl false, .bl false, .bl false, .bl false, .bl false], .dic [(.inr ⟨#[97]⟩, .tup []), (.inr ⟨#[98]⟩, .tup []), (.inr ⟨#[99]⟩, .tup [.str ⟨#[97]⟩, .str ⟨#[98]⟩]), (.inr ⟨#[100]⟩, .tup [.str ⟨#[98]⟩])], .dic [(.inr ⟨#[97]⟩, .tup []), (.inr ⟨#[98]⟩, .tup []), (.inr ⟨#[99]⟩, .tup [.str ⟨#[97]⟩, .str ⟨#[98]⟩]), (.inr ⟨#[100]⟩, .tup [.str ⟨#[98]⟩])], .dic [(.inr ⟨#[97]⟩, .bl true), (.inr ⟨#[98]⟩, .bl true)], .lst [], .lst [], .dic [(.inr ⟨#[97]⟩, .tup []), (.inr ⟨#[98]⟩, .tup []), (.inr ⟨#[99]⟩, .tup [.str ⟨#[97]⟩, .str ⟨#[98]⟩]), (.inr ⟨#[100]⟩, .tup [.str ⟨#[98]⟩])], .dic [(.inr ⟨#[97]⟩, .tup []), (.inr ⟨#[98]⟩, .tup []), (.inr ⟨#[99]⟩, .tup [.str ⟨#[97]⟩, .str ⟨#[98]⟩]), (.inr ⟨#[100]⟩, .tup [.str ⟨#[98]⟩])], .dic [(.inr ⟨#[97]⟩, .tup []), (.inr ⟨#[98]⟩, .tup []), (.inr ⟨#[99]⟩, .tup [.str ⟨#[97]⟩, .str ⟨#[98]⟩]), (.inr ⟨#[100]⟩, .tup [.str ⟨#[98]⟩])], .dic [(.inr ⟨#[97]⟩, .bl true), (.inr ⟨#[98]⟩, .bl true), (.inr ⟨#[99]⟩, .bl true)], .lst [], .lst [], .lst [.bl true, .bl true], .lst [.ref 13, .ref 14, .bl true], .lst [.bl true], .lst [.bl true, .bl true, .bl true, .bl true, .bl true], .lst [.bl false], .lst [.bl false, .bl false, .bl false, .bl false, .bl false, .bl false, .bl false, .bl false, .bl false, .bl false, .bl false, .bl false, .bl false, .bl false, .bl false, .bl false, .bl false, .bl false, .bl false, .bl false, .bl false, .bl false], .lst [.ref 29, .ref 31, .bl true], .lst [], .dic [], .lst [.bl false, .bl false, .tup [.str ⟨#[97]⟩, .str ⟨#[98]⟩, .str ⟨#[99]⟩, .str ⟨#[100]⟩], .tup []], .lst [.ref 13, .ref 14, .bl true, .bl false, .bl false, .tup [.str ⟨#[97]⟩, .str ⟨#[98]⟩, .str ⟨#[99]⟩, .str ⟨#[100]⟩], .tup []], .lst [.bl false, .bl false, .tup [.str ⟨#[97]⟩, .str ⟨#[98]⟩, .str ⟨#[99]⟩, .str ⟨#[100]⟩], .tup []], .lst [.ref 29, .ref 31, .bl true, .bl false, .bl false, .tup [.str ⟨#[97]⟩, .str ⟨#[98]⟩, .str ⟨#[99]⟩, .str ⟨#[100]⟩], .tup []], .lst [.tup [.tup [.tup [.str ⟨#[97]⟩, .tup [.str ⟨#[98]⟩], .bl false], .tup [.str ⟨#[98]⟩, .tup [.str ⟨#[99]⟩], .bl false], .tup [.str ⟨#[99]⟩, .tup [], .bl false]], .tup [.str ⟨#[97]⟩]], .tup [.tup [.tup [.str ⟨#[97]⟩, .tup [.str ⟨#[99]⟩], .bl false], .tup [.str ⟨#[98]⟩, .tup [], .bl false], .tup [.str ⟨#[99]⟩, .tup [], .bl true]], .tup [.str ⟨#[97]⟩, .str ⟨#[98]⟩]], .tup [.tup [.tup [.str ⟨#[97]⟩, .tup [.str ⟨#[100]⟩], .bl false], .tup [.str ⟨#[98]⟩, .tup [.str ⟨#[100]⟩], .bl false], .tup [.str ⟨#[99]⟩, .tup [], .bl false], .tup [.str ⟨#[100]⟩, .tup [], .bl false]], .tup []]], .lst [.tup [.str ⟨#[99]⟩, .str ⟨#[98]⟩, .str ⟨#[97]⟩], .tup [.str ⟨#[98]⟩, .str ⟨#[99]⟩, .str ⟨#[97]⟩], .tup [.str ⟨#[99]⟩, .str ⟨#[100]⟩, .str ⟨#[97]⟩, .str ⟨#[98]⟩]], .lst [.ref 42, .ref 49], .lst [.ref 43, .ref 45, .ref 47], .lst [.str ⟨#[97]⟩, .ref 44, .bl false], .lst [.str ⟨#[99]⟩], .lst [.str ⟨#[98]⟩, .ref 46, .bl false], .lst [], .lst [.str ⟨#[99]⟩, .ref 48, .bl true], .lst [], .lst [.str ⟨#[97]⟩, .str ⟨#[98]⟩], .lst [.tup [.tup [.str ⟨#[97]⟩, .tup [.str ⟨#[99]⟩], .bl false], .tup [.str ⟨#[98]⟩, .tup [], .bl false], .tup [.str ⟨#[99]⟩, .tup [], .bl true]], .tup [.str ⟨#[97]⟩, .str ⟨#[98]⟩]], .lst [.tup [.str ⟨#[97]⟩, .tup [.str ⟨#[99]⟩], .bl false], .tup [.str ⟨#[98]⟩, .tup [], .bl false], .tup [.str ⟨#[99]⟩, .tup [], .bl true]], .lst [.str ⟨#[97]⟩, .tup [.str ⟨#[99]⟩], .bl false], .lst [.str ⟨#[99]⟩], .lst [.str ⟨#[98]⟩, .tup [], .bl false], .lst [], .lst [.str ⟨#[99]⟩, .tup [], .bl true], .lst [], .lst [.str ⟨#[97]⟩, .str ⟨#[98]⟩], .dic [(.inr ⟨#[97]⟩, .tup [.str ⟨#[99]⟩]), (.inr ⟨#[98]⟩, .tup []), (.inr ⟨#[99]⟩, .tup [])], .dic [(.inr ⟨#[98]⟩, .bl true), (.inr ⟨#[99]⟩, .bl true), (.inr ⟨#[97]⟩, .bl true)], .lst [.str ⟨#[98]⟩, .str ⟨#[99]⟩], .lst [.bl false], .lst [], .lst [], .lst [.str ⟨#[98]⟩, .str ⟨#[99]⟩], .lst [.str ⟨#[99]⟩], .lst [.bl false], .lst [], .lst [.str ⟨#[99]⟩], .lst [.str ⟨#[97]⟩], .lst [.bl true], .lst [.str ⟨#[97]⟩], .lst [.ref 40, .tup [.str ⟨#[98]⟩, .str ⟨#[99]⟩, .str ⟨#[97]⟩]], .lst [.ref 13, .ref 14, .bl true, .bl false, .bl false, .tup [.str ⟨#[97]⟩, .str ⟨#[98]⟩, .str ⟨#[99]⟩, .str ⟨#[100]⟩], .tup [], .ref 40, .tup [.str ⟨#[98]⟩, .str ⟨#[99]⟩, .str ⟨#[97]⟩]]]
def he14 : Iv.Env := [some (.tup [.tup [.tup [.str ⟨#[97]⟩, .tup [], .bl true], .tup [.str ⟨#[98]⟩, .tup [], .bl true], .tup [.str ⟨#[99]⟩, .tup [.str ⟨#[97]⟩, .str ⟨#[98]⟩], .bl false], .tup [.str ⟨#[100]⟩, .tup [.str ⟨#[98]⟩], .bl false]], .tup [.str ⟨#[99]⟩, .str ⟨#[100]⟩]]), some (.ref 0), some (.ref 12), some (.ref 74), some (.ref 77), some (.ref 39), none, none]
def hh14 : IH := [.lst [.tup [.str ⟨#[97]⟩, .str ⟨#[98]⟩, .str ⟨#[99]⟩, .str ⟨#[100]⟩], .tup [.str ⟨#[97]⟩, .str ⟨#[98]⟩, .str ⟨#[100]⟩, .str ⟨#[99]⟩], .tup [.str ⟨#[98]⟩, .str ⟨#[97]⟩, .str ⟨#[99]⟩, .str ⟨#[100]⟩], .tup [.str ⟨#[98]⟩, .str ⟨#[97]⟩, .str ⟨#[100]⟩, .str ⟨#[99]⟩], .tup [.str ⟨#[98]⟩, .str ⟨#[100]⟩, .str ⟨#[97]⟩, .str ⟨#[99]⟩]], .lst [.str ⟨#[97]⟩, .str ⟨#[98]⟩, .str ⟨#[99]⟩, .str ⟨#[100]⟩], .lst [.tup [], .tup [.str ⟨#[97]⟩, .str ⟨#[98]⟩, .str ⟨#[99]⟩], .tup [.str ⟨#[99]⟩, .str ⟨#[97]⟩, .str ⟨#[98]⟩, .str ⟨#[100]⟩], .ref 1, .tup [.str ⟨#[97]⟩, .str ⟨#[98]⟩, .str ⟨#[99]⟩, .str ⟨#[99]⟩], .tup [.str ⟨#[97]⟩, .str ⟨#[98]⟩, .str ⟨#[99]⟩, .str ⟨#[100]⟩, .str ⟨#[100]⟩], .tup [.str ⟨#[97]⟩, .str ⟨#[98]⟩, .str ⟨#[99]⟩, .str ⟨#[101]⟩], .non], .lst [.str ⟨#[97, 98, 99, 100]⟩, .int (5)], .lst [.tup [], .tup [.str ⟨#[97]⟩, .str ⟨#[98]⟩, .str ⟨#[99]⟩], .tup [.str ⟨#[99]⟩, .str ⟨#[97]⟩, .str ⟨#[98]⟩, .str ⟨#[100]⟩], .ref 1, .tup [.str ⟨#[97]⟩, .str ⟨#[98]⟩, .str ⟨#[99]⟩, .str ⟨#[99]⟩], .tup [.str ⟨#[97]⟩, .str ⟨#[98]⟩, .str ⟨#[99]⟩, .str ⟨#[100]⟩, .str ⟨#[100]⟩], .tup [.str ⟨#[97]⟩, .str ⟨#[98]⟩, .str ⟨#[99]⟩, .str ⟨#[101]⟩], .non, .str ⟨#[97, 98, 99, 100]⟩, .int (5)], .lst [.str ⟨#[99]⟩], .lst [.tup [.str ⟨#[97]⟩, .str ⟨#[98]⟩, .ref 5, .str ⟨#[100]⟩], .tup [.str ⟨#[97]⟩, .str ⟨#[98]⟩, .non, .str ⟨#[100]⟩], .tup [.str ⟨#[100]⟩, .str ⟨#[98]⟩, .str ⟨#[97]⟩, .str ⟨#[99]⟩], .tup [.str ⟨#[97]⟩, .str ⟨#[99]⟩, .str ⟨#[98]⟩, .str ⟨#[100]⟩], .tup [.str ⟨#[97]⟩, .str ⟨#[100]⟩, .str ⟨#[98]⟩, .str ⟨#[99]⟩]], .lst [.tup [], .tup [.str ⟨#[97]⟩, .str ⟨#[98]⟩, .str ⟨#[99]⟩], .tup [.str ⟨#[99]⟩, .str ⟨#[97]⟩, .str ⟨#[98]⟩, .str ⟨#[100]⟩], .ref 1, .tup [.str ⟨#[97]⟩, .str ⟨#[98]⟩, .str ⟨#[99]⟩, .str ⟨#[99]⟩], .tup [.str ⟨#[97]⟩, .str ⟨#[98]⟩, .str ⟨#[99]⟩, .str ⟨#[100]⟩, .str ⟨#[100]⟩], .tup [.str ⟨#[97]⟩, .str ⟨#[98]⟩, .str ⟨#[99]⟩, .str ⟨#[101]⟩], .non, .str ⟨#[97, 98, 99, 100]⟩, .int (5), .tup [.str ⟨#[97]⟩, .str ⟨#[98]⟩, .ref 5, .str ⟨#[100]⟩], .tup [.str ⟨#[97]⟩, .str ⟨#[98]⟩, .non, .str ⟨#[100]⟩], .tup [.str ⟨#[100]⟩, .str ⟨#[98]⟩, .str ⟨#[97]⟩, .str ⟨#[99]⟩], .tup [.str ⟨#[97]⟩, .str ⟨#[99]⟩, .str ⟨#[98]⟩, .str ⟨#[100]⟩], .tup [.str ⟨#[97]⟩, .str ⟨#[100]⟩, .str ⟨#[98]⟩, .str ⟨#[99]⟩]], .lst [], .lst [.bl true, .ref 8], .lst [.tup [], .tup [.str ⟨#[97]⟩, .str ⟨#[98]⟩, .str ⟨#[99]⟩], .tup [.str ⟨#[99]⟩, .str ⟨#[97]⟩, .str ⟨#[98]⟩, .str ⟨#[100]⟩], .ref 1, .tup [.str ⟨#[97]⟩, .str ⟨#[98]⟩, .str ⟨#[99]⟩, .str ⟨#[99]⟩], .tup [.str ⟨#[97]⟩, .str ⟨#[98]⟩, .str ⟨#[99]⟩, .str ⟨#[100]⟩, .str ⟨#[100]⟩], .tup [.str ⟨#[97]⟩, .str ⟨#[98]⟩, .str ⟨#[99]⟩, .str ⟨#[101]⟩], .non, .str ⟨#[97, 98, 99, 100]⟩, .int (5), .tup [.str ⟨#[97]⟩, .str ⟨#[98]⟩, .ref 5, .str ⟨#[100]⟩], .tup [.str ⟨#[97]⟩, .str ⟨#[98]⟩, .non, .str ⟨#[100]⟩], .tup [.str ⟨#[100]⟩, .str ⟨#[98]⟩, .str ⟨#[97]⟩, .str ⟨#[99]⟩], .tup [.str ⟨#[97]⟩, .str ⟨#[99]⟩, .str ⟨#[98]⟩, .str ⟨#[100]⟩], .tup [.str ⟨#[97]⟩, .str ⟨#[100]⟩, .str ⟨#[98]⟩, .str ⟨#[99]⟩], .bl true, .ref 8], .lst [.tup [.str ⟨#[97]⟩, .str ⟨#[98]⟩, .tup [.str ⟨#[99]⟩], .str ⟨#[100]⟩], .tup [.str ⟨#[97, 98]⟩, .str ⟨#[99]⟩, .str ⟨#[100]⟩], .tup [.str ⟨#[97]⟩, .str ⟨#[97]⟩, .str ⟨#[98]⟩, .str ⟨#[99]⟩, .str ⟨#[100]⟩], .exo, .tup [.str ⟨#[97]⟩, .str ⟨#[98]⟩, .str ⟨#[99]⟩, .exo]], .lst [.tup [], .tup [.str ⟨#[97]⟩, .str ⟨#[98]⟩, .str ⟨#[99]⟩], .tup [.str ⟨#[99]⟩, .str ⟨#[97]⟩, .str ⟨#[98]⟩, .str ⟨#[100]⟩], .ref 1, .tup [.str ⟨#[97]⟩, .str ⟨#[98]⟩, .str ⟨#[99]⟩, .str ⟨#[99]⟩], .tup [.str ⟨#[97]⟩, .str ⟨#[98]⟩, .str ⟨#[99]⟩, .str ⟨#[100]⟩, .str ⟨#[100]⟩], .tup [.str ⟨#[97]⟩, .str ⟨#[98]⟩, .str ⟨#[99]⟩, .str ⟨#[101]⟩], .non, .str ⟨#[97, 98, 99, 100]⟩, .int (5), .tup [.str ⟨#[97]⟩, .str ⟨#[98]⟩, .ref 5, .str ⟨#[100]⟩], .tup [.str ⟨#[97]⟩, .str ⟨#[98]⟩, .non, .str ⟨#[100]⟩], .tup [.str ⟨#[100]⟩, .str ⟨#[98]⟩, .str ⟨#[97]⟩, .str ⟨#[99]⟩], .tup [.str ⟨#[97]⟩, .str ⟨#[99]⟩, .str ⟨#[98]⟩, .str ⟨#[100]⟩], .tup [.str ⟨#[97]⟩, .str ⟨#[100]⟩, .str ⟨#[98]⟩, .str ⟨#[99]⟩], .bl true, .ref 8, .tup [.str ⟨#[97]⟩, .str ⟨#[98]⟩, .tup [.str ⟨#[99]⟩], .str ⟨#[100]⟩], .tup [.str ⟨#[97, 98]⟩, .str ⟨#[99]⟩, .str ⟨#[100]⟩], .tup [.str ⟨#[97]⟩, .str ⟨#[97]⟩, .str ⟨#[98]⟩, .str ⟨#[99]⟩, .str ⟨#[100]⟩], .exo, .tup [.str ⟨#[97]⟩, .str ⟨#[98]⟩, .str ⟨#[99]⟩, .exo]], .lst [.bl true, .bl true, .bl true, .bl true, .bl true], .lst [.bl false, .bl false, .bl false, .bl false, .bl false, .bl false, .bl false, .bl false, .bl false, .bl false, .bl false, .bl false, .bl false, .bl false, .bl false, .bl false, .bl false, .bl false, .bl false, .bl false, .bl false, .bl false], .dic [(.inr ⟨#[97]⟩, .tup []), (.inr ⟨#[98]⟩, .tup []), (.inr ⟨#[99]⟩, .tup [.str ⟨#[97]⟩, .str ⟨#[98]⟩]), (.inr ⟨#[100]⟩, .tup [.str ⟨#[98]⟩])], .dic [(.inr ⟨#[97]⟩, .tup []), (.inr ⟨#[98]⟩, .tup []), (.inr ⟨#[99]⟩, .tup [.str ⟨#[97]⟩, .str ⟨#[98]⟩]), (.inr ⟨#[100]⟩, .tup [.str ⟨#[98]⟩])], .dic [(.inr ⟨#[97]⟩, .bl true), (.inr ⟨#[98]⟩, .bl true)], .lst [], .lst [], .dic [(.inr ⟨#[97]⟩, .tup []), (.inr ⟨#[98]⟩, .tup []), (.inr ⟨#[99]⟩, .tup [.str ⟨#[97]⟩, .str ⟨#[98]⟩]), (.inr ⟨#[100]⟩, .tup [.str ⟨#[98]⟩])], .dic [(.inr ⟨#[97]⟩, .tup []), (.inr ⟨#[98]⟩, .tup []), (.inr ⟨#[99]⟩, .tup [.str ⟨#[97]⟩, .str ⟨#[98]⟩]), (.inr ⟨#[100]⟩, .tup [.str ⟨#[98]⟩])], .dic [(.inr ⟨#[97]⟩, .tup []), (.inr ⟨#[98]⟩, .tup []), (.inr ⟨#[99]⟩, .tup [.str ⟨#[97]⟩, .str ⟨#[98]⟩]), (.inr ⟨#[100]⟩, .tup [.str ⟨#[98]⟩])], .dic [(.inr ⟨#[97]⟩, .bl true), (.inr ⟨#[98]⟩, .bl true), (.inr ⟨#[99]⟩, .bl true)], .lst [], .lst [], .lst [.bl true, .bl true], .lst [.ref 13, .ref 14, .bl true], .lst [.bl true], .lst [.bl true, .bl true, .bl true, .bl true, .bl true], .lst [.bl false], .lst [.bl false, .bl false, .bl false, .bl false, .bl false, .bl false, .bl false, .bl false, .bl false, .bl false, .bl false, .bl false, .bl false, .bl false, .bl false, .bl false, .bl false, .bl false, .bl false, .bl false, .bl false, .bl false], .lst [.ref 29, .ref 31, .bl true], .lst [], .dic [], .lst [.bl false, .bl false, .tup [.str ⟨#[97]⟩, .str ⟨#[98]⟩, .str ⟨#[99]⟩, .str ⟨#[100]⟩], .tup []], .lst [.ref 13, .ref 14, .bl true, .bl false, .bl false, .tup [.str ⟨#[97]⟩, .str ⟨#[98]⟩, .str ⟨#[99]⟩, .str ⟨#[100]⟩], .tup []], .lst [.bl false, .bl false, .tup [.str ⟨#[97]⟩, .str ⟨#[98]⟩, .str ⟨#[99]⟩, .str ⟨#[100]⟩], .tup []], .lst [.ref 29, .ref 31, .bl true, .bl false, .bl false, .tup [.str ⟨#[97]⟩, .str ⟨#[98]⟩, .str ⟨#[99]⟩, .str ⟨#[100]⟩], .tup []], .lst [.tup [.tup [.tup [.str ⟨#[97]⟩, .tup [.str ⟨#[98]⟩], .bl false], .tup [.str ⟨#[98]⟩, .tup [.str ⟨#[99]⟩], .bl false], .tup [.str ⟨#[99]⟩, .tup [], .bl false]], .tup [.str ⟨#[97]⟩]], .tup [.tup [.tup [.str ⟨#[97]⟩, .tup [.str ⟨#[99]⟩], .bl false], .tup [.str ⟨#[98]⟩, .tup [], .bl false], .tup [.str ⟨#[99]⟩, .tup [], .bl true]], .tup [.str ⟨#[97]⟩, .str ⟨#[98]⟩]], .tup [.tup [.tup [.str ⟨#[97]⟩, .tup [.str ⟨#[100]⟩], .bl false], .tup [.str ⟨#[98]⟩, .tup [.str ⟨#[100]⟩], .bl false], .tup [.str ⟨#[99]⟩, .tup [], .bl false], .tup [.str ⟨#[100]⟩, .tup [], .bl false]], .tup []]], .lst [.tup [.str ⟨#[99]⟩, .str ⟨#[98]⟩, .str ⟨#[97]⟩], .tup [.str ⟨#[98]⟩, .str ⟨#[99]⟩, .str ⟨#[97]⟩], .tup [.str ⟨#[99]⟩, .str ⟨#[100]⟩, .str ⟨#[97]⟩, .str ⟨#[98]⟩]], .lst [.ref 42, .ref 49], .lst [.ref 43, .ref 45, .ref 47], .lst [.str ⟨#[97]⟩, .ref 44, .bl false], .lst [.str ⟨#[99]⟩], .lst [.str ⟨#[98]⟩, .ref 46, .bl false], .lst [], .lst [.str ⟨#[99]⟩, .ref 48, .bl true], .lst [], .lst [.str ⟨#[97]⟩, .str ⟨#[98]⟩], .lst [.tup [.tup [.str ⟨#[97]⟩, .tup [.str ⟨#[99]⟩], .bl false], .tup [.str ⟨#[98]⟩, .tup [], .bl false], .tup [.str ⟨#[99]⟩, .tup [], .bl true]], .tup [.str ⟨#[97]⟩, .str ⟨#[98]⟩]], .lst [.tup [.str ⟨#[97]⟩, .tup [.str ⟨#[99]⟩], .bl false], .tup [.str ⟨#[98]⟩, .tup [], .bl false], .tup [.str ⟨#[99]⟩, .tup [], .bl true]], .lst [.str ⟨#[97]⟩, .tup [.str ⟨#[99]⟩], .bl false], .lst [.str ⟨#[99]⟩], .lst [.str ⟨#[98]⟩, .tup [], .bl false], .lst [], .lst [.str ⟨#[99]⟩, .tup [], .bl true], .lst [], .lst [.str ⟨#[97]⟩, .str ⟨#[98]⟩], .dic [(.inr ⟨#[97]⟩, .tup [.str ⟨#[99]⟩]), (.inr ⟨#[98]⟩, .tup []), (.inr ⟨#[99]⟩, .tup [])], .dic [(.inr ⟨#[98]⟩, .bl true), (.inr ⟨#[99]⟩, .bl true), (.inr ⟨#[97]⟩, .bl true)], .lst [.str ⟨#[98]⟩, .str ⟨#[99]⟩], .lst [.bl false], .lst [], .lst [], .lst [.str ⟨#[98]⟩, .str ⟨#[99]⟩], .lst [.str ⟨#[99]⟩], .lst [.bl false], .lst [], .lst [.str ⟨#[99]⟩], .lst [.str ⟨#[97]⟩], .lst [.bl true], .lst [.str ⟨#[97]⟩], .lst [.ref 40, .tup [.str ⟨#[98]⟩, .str ⟨#[99]⟩, .str ⟨#[97]⟩]], .lst [.ref 13, .ref 14, .bl true, .bl false, .bl false, .tup [.str ⟨#[97]⟩, .str ⟨#[98]⟩, .str ⟨#[99]⟩, .str ⟨#[100]⟩], .tup [], .ref 40, .tup [.str ⟨#[98]⟩, .str ⟨#[99]⟩, .str ⟨#[97]⟩]], .lst [.tup [.str ⟨#[99]⟩, .str ⟨#[98]⟩, .str ⟨#[97]⟩], .tup [.str ⟨#[98]⟩, .str ⟨#[99]⟩, .str ⟨#[97]⟩], .tup [.str ⟨#[99]⟩, .str ⟨#[100]⟩, .str ⟨#[97]⟩, .str ⟨#[98]⟩]], .lst [.ref 75, .tup [.str ⟨#[98]⟩, .str ⟨#[99]⟩, .str ⟨#[97]⟩]], .lst [.ref 29, .ref 31, .bl true, .bl false, .bl false, .tup [.str ⟨#[97]⟩, .str ⟨#[98]⟩, .str ⟨#[99]⟩, .str ⟨#[100]⟩], .tup [], .ref 75, .tup [.str ⟨#[98]⟩, .str ⟨#[99]⟩, .str ⟨#[97]⟩]]]
def he15 : Iv.Env := [some (.tup [.tup [.tup [.str ⟨#[97]⟩, .tup [], .bl true], .tup [.str ⟨#[98]⟩, .tup [], .bl true], .tup [.str ⟨#[99]⟩, .tup [.str ⟨#[97]⟩, .str ⟨#[98]⟩], .bl false], .tup [.str ⟨#[100]⟩, .tup [.str ⟨#[98]⟩], .bl false]], .tup [.str ⟨#[99]⟩, .str ⟨#[100]⟩]]), some (.ref 0), some (.ref 12), some (.ref 79), some (.ref 77), some (.ref 39), none, none]
def hh15 : IH := [.lst [.tup [.str ⟨#[97]⟩, .str ⟨#[98]⟩, .str ⟨#[99]⟩, .str ⟨#[100]⟩], .tup [.str ⟨#[97]⟩, .str ⟨#[98]⟩, .str ⟨#[100]⟩, .str ⟨#[99]⟩], .tup [.str ⟨#[98]⟩, .str ⟨#[97]⟩, .str ⟨#[99]⟩, .str ⟨#[100]⟩], .tup [.str ⟨#[98]⟩, .str ⟨#[97]⟩, .str ⟨#[100]⟩, .str ⟨#[99]⟩], .tup [.str ⟨#[98]⟩, .str ⟨#[100]⟩, .str ⟨#[97]⟩, .str ⟨#[99]⟩]], .lst [.str ⟨#[97]⟩, .str ⟨#[98]⟩, .str ⟨#[99]⟩, .str ⟨#[100]⟩], .lst [.tup [], .tup [.str ⟨#[97]⟩, .str ⟨#[98]⟩, .str ⟨#[99]⟩], .tup [.str ⟨#[99]⟩, .str ⟨#[97]⟩, .str ⟨#[98]⟩, .str ⟨#[100]⟩], .ref 1, .tup [.str ⟨#[97]⟩, .str ⟨#[98]⟩, .str ⟨#[99]⟩, .str ⟨#[99]⟩], .tup [.str ⟨#[97]⟩, .str ⟨#[98]⟩, .str ⟨#[99]⟩, .str ⟨#[100]⟩, .str ⟨#[100]⟩], .tup [.str ⟨#[97]⟩, .str ⟨#[98]⟩, .str ⟨#[99]⟩, .str ⟨#[101]⟩], .non], .lst [.str ⟨#[97, 98, 99, 100]⟩, .int (5)], .lst [.tup [], .tup [.str ⟨#[97]⟩, .str ⟨#[98]⟩, .str ⟨#[99]⟩], .tup [.str ⟨#[99]⟩, .str ⟨#[97]⟩, .str ⟨#[98]⟩, .str ⟨#[100]⟩], .ref 1, .tup [.str ⟨#[97]⟩, .str ⟨#[98]⟩, .str ⟨#[99]⟩, .str ⟨#[99]⟩], .tup [.str ⟨#[97]⟩, .str ⟨#[98]⟩, .str ⟨#[99]⟩, .str ⟨#[100]⟩, .str ⟨#[100]⟩], .tup [.str ⟨#[97]⟩, .str ⟨#[98]⟩, .str ⟨#[99]⟩, .str ⟨#[101]⟩], .non, .str ⟨#[97, 98, 99, 100]⟩, .int (5)], .lst [.str ⟨#[99]⟩], .lst [.tup [.str ⟨#[97]⟩, .str ⟨#[98]⟩, .ref 5, .str ⟨#[100]⟩], .tup [.str ⟨#[97]⟩, .str ⟨#[98]⟩, .non, .str ⟨#[100]⟩], .tup [.str ⟨#[100]⟩, .str ⟨#[98]⟩, .str ⟨#[97]⟩, .str ⟨#[99]⟩], .tup [.str ⟨#[97]⟩, .str ⟨#[99]⟩, .str ⟨#[98]⟩, .str ⟨#[100]⟩], .tup [.str ⟨#[97]⟩, .str ⟨#[100]⟩, .str ⟨#[98]⟩, .str ⟨#[99]⟩]], .lst [.tup [], .tup [.str ⟨#[97]⟩, .str ⟨#[98]⟩, .str ⟨#[99]⟩], .tup [.str ⟨#[99]⟩, .str ⟨#[97]⟩, .str ⟨#[98]⟩, .str ⟨#[100]⟩], .ref 1, .tup [.str ⟨#[97]⟩, .str ⟨#[98]⟩, .str ⟨#[99]⟩, .str ⟨#[99]⟩], .tup [.str ⟨#[97]⟩, .str ⟨#[98]⟩, .str ⟨#[99]⟩, .str ⟨#[100]⟩, .str ⟨#[100]⟩], .tup [.str ⟨#[97]⟩, .str ⟨#[98]⟩, .str ⟨#[99]⟩, .str ⟨#[101]⟩], .non, .str ⟨#[97, 98, 99, 100]⟩, .int (5), .tup [.str ⟨#[97]⟩, .str ⟨#[98]⟩, .ref 5, .str ⟨#[100]⟩], .tup [.str ⟨#[97]⟩, .str ⟨#[98]⟩, .non, .str ⟨#[100]⟩], .tup [.str ⟨#[100]⟩, .str ⟨#[98]⟩, .str ⟨#[97]⟩, .str ⟨#[99]⟩], .tup [.str ⟨#[97]⟩, .str ⟨#[99]⟩, .str ⟨#[98]⟩, .str ⟨#[100]⟩], .tup [.str ⟨#[97]⟩, .str ⟨#[100]⟩, .str ⟨#[98]⟩, .str ⟨#[99]⟩]], .lst [], .lst [.bl true, .ref 8], .lst [.tup [], .tup [.str ⟨#[97]⟩, .str ⟨#[98]⟩, .str ⟨#[99]⟩], .tup [.str ⟨#[99]⟩, .str ⟨#[97]⟩, .str ⟨#[98]⟩, .str ⟨#[100]⟩], .ref 1, .tup [.str ⟨#[97]⟩, .str ⟨#[98]⟩, .str ⟨#[99]⟩, .str ⟨#[99]⟩], .tup [.str ⟨#[97]⟩, .str ⟨#[98]⟩, .str ⟨#[99]⟩, .str ⟨#[100]⟩, .str ⟨#[100]⟩], .tup [.str ⟨#[97]⟩, .str ⟨#[98]⟩, .str ⟨#[99]⟩, .str ⟨#[101]⟩], .non, .str ⟨#[97, 98, 99, 100]⟩, .int (5), .tup [.str ⟨#[97]⟩, .str ⟨#[98]⟩, .ref 5, .str ⟨#[100]⟩], .tup [.str ⟨#[97]⟩, .str ⟨#[98]⟩, .non, .str ⟨#[100]⟩], .tup [.str ⟨#[100]⟩, .str ⟨#[98]⟩, .str ⟨#[97]⟩, .str ⟨#[99]⟩], .tup [.str ⟨#[97]⟩, .str ⟨#[99]⟩, .str ⟨#[98]⟩, .str ⟨#[100]⟩], .tup [.str ⟨#[97]⟩, .str ⟨#[100]⟩, .str ⟨#[98]⟩, .str ⟨#[99]⟩], .bl true, .ref 8], .lst [.tup [.str ⟨#[97]⟩, .str ⟨#[98]⟩, .tup [.str ⟨#[99]⟩], .str ⟨#[100]⟩], .tup [.str ⟨#[97, 98]⟩, .str ⟨#[99]⟩, .str ⟨#[100]⟩], .tup [.str ⟨#[97]⟩, .str ⟨#[97]⟩, .str ⟨#[98]⟩, .str ⟨#[99]⟩, .str ⟨#[100]⟩], .exo, .tup [.str ⟨#[97]⟩, .str ⟨#[98]⟩, .str ⟨#[99]⟩, .exo]], .lst [.tup [], .tup [.str ⟨#[97]⟩, .str ⟨#[98]⟩, .str ⟨#[99]⟩], .tup [.str ⟨#[99]⟩, .str ⟨#[97]⟩, .str ⟨#[98]⟩, .str ⟨#[100]⟩], .ref 1, .tup [.str ⟨#[97]⟩, .str ⟨#[98]⟩, .str ⟨#[99]⟩, .str ⟨#[99]⟩], .tup [.str ⟨#[97]⟩, .str ⟨#[98]⟩, .str ⟨#[99]⟩, .str ⟨#[100]⟩, .str ⟨#[100]⟩], .tup [.str ⟨#[97]⟩, .str ⟨#[98]⟩, .str ⟨#[99]⟩, .str ⟨#[101]⟩], .non, .str ⟨#[97, 98, 99, 100]⟩, .int (5), .tup [.str ⟨#[97]⟩, .str ⟨#[98]⟩, .ref 5, .str ⟨#[100]⟩], .tup [.str ⟨#[97]⟩, .str ⟨#[98]⟩, .non, .str ⟨#[100]⟩], .tup [.str ⟨#[100]⟩, .str ⟨#[98]⟩, .str ⟨#[97]⟩, .str ⟨#[99]⟩], .tup [.str ⟨#[97]⟩, .str ⟨#[99]⟩, .str ⟨#[98]⟩, .str ⟨#[100]⟩], .tup [.str ⟨#[97]⟩, .str ⟨#[100]⟩, .str ⟨#[98]⟩, .str ⟨#[99]⟩], .bl true, .ref 8, .tup [.str ⟨#[97]⟩, .str ⟨#[98]⟩, .tup [.str ⟨#[99]⟩], .str ⟨#[100]⟩], .tup [.str ⟨#[97, 98]⟩, .str ⟨#[99]⟩, .str ⟨#[100]⟩], .tup [.str ⟨#[97]⟩, .str ⟨#[97]⟩, .str ⟨#[98]⟩, .str ⟨#[99]⟩, .str ⟨#[100]⟩], .exo, .tup [.str ⟨#[97]⟩, .str ⟨#[98]⟩, .str ⟨#[99]⟩, .exo]], .lst [.bl true, .bl true, .bl true, .bl true, .bl true], .lst [.bl false, .bl false, .bl false, .bl false, .bl false, .bl false, .bl false, .bl false, .bl false, .bl false, .bl false, .bl false, .bl false, .bl false, .bl false, .bl false, .bl false, .bl false, .bl false, .bl false, .bl false, .bl false], .dic [(.inr ⟨#[97]⟩, .tup []), (.inr ⟨#[98]⟩, .tup []), (.inr ⟨#[99]⟩, .tup [.str ⟨#[97]⟩, .str ⟨#[98]⟩]), (.inr ⟨#[100]⟩, .tup [.str ⟨#[98]⟩])], .dic [(.inr ⟨#[97]⟩, .tup []), (.inr ⟨#[98]⟩, .tup []), (.inr ⟨#[99]⟩, .tup [.str ⟨#[97]⟩, .str ⟨#[98]⟩]), (.inr ⟨#[100]⟩, .tup [.str ⟨#[98]⟩])], .dic [(.inr ⟨#[97]⟩, .bl true), (.inr ⟨#[98]⟩, .bl true)], .lst [], .lst [], .dic [(.inr ⟨#[97]⟩, .tup []), (.inr ⟨#[98]⟩, .tup []), (.inr ⟨#[99]⟩, .tup [.str ⟨#[97]⟩, .str ⟨#[98]⟩]), (.inr ⟨#[100]⟩, .tup [.str ⟨#[98]⟩])], .dic [(.inr ⟨#[97]⟩, .tup []), (.inr ⟨#[98]⟩, .tup []), (.inr ⟨#[99]⟩, .tup [.str ⟨#[97]⟩, .str ⟨#[98]⟩]), (.inr ⟨#[100]⟩, .tup [.str ⟨#[98]⟩])], .dic [(.inr ⟨#[97]⟩, .tup []), (.inr ⟨#[98]⟩, .tup []), (.inr ⟨#[99]⟩, .tup [.str ⟨#[97]⟩, .str ⟨#[98]⟩]), (.inr ⟨#[100]⟩, .tup [.str ⟨#[98]⟩])], .dic [(.inr ⟨#[97]⟩, .bl true), (.inr ⟨#[98]⟩, .bl true), (.inr ⟨#[99]⟩, .bl true)], .lst [], .lst [], .lst [.bl true, .bl true], .lst [.ref 13, .ref 14, .bl true], .lst [.bl true], .lst [.bl true, .bl true, .bl true, .bl true, .bl true], .lst [.bl false], .lst [.bl false, .bl false, .bl false, .bl false, .bl false, .bl false, .bl false, .bl false, .bl false, .bl false, .bl false, .bl false, .bl false, .bl false, .bl false, .bl false, .bl false, .bl false, .bl false, .bl false, .bl false, .bl false], .lst [.ref 29, .ref 31, .bl true], .lst [], .dic [], .lst [.bl false, .bl false, .tup [.str ⟨#[97]⟩, .str ⟨#[98]⟩, .str ⟨#[99]⟩, .str ⟨#[100]⟩], .tup []], .lst [.ref 13, .ref 14, .bl true, .bl false, .bl false, .tup [.str ⟨#[97]⟩, .str ⟨#[98]⟩, .str ⟨#[99]⟩, .str ⟨#[100]⟩], .tup []], .lst [.bl false, .bl false, .tup [.str ⟨#[97]⟩, .str ⟨#[98]⟩, .str ⟨#[99]⟩, .str ⟨#[100]⟩], .tup []], .lst [.ref 29, .ref 31, .bl true, .bl false, .bl false, .tup [.str ⟨#[97]⟩, .str ⟨#[98]⟩, .str ⟨#[99]⟩, .str ⟨#[100]⟩], .tup []], .lst [.tup [.tup [.tup [.str ⟨#[97]⟩, .tup [.str ⟨#[98]⟩], .bl false], .tup [.str ⟨#[98]⟩, .tup [.str ⟨#[99]⟩], .bl false], .tup [.str ⟨#[99]⟩, .tup [], .bl false]], .tup [.str ⟨#[97]⟩]], .tup [.tup [.tup [.str ⟨#[97]⟩, .tup [.str ⟨#[99]⟩], .bl false], .tup [.str ⟨#[98]⟩, .tup [], .bl false], .tup [.str ⟨#[99]⟩, .tup [], .bl true]], .tup [.str ⟨#[97]⟩, .str ⟨#[98]⟩]], .tup [.tup [.tup [.str ⟨#[97]⟩, .tup [.str ⟨#[100]⟩], .bl false], .tup [.str ⟨#[98]⟩, .tup [.str ⟨#[100]⟩], .bl false], .tup [.str ⟨#[99]⟩, .tup [], .bl false], .tup [.str ⟨#[100]⟩, .tup [], .bl false]], .tup []]], .lst [.tup [.str ⟨#[99]⟩, .str ⟨#[98]⟩, .str ⟨#[97]⟩], .tup [.str ⟨#[98]⟩, .str ⟨#[99]⟩, .str ⟨#[97]⟩], .tup [.str ⟨#[99]⟩, .str ⟨#[100]⟩, .str ⟨#[97]⟩, .str ⟨#[98]⟩]], .lst [.ref 42, .ref 49], .lst [.ref 43, .ref 45, .ref 47], .lst [.str ⟨#[97]⟩, .ref 44, .bl false], .lst [.str ⟨#[99]⟩], .lst [.str ⟨#[98]⟩, .ref 46, .bl false], .lst [], .lst [.str ⟨#[99]⟩, .ref 48, .bl true], .lst [], .lst [.str ⟨#[97]⟩, .str ⟨#[98]⟩], .lst [.tup [.tup [.str ⟨#[97]⟩, .tup [.str ⟨#[99]⟩], .bl false], .tup [.str ⟨#[98]⟩, .tup [], .bl false], .tup [.str ⟨#[99]⟩, .tup [], .bl true]], .tup [.str ⟨#[97]⟩, .str ⟨#[98]⟩]], .lst [.tup [.str ⟨#[97]⟩, .tup [.str ⟨#[99]⟩], .bl false], .tup [.str ⟨#[98]⟩, .tup [], .bl false], .tup [.str ⟨#[99]⟩, .tup [], .bl true]], .lst [.str ⟨#[97]⟩, .tup [.str ⟨#[99]⟩], .bl false], .lst [.str ⟨#[99]⟩], .lst [.str ⟨#[98]⟩, .tup [], .bl false], .lst [], .lst [.str ⟨#[99]⟩, .tup [], .bl true], .lst [], .lst [.str ⟨#[97]⟩, .str ⟨#[98]⟩], .dic [(.inr ⟨#[97]⟩, .tup [.str ⟨#[99]⟩]), (.inr ⟨#[98]⟩, .tup []), (.inr ⟨#[99]⟩, .tup [])], .dic [(.inr ⟨#[98]⟩, .bl true), (.inr ⟨#[99]⟩, .bl true), (.inr ⟨#[97]⟩, .bl true)], .lst [.str ⟨#[98]⟩, .str ⟨#[99]⟩], .lst [.bl false], .lst [], .lst [], .lst [.str ⟨#[98]⟩, .str ⟨#[99]⟩], .lst [.str ⟨#[99]⟩], .lst [.bl false], .lst [], .lst [.str ⟨#[99]⟩], .lst [.str ⟨#[97]⟩], .lst [.bl true], .lst [.str ⟨#[97]⟩], .lst [.ref 40, .tup [.str ⟨#[98]⟩, .str ⟨#[99]⟩, .str ⟨#[97]⟩]], .lst [.ref 13, .ref 14, .bl true, .bl false, .bl false, .tup [.str ⟨#[97]⟩, .str ⟨#[98]⟩, .str ⟨#[99]⟩, .str ⟨#[100]⟩], .tup [], .ref 40, .tup [.str ⟨#[98]⟩, .str ⟨#[99]⟩, .str ⟨#[97]⟩]], .lst [.tup [.str ⟨#[99]⟩, .str ⟨#[98]⟩, .str ⟨#[97]⟩], .tup [.str ⟨#[98]⟩, .str ⟨#[99]⟩, .str ⟨#[97]⟩], .tup [.str ⟨#[99]⟩, .str ⟨#[100]⟩, .str ⟨#[97]⟩, .str ⟨#[98]⟩]], .lst [.ref 75, .tup [.str ⟨#[98]⟩, .str ⟨#[99]⟩, .str ⟨#[97]⟩]], .lst [.ref 29, .ref 31, .bl true, .bl false, .bl false, .tup [.str ⟨#[97]⟩, .str ⟨#[98]⟩, .str ⟨#[99]⟩, .str ⟨#[100]⟩], .tup [], .ref 75, .tup [.str ⟨#[98]⟩, .str ⟨#[99]⟩, .str ⟨#[97]⟩]], .lst [.tup [.str ⟨#[97, 98]⟩, .str ⟨#[98]⟩, .str ⟨#[99]⟩], .tup [.str ⟨#[98]⟩, .str ⟨#[97, 97, 97]⟩, .str ⟨#[98, 97]⟩, .str ⟨#[99]⟩]], .lst [.ref 13, .ref 14, .bl true, .bl false, .bl false, .tup [.str ⟨#[97]⟩, .str ⟨#[98]⟩, .str ⟨#[99]⟩, .str ⟨#[100]⟩], .tup [], .ref 40, .tup [.str ⟨#[98]⟩, .str ⟨#[99]⟩, .str ⟨#[97]⟩], .tup [.str ⟨#[97, 98]⟩, .str ⟨#[98]⟩, .str ⟨#[99]⟩], .tup [.str ⟨#[98]⟩, .str ⟨#[97, 97, 97]⟩, .str ⟨#[98, 97]⟩, .str ⟨#[99]⟩]]]
def he16 : Iv.Env := [some (.tup [.tup [.tup [.str ⟨#[97]⟩, .tup [], .bl true], .tup [.str ⟨#[98]⟩, .tup [], .bl true], .tup [.str ⟨#[99]⟩, .tup [.str ⟨#[97]⟩, .str ⟨#[98]⟩], .bl false], .tup [.str ⟨#[100]⟩, .tup [.str ⟨#[98]⟩], .bl false]], .tup [.str ⟨#[99]⟩, .str ⟨#[100]⟩]]), some (.ref 0), some (.ref 12), some (.ref 79), some (.ref 81), some (.ref 39), none, none]
def hh16 : IH := [.lst [.tup [.str ⟨#[97]⟩, .str ⟨#[98]⟩, .str ⟨#[99]⟩, .str ⟨#[100]⟩], .tup [.str ⟨#[97]⟩, .str ⟨#[98]⟩, .str ⟨#[100]⟩, .str ⟨#[99]⟩], .tup [.str ⟨#[98]⟩, .str ⟨#[97]⟩, .str ⟨#[99]⟩, .str ⟨#[100]⟩], .tup [.str ⟨#[98]⟩, .str ⟨#[97]⟩, .str ⟨#[100]⟩, .str ⟨#[99]⟩], .tup [.str ⟨#[98]⟩, .str ⟨#[100]⟩, .str ⟨#[97]⟩, .str ⟨#[99]⟩]], .lst [.str ⟨#[97]⟩, .str ⟨#[98]⟩, .str ⟨#[99]⟩, .str ⟨#[100]⟩], .lst [.tup [], .tup [.str ⟨#[97]⟩, .str ⟨#[98]⟩, .str ⟨#[99]⟩], .tup [.str ⟨#[99]⟩, .str ⟨#[97]⟩, .str ⟨#[98]⟩, .str ⟨#[100]⟩], .ref 1, .tup [.str ⟨#[97]⟩, .str ⟨#[98]⟩, .str ⟨#[99]⟩, .str ⟨#[99]⟩], .tup [.str ⟨#[97]⟩, .str ⟨#[98]⟩, .str ⟨#[99]⟩, .str ⟨#[100]⟩, .str ⟨#[100]⟩], .tup [.str ⟨#[97]⟩, .str ⟨#[98]⟩, .str ⟨#[99]⟩, .str ⟨#[101]⟩], .non], .lst [.str ⟨#[97, 98, 99, 100]⟩, .int (5)], .lst [.tup [], .tup [.str ⟨#[97]⟩, .str ⟨#[98]⟩, .str ⟨#[99]⟩], .tup [.str ⟨#[99]⟩, .str ⟨#[97]⟩, .str ⟨#[98]⟩, .str ⟨#[100]⟩], .ref 1, .tup [.str ⟨#[97]⟩, .str ⟨#[98]⟩, .str ⟨#[99]⟩, .str ⟨#[99]⟩], .tup [.str ⟨#[97]⟩, .str ⟨#[98]⟩, .str ⟨#[99]⟩, .str ⟨#[100]⟩, .str ⟨#[100]⟩], .tup [.str ⟨#[97]⟩, .str ⟨#[98]⟩, .str ⟨#[99]⟩, .str ⟨#[101]⟩], .non, .str ⟨#[97, 98, 99, 100]⟩, .int (5)], .lst [.str ⟨#[99]⟩], .lst [.tup [.str ⟨#[97]⟩, .str ⟨#[98]⟩, .ref 5, .str ⟨#[100]⟩], .tup [.str ⟨#[97]⟩, .str ⟨#[98]⟩, .non, .str ⟨#[100]⟩], .tup [.str ⟨#[100]⟩, .str ⟨#[98]⟩, .str ⟨#[97]⟩, .str ⟨#[99]⟩], .tup [.str ⟨#[97]⟩, .str ⟨#[99]⟩, .str ⟨#[98]⟩, .str ⟨#[100]⟩], .tup [.str ⟨#[97]⟩, .str ⟨#[100]⟩, .str ⟨#[98]⟩, .str ⟨#[99]⟩]], .lst [.tup [], .tup [.str ⟨#[97]⟩, .str ⟨#[98]⟩, .str ⟨#[99]⟩], .tup [.str ⟨#[99]⟩, .str ⟨#[97]⟩, .str ⟨#[98]⟩, .str ⟨#[100]⟩], .ref 1, .tup [.str ⟨#[97]⟩, .str ⟨#[98]⟩, .str ⟨#[99]⟩, .str ⟨#[99]⟩], .tup [.str ⟨#[97]⟩, .str ⟨#[98]⟩, .str ⟨#[99]⟩, .str ⟨#[100]⟩, .str ⟨#[100]⟩], .tup [.str ⟨#[97]⟩, .str ⟨#[98]⟩, .str ⟨#[99]⟩, .str ⟨#[101]⟩], .non, .str ⟨#[97, 98, 99, 100]⟩, .int (5), .tup [.str ⟨#[97]⟩, .str ⟨#[98]⟩, .ref 5, .str ⟨#[100]⟩], .tup [.str ⟨#[97]⟩, .str ⟨#[98]⟩, .non, .str ⟨#[100]⟩], .tup [.str ⟨#[100]⟩, .str ⟨#[98]⟩, .str ⟨#[97]⟩, .str ⟨#[99]⟩], .tup [.str ⟨#[97]⟩, .str ⟨#[99]⟩, .str ⟨#[98]⟩, .str ⟨#[100]⟩], .tup [.str ⟨#[97]⟩, .str ⟨#[100]⟩, .str ⟨#[98]⟩, .str ⟨#[99]⟩]], .lst [], .lst [.bl true, .ref 8], .lst [.tup [], .tup [.str ⟨#[97]⟩, .str ⟨#[98]⟩, .str ⟨#[99]⟩], .tup [.str ⟨#[99]⟩, .str ⟨#[97]⟩, .str ⟨#[98]⟩, .str ⟨#[100]⟩], .ref 1, .tup [.str ⟨#[97]⟩, .str ⟨#[98]⟩, .str ⟨#[99]⟩, .str ⟨#[99]⟩], .tup [.str ⟨#[97]⟩, .str ⟨#[98]⟩, .str ⟨#[99]⟩, .str ⟨#[100]⟩, .str ⟨#[100]⟩], .tup [.str ⟨#[97]⟩, .str ⟨#[98]⟩, .str ⟨#[99]⟩, .str ⟨#[101]⟩], .non, .str ⟨#[97, 98, 99, 100]⟩, .int (5), .tup [.str ⟨#[97]⟩, .str ⟨#[98]⟩, .ref 5, .str ⟨#[100]⟩], .tup [.str ⟨#[97]⟩, .str ⟨#[98]⟩, .non, .str ⟨#[100]⟩], .tup [.str ⟨#[100]⟩, .str ⟨#[98]⟩, .str ⟨#[97]⟩, .str ⟨#[99]⟩], .tup [.str ⟨#[97]⟩, .str ⟨#[99]⟩, .str ⟨#[98]⟩, .str ⟨#[100]⟩], .tup [.str ⟨#[97]⟩, .str ⟨#[100]⟩, .str ⟨#[98]⟩, .str ⟨#[99]⟩], .bl true, .ref 8], .lst [.tup [.str ⟨#[97]⟩, .str ⟨#[98]⟩, .tup [.str ⟨#[99]⟩], .str ⟨#[100]⟩], .tup [.str ⟨#[97, 98]⟩, .str ⟨#[99]⟩, .str ⟨#[100]⟩], .tup [.str ⟨#[97]⟩, .str ⟨#[97]⟩, .str ⟨#[98]⟩, .str ⟨#[99]⟩, .str ⟨#[100]⟩], .exo, .tup [.str ⟨#[97]⟩, .str ⟨#[98]⟩, .str ⟨#[99]⟩, .exo]], .lst [.tup [], .tup [.str ⟨#[97]⟩, .str ⟨#[98]⟩, .str ⟨#[99]⟩], .tup [.str ⟨#[99]⟩, .str ⟨#[97]⟩, .str ⟨#[98]⟩, .str ⟨#[100]⟩], .ref 1, .tup [.str ⟨#[97]⟩, .str ⟨#[98]⟩, .str ⟨#[99]⟩, .str ⟨#[99]⟩], .tup [.str ⟨#[97]⟩, .str ⟨#[98]⟩, .str ⟨#[99]⟩, .str ⟨#[100]⟩, .str ⟨#[100]⟩], .tup [.str ⟨#[97]⟩, .str ⟨#[98]⟩, .str ⟨#[99]⟩, .str ⟨#[101]⟩], .non, .str ⟨#[97, 98, 99, 100]⟩, .int (5), .tup [.str ⟨#[97]⟩, .str ⟨#[98]⟩, .ref 5, .str ⟨#[100]⟩], .tup [.str ⟨#[97]⟩, .str ⟨#[98]⟩, .non, .str ⟨#[100]⟩], .tup [.str ⟨#[100]⟩, .str ⟨#[98]⟩, .str ⟨#[97]⟩, .str ⟨#[99]⟩], .tup [.str ⟨#[97]⟩, .str ⟨#[99]⟩, .str ⟨#[98]⟩, .str ⟨#[100]⟩], .tup [.str ⟨#[97]⟩, .str ⟨#[100]⟩, .str ⟨#[98]⟩, .str ⟨#[99]⟩], .bl true, .ref 8, .tup [.str ⟨#[97]⟩, .str ⟨#[98]⟩, .tup [.str ⟨#[99]⟩], .str ⟨#[100]⟩], .tup [.str ⟨#[97, 98]⟩, .str ⟨#[99]⟩, .str ⟨#[100]⟩], .tup [.str ⟨#[97]⟩, .str ⟨#[97]⟩, .str ⟨#[98]⟩, .str ⟨#[99]⟩, .str ⟨#[100]⟩], .exo, .tup [.str ⟨#[97]⟩, .str ⟨#[98]⟩, .str ⟨#[99]⟩, .exo]], .lst [.bl true, .bl true, .bl true, .bl true, .bl true], .lst [.bl false, .bl false, .bl false, .bl false, .bl false, .bl false, .bl false, .bl false, .bl false, .bl false, .bl false, .bl false, .bl false, .bl false, .bl false, .bl false, .bl false, .bl false, .bl false, .bl false, .bl false, .bl false], .dic [(.inr ⟨#[97]⟩, .tup []), (.inr ⟨#[98]⟩, .tup []), (.inr ⟨#[99]⟩, .tup [.str ⟨#[97]⟩, .str ⟨#[98]⟩]), (.inr ⟨#[100]⟩, .tup [.str ⟨#[98]⟩])], .dic [(.inr ⟨#[97]⟩, .tup []), (.inr ⟨#[98]⟩, .tup []), (.inr ⟨#[99]⟩, .tup [.str ⟨#[97]⟩, .str ⟨#[98]⟩]), (.inr ⟨#[100]⟩, .tup [.str ⟨#[98]⟩])], .dic [(.inr ⟨#[97]⟩, .bl true), (.inr ⟨#[98]⟩, .bl true)], .lst [], .lst [], .dic [(.inr ⟨#[97]⟩, .tup []), (.inr ⟨#[98]⟩, .tup []), (.inr ⟨#[99]⟩, .tup [.str ⟨#[97]⟩, .str ⟨#[98]⟩]), (.inr ⟨#[100]⟩, .tup [.str ⟨#[98]⟩])], .dic [(.inr ⟨#[97]⟩, .tup []), (.inr ⟨#[98]⟩, .tup []), (.inr ⟨#[99]⟩, .tup [.str ⟨#[97]⟩, .str ⟨#[98]⟩]), (.inr ⟨#[100]⟩, .tup [.str ⟨#[98]⟩])], .dic [(.inr ⟨#[97]⟩, .tup []), (.inr ⟨#[98]⟩, .tup []), (.inr ⟨#[99]⟩, .tup [.str ⟨#[97]⟩, .str ⟨#[98]⟩]), (.inr ⟨#[100]⟩, .tup [.str ⟨#[98]⟩])], .dic [(.inr ⟨#[97]⟩, .bl true), (.inr ⟨#[98]⟩, .bl true), (.inr ⟨#[99]⟩, .bl true)], .lst [], .lst [], .lst [.bl true, .bl true], .lst [.ref 13, .ref 14, .bl true], .lst [.bl true], .lst [.bl true, .bl true, .bl true, .bl true, .bl true], .lst [.bl false], .lst [.bl false, .bl false, .bl false, .bl false, .bl false, .bl false, .bl false, .bl false, .bl false, .bl false, .bl false, .bl false, .bl false, .bl false, .bl false, .bl false, .bl false, .bl false, .bl false, .bl false, .bl false, .bl false], .lst [.ref 29, .ref 31, .bl true], .lst [], .dic [], .lst [.bl false, .bl false, .tup [.str ⟨#[97]⟩, .str ⟨#[98]⟩, .str ⟨#[99]⟩, .str ⟨#[100]⟩], .tup []], .lst [.ref 13, .ref 14, .bl true, .bl false, .bl false, .tup [.str ⟨#[97]⟩, .str ⟨#[98]⟩, .str ⟨#[99]⟩, .str ⟨#[100]⟩], .tup []], .lst [.bl false, .bl false, .tup [.str ⟨#[97]⟩, .str ⟨#[98]⟩, .str ⟨#[99]⟩, .str ⟨#[100]⟩], .tup []], .lst [.ref 29, .ref 31, .bl true, .bl false, .bl false, .tup [.str ⟨#[97]⟩, .str ⟨#[98]⟩, .str ⟨#[99]⟩, .str ⟨#[100]⟩], .tup []], .lst [.tup [.tup [.tup [.str ⟨#[97]⟩, .tup [.str ⟨#[98]⟩], .bl false], .tup [.str ⟨#[98]⟩, .tup [.str ⟨#[99]⟩], .bl false], .tup [.str ⟨#[99]⟩, .tup [], .bl false]], .tup [.str ⟨#[97]⟩]], .tup [.tup [.tup [.str ⟨#[97]⟩, .tup [.str ⟨#[99]⟩], .bl false], .tup [.str ⟨#[98]⟩, .tup [], .bl false], .tup [.str ⟨#[99]⟩, .tup [], .bl true]], .tup [.str ⟨#[97]⟩, .str ⟨#[98]⟩]], .tup [.tup [.tup [.str ⟨#[97]⟩, .tup [.str ⟨#[100]⟩], .bl false], .tup [.str ⟨#[98]⟩, .tup [.str ⟨#[100]⟩], .bl false], .tup [.str ⟨#[99]⟩, .tup [], .bl false], .tup [.str ⟨#[100]⟩, .tup [], .bl false]], .tup []]], .lst [.tup [.str ⟨#[99]⟩, .str ⟨#[98]⟩, .str ⟨#[97]⟩], .tup [.str ⟨#[98]⟩, .str ⟨#[99]⟩, .str ⟨#[97]⟩], .tup [.str ⟨#[99]⟩, .str ⟨#[100]⟩, .str ⟨#[97]⟩, .str ⟨#[98]⟩]], .lst [.ref 42, .ref 49], .lst [.ref 43, .ref 45, .ref 47], .lst [.str ⟨#[97]⟩, .ref 44, .bl false], .lst [.str ⟨#[99]⟩], .lst [.str ⟨#[98]⟩, .ref 46, .bl false], .lst [], .lst [.str ⟨#[99]⟩, .ref 48, .bl true], .lst [], .lst [.str ⟨#[97]⟩, .str ⟨#[98]⟩], .lst [.tup [.tup [.str ⟨#[97]⟩, .tup [.str ⟨#[99]⟩], .bl false], .tup [.str ⟨#[98]⟩, .tup [], .bl false], .tup [.str ⟨#[99]⟩, .tup [], .bl true]], .tup [.str ⟨#[97]⟩, .str ⟨#[98]⟩]], .lst [.tup [.str ⟨#[97]⟩, .tup [.str ⟨#[99]⟩], .bl false], .tup [.str ⟨#[98]⟩, .tup [], .bl false], .tup [.str ⟨#[99]⟩, .tup [], .bl true]], .lst [.str ⟨#[97]⟩, .tup [.str ⟨#[99]⟩], .bl false], .lst [.str ⟨#[99]⟩], .lst [.str ⟨#[98]⟩, .tup [], .bl false], .lst [], .lst [.str ⟨#[99]⟩, .tup [], .bl true], .lst [], .lst [.str ⟨#[97]⟩, .str ⟨#[98]⟩], .dic [(.inr ⟨#[97]⟩, .tup [.str ⟨#[99]⟩]), (.inr ⟨#[98]⟩, .tup []), (.inr ⟨#[99]⟩, .tup [])], .dic [(.inr ⟨#[98]⟩, .bl true), (.inr ⟨#[99]⟩, .bl true), (.inr ⟨#[97]⟩, .bl true)], .lst [.str ⟨#[98]⟩, .str ⟨#[99]⟩], .lst [.bl false], .lst [], .lst [], .lst [.str ⟨#[98]⟩, .str ⟨#[99]⟩], .lst [.str ⟨#[99]⟩], .lst [.bl false], .lst [], .lst [.str ⟨#[99]⟩], .lst [.str ⟨#[97]⟩], .lst [.bl true], .lst [.str ⟨#[97]⟩], .lst [.ref 40, .tup [.str ⟨#[98]⟩, .str ⟨#[99]⟩, .str ⟨#[97]⟩]], .lst [.ref 13, .ref 14, .bl true, .bl false, .bl false, .tup [.str ⟨#[97]⟩, .str ⟨#[98]⟩, .str ⟨#[99]⟩, .str ⟨#[100]⟩], .tup [], .ref 40, .tup [.str ⟨#[98]⟩, .str ⟨#[99]⟩, .str ⟨#[97]⟩]], .lst [.tup [.str ⟨#[99]⟩, .str ⟨#[98]⟩, .str ⟨#[97]⟩], .tup [.str ⟨#[98]⟩, .str ⟨#[99]⟩, .str ⟨#[97]⟩], .tup [.str ⟨#[99]⟩, .str ⟨#[100]⟩, .str ⟨#[97]⟩, .str ⟨#[98]⟩]], .lst [.ref 75, .tup [.str ⟨#[98]⟩, .str ⟨#[99]⟩, .str ⟨#[97]⟩]], .lst [.ref 29, .ref 31, .bl true, .bl false, .bl false, .tup [.str ⟨#[97]⟩, .str ⟨#[98]⟩, .str ⟨#[99]⟩, .str ⟨#[100]⟩], .tup [], .ref 75, .tup [.str ⟨#[98]⟩, .str ⟨#[99]⟩, .str ⟨#[97]⟩]], .lst [.tup [.str ⟨#[97, 98]⟩, .str ⟨#[98]⟩, .str ⟨#[99]⟩], .tup [.str ⟨#[98]⟩, .str ⟨#[97, 97, 97]⟩, .str ⟨#[98, 97]⟩, .str ⟨#[99]⟩]], .lst [.ref 13, .ref 14, .bl true, .bl false, .bl false, .tup [.str ⟨#[97]⟩, .str ⟨#[98]⟩, .str ⟨#[99]⟩, .str ⟨#[100]⟩], .tup [], .ref 40, .tup [.str ⟨#[98]⟩, .str ⟨#[99]⟩, .str ⟨#[97]⟩], .tup [.str ⟨#[97, 98]⟩, .str ⟨#[98]⟩, .str ⟨#[99]⟩], .tup [.str ⟨#[98]⟩, .str ⟨#[97, 97, 97]⟩, .str ⟨#[98, 97]⟩, .str ⟨#[99]⟩]], .lst [.tup [.str ⟨#[97, 98]⟩, .str ⟨#[98]⟩, .str ⟨#[99]⟩], .tup [.str ⟨#[98]⟩, .str ⟨#[97, 97, 97]⟩, .str ⟨#[98, 97]⟩, .str ⟨#[99]⟩]], .lst [.ref 29, .ref 31, .bl true, .bl false, .bl false, .tup [.str ⟨#[97]⟩, .str ⟨#[98]⟩, .str ⟨#[99]⟩, .str ⟨#[100]⟩], .tup [], .ref 75, .tup [.str ⟨#[98]⟩, .str ⟨#[99]⟩, .str ⟨#[97]⟩], .tup [.str ⟨#[97, 98]⟩, .str ⟨#[98]⟩, .str ⟨#[99]⟩], .tup [.str ⟨#[98]⟩, .str ⟨#[97, 97, 97]⟩, .str ⟨#[98, 97]⟩, .str ⟨#[99]⟩]]]
def he17 : Iv.Env := [some (.tup [.tup [.tup [.str ⟨#[97]⟩, .tup [], .bl true], .tup [.str ⟨#[98]⟩, .tup [], .bl true], .tup [.str ⟨#[99]⟩, .tup [.str ⟨#[97]⟩, .str ⟨#[98]⟩], .bl false], .tup [.str ⟨#[100]⟩, .tup [.str ⟨#[98]⟩], .bl false]], .tup [.str ⟨#[99]⟩, .str ⟨#[100]⟩]]), some (.ref 0), some (.ref 12), some (.ref 106), some (.ref 81), some (.ref 39), none, none]
def hh17 : IH := [.lst [.tup [.str ⟨#[97]⟩, .str ⟨#[98]⟩, .str ⟨#[99]⟩, .str ⟨#[100]⟩], .tup [.str ⟨#[97]⟩, .str ⟨#[98]⟩, .str ⟨#[100]⟩, .str ⟨#[99]⟩], .tup [.str ⟨#[98]⟩, .str ⟨#[97]⟩, .str ⟨#[99]⟩, .str ⟨#[100]⟩], .tup [.str ⟨#[98]⟩, .str ⟨#[97]⟩, .str ⟨#[100]⟩, .str ⟨#[99]⟩], .tup [.str ⟨#[98]⟩, .str ⟨#[100]⟩, .str ⟨#[97]⟩, .str ⟨#[99]⟩]], .lst [.str ⟨#[97]⟩, .str ⟨#[98]⟩, .str ⟨#[99]⟩, .str ⟨#[100]⟩], .lst [.tup [], .tup [.str ⟨#[97]⟩, .str ⟨#[98]⟩, .str ⟨#[99]⟩], .tup [.str ⟨#[99]⟩, .str ⟨#[97]⟩, .str ⟨#[98]⟩, .str ⟨#[100]⟩], .ref 1, .tup [.str ⟨#[97]⟩, .str ⟨#[98]⟩, .str ⟨#[99]⟩, .str ⟨#[99]⟩], .tup [.str ⟨#[97]⟩, .str ⟨#[98]⟩, .str ⟨#[99]⟩, .str ⟨#[100]⟩, .str ⟨#[100]⟩], .tup [.str ⟨#[97]⟩, .str ⟨#[98]⟩, .str ⟨#[99]⟩, .str ⟨#[101]⟩], .non], .lst [.str ⟨#[97, 98, 99, 100]⟩, .int (5)], .lst [.tup [], .tup [.str ⟨#[97]⟩, .str ⟨#[98]⟩, .str ⟨#[99]⟩], .tup [.str ⟨#[99]⟩, .str ⟨#[97]⟩, .str ⟨#[98]⟩, .str ⟨#[100]⟩], .ref 1, .tup [.str ⟨#[97]⟩, .str ⟨#[98]⟩, .str ⟨#[99]⟩, .str ⟨#[99]⟩], .tup [.str ⟨#[97]⟩, .str ⟨#[98]⟩, .str ⟨#[99]⟩, .str ⟨#[100]⟩, .str ⟨#[100]⟩], .tup [.str ⟨#[97]⟩, .str ⟨#[98]⟩, .str ⟨#[99]⟩, .str ⟨#[101]⟩], .non, .str ⟨#[97, 98, 99, 100]⟩, .int (5)], .lst [.str ⟨#[99]⟩], .lst [.tup [.str ⟨#[97]⟩, .str ⟨#[98]⟩, .ref 5, .str ⟨#[100]⟩], .tup [.str ⟨#[97]⟩, .str ⟨#[98]⟩, .non, .str ⟨#[100]⟩], .tup [.str ⟨#[100]⟩, .str ⟨#[98]⟩, .str ⟨#[97]⟩, .str ⟨#[99]⟩], .tup [.str ⟨#[97]⟩, .str ⟨#[99]⟩, .str ⟨#[98]⟩, .str ⟨#[100]⟩], .tup [.str ⟨#[97]⟩, .str ⟨#[100]⟩, .str ⟨#[98]⟩, .str ⟨#[99]⟩]], .lst [.tup [], .tup [.str ⟨#[97]⟩, .str ⟨#[98]⟩, .str ⟨#[99]⟩], .tup [.str ⟨#[99]⟩, .str ⟨#[97]⟩, .str ⟨#[98]⟩, .str ⟨#[100]⟩], .ref 1, .tup [.str ⟨#[97]⟩, .str ⟨#[98]⟩, .str ⟨#[99]⟩, .str ⟨#[99]⟩], .tup [.str ⟨#[97]⟩, .str ⟨#[98]⟩, .str ⟨#[99]⟩, .str ⟨#[100]⟩, .str ⟨#[100]⟩], .tup [.str ⟨#[97]⟩, .str ⟨#[98]⟩, .str ⟨#[99]⟩, .str ⟨#[101]⟩], .non, .str ⟨#[97, 98, 99, 100]⟩, .int (5), .tup [.str ⟨#[97]⟩, .str ⟨#[98]⟩, .ref 5, .str ⟨#[100]⟩], .tup [.str ⟨#[97]⟩, .str ⟨#[98]⟩, .non, .str ⟨#[100]⟩], .tup [.str ⟨#[100]⟩, .str ⟨#[98]⟩, .str ⟨#[97]⟩, .str ⟨#[99]⟩], .tup [.str ⟨#[97]⟩, .str ⟨#[99]⟩, .str ⟨#[98]⟩, .str ⟨#[100]⟩], .tup [.str ⟨#[97]⟩, .str ⟨#[100]⟩, .str ⟨#[98]⟩, .str ⟨#[99]⟩]], .lst [], .lst [.bl true, .ref 8], .lst [.tup [], .tup [.str ⟨#[97]⟩, .str ⟨#[98]⟩, .str ⟨#[99]⟩], .tup [.str ⟨#[99]⟩, .str ⟨#[97]⟩, .str ⟨#[98]⟩, .str ⟨#[100]⟩], .ref 1, .tup [.str ⟨#[97]⟩, .str ⟨#[98]⟩, .str ⟨#[99]⟩, .str ⟨#[99]⟩], .tup [.str ⟨#[97]⟩, .str ⟨#[98]⟩, .str ⟨#[99]⟩, .str ⟨#[100]⟩, .str ⟨#[100]⟩], .tup [.str ⟨#[97]⟩, .str ⟨#[98]⟩, .str ⟨#[99]⟩, .str ⟨#[101]⟩], .non, .str ⟨#[97, 98, 99, 100]⟩, .int (5), .tup [.str ⟨#[97]⟩, .str ⟨#[98]⟩, .ref 5, .str ⟨#[100]⟩], .tup [.str ⟨#[97]⟩, .str ⟨#[98]⟩, .non, .str ⟨#[100]⟩], .tup [.str ⟨#[100]⟩, .str ⟨#[98]⟩, .str ⟨#[97]⟩, .str ⟨#[99]⟩], .tup [.str ⟨#[97]⟩, .str ⟨#[99]⟩, .str ⟨#[98]⟩, .str ⟨#[100]⟩], .tup [.str ⟨#[97]⟩, .str ⟨#[100]⟩, .str ⟨#[98]⟩, .str ⟨#[99]⟩], .bl true, .ref 8], .lst [.tup [.str ⟨#[97]⟩, .str ⟨#[98]⟩, .tup [.str ⟨#[99]⟩], .str ⟨#[100]⟩], .tup [.str ⟨#[97, 98]⟩, .str ⟨#[99]⟩, .str ⟨#[100]⟩], .tup [.str ⟨#[97]⟩, .str ⟨#[97]⟩, .str ⟨#[98]⟩, .str ⟨#[99]⟩, .str ⟨#[100]⟩], .exo, .tup [.str ⟨#[97]⟩, .str ⟨#[98]⟩, .str ⟨#[99]⟩, .exo]], .lst [.tup [], .tup [.str ⟨#[97]⟩, .str ⟨#[98]⟩, .str ⟨#[99]⟩], .tup [.str ⟨#[99]⟩, .str ⟨#[97]⟩, .str ⟨#[98]⟩, .str ⟨#[100]⟩], .ref 1, .tup [.str ⟨#[97]⟩, .str ⟨#[98]⟩, .str ⟨#[99]⟩, .str ⟨#[99]⟩], .tup [.str ⟨#[97]⟩, .str ⟨#[98]⟩, .str ⟨#[99]⟩, .str ⟨#[100]⟩, .str ⟨#[100]⟩], .tup [.str ⟨#[97]⟩, .str ⟨#[98]⟩, .str ⟨#[99]⟩, .str ⟨#[101]⟩], .non, .str ⟨#[97, 98, 99, 100]⟩, .int (5), .tup [.str ⟨#[97]⟩, .str ⟨#[98]⟩, .ref 5, .str ⟨#[100]⟩], .tup [.str ⟨#[97]⟩, .str ⟨#[98]⟩, .non, .str ⟨#[100]⟩], .tup [.str ⟨#[100]⟩, .str ⟨#[98]⟩, .str ⟨#[97]⟩, .str ⟨#[99]⟩], .tup [.str ⟨#[97]⟩, .str ⟨#[99]⟩, .str ⟨#[98]⟩, .str ⟨#[100]⟩], .tup [.str ⟨#[97]⟩, .str ⟨#[100]⟩, .str ⟨#[98]⟩, .str ⟨#[99]⟩], .bl true, .ref 8, .tup [.str ⟨#[97]⟩, .str ⟨#[98]⟩, .tup [.str ⟨#[99]⟩], .str ⟨#[100]⟩], .tup [.str ⟨#[97, 98]⟩, .str ⟨#[99]⟩, .str ⟨#[100]⟩], .tup [.str ⟨#[97]⟩, .str ⟨#[97]⟩, .str ⟨#[98]⟩, .str ⟨#[99]⟩, .str ⟨#[100]⟩], .exo, .tup [.str ⟨#[97]⟩, .str ⟨#[98]⟩, .str ⟨#[99]⟩, .exo]], .lst [.bl true, .bl true, .bl true, .bl true, .bl true], .lst [.bl false, .bl false, .bl false, .bl false, .bl false, .bl false, .bl false, .bl false, .bl false, .bl false, .bl false, .bl false, .bl false, .bl false, .bl false, .bl false, .bl false, .bl false, .bl false, .bl false, .bl false, .bl false], .dic [(.inr ⟨#[97]⟩, .tup []), (.inr ⟨#[98]⟩, .tup []), (.inr ⟨#[99]⟩, .tup [.str ⟨#[97]⟩, .str ⟨#[98]⟩]), (.inr ⟨#[100]⟩, .tup [.str ⟨#[98]⟩])], .dic [(.inr ⟨#[97]⟩, .tup []), (.inr ⟨#[98]⟩, .tup []), (.inr ⟨#[99]⟩, .tup [.str ⟨#[97]⟩, .str ⟨#[98]⟩]), (.inr ⟨#[100]⟩, .tup [.str ⟨#[98]⟩])], .dic [(.inr ⟨#[97]⟩, .bl true), (.inr ⟨#[98]⟩, .bl true)], .lst [], .lst [], .dic [(.inr ⟨#[97]⟩, .tup []), (.inr ⟨#[98]⟩, .tup []), (.inr ⟨#[99]⟩, .tup [.str ⟨#[97]⟩, .str ⟨#[98]⟩]), (.inr ⟨#[100]⟩, .tup [.str ⟨#[98]⟩])], .dic [(.inr ⟨#[97]⟩, .tup []), (.inr ⟨#[98]⟩, .tup []), (.inr ⟨#[99]⟩, .tup [.str ⟨#[97]⟩, .str ⟨#[98]⟩]), (.inr ⟨#[100]⟩, .tup [.str ⟨#[98]⟩])], .dic [(.inr ⟨#[97]⟩, .tup []), (.inr ⟨#[98]⟩, .tup []), (.inr ⟨#[99]⟩, .tup [.str ⟨#[97]⟩, .str ⟨#[98]⟩]), (.inr ⟨#[100]⟩, .tup [.str ⟨#[98]⟩])], .dic [(.inr ⟨#[97]⟩, .bl true), (.inr ⟨#[98]⟩, .bl true), (.inr ⟨#[99]⟩, .bl true)], .lst [], .lst [], .lst [.bl true, .bl true], .lst [.ref 13, .ref 14, .bl true], .lst [.bl true], .lst [.bl true, .bl true, .bl true, .bl true, .bl true], .lst [.bl false], .lst [.bl false, .bl false, .bl false, .bl false, .bl false, .bl false, .bl false, .bl false, .bl false, .bl false, .bl false, .bl false, .bl false, .bl false, .bl false, .bl false, .bl false, .bl false, .bl false, .bl false, .bl false, .bl false], .lst [.ref 29, .ref 31, .bl true], .lst [], .dic [], .lst [.bl false, .bl false, .tup [.str ⟨#[97]⟩, .str ⟨#[98]⟩, .str ⟨#[99]⟩, .str ⟨#[100]⟩], .tup []], .lst [.ref 13, .ref 14, .bl true, .bl false, .bl false, .tup [.str ⟨#[97]⟩, .str ⟨#[98]⟩, .str ⟨#[99]⟩, .str ⟨#[100]⟩], .tup []], .lst [.bl false, .bl false, .tup [.str ⟨#[97]⟩, .str ⟨#[98]⟩, .str ⟨#[99]⟩, .str ⟨#[100]⟩], .tup []], .lst [.ref 29, .ref 31, .bl true, .bl false, .bl false, .tup [.str ⟨#[97]⟩, .str ⟨#[98]⟩, .str ⟨#[99]⟩, .str ⟨#[100]⟩], .tup []], .lst [.tup [.tup [.tup [.str ⟨#[97]⟩, .tup [.str ⟨#[98]⟩], .bl false], .tup [.str ⟨#[98]⟩, .tup [.str ⟨#[99]⟩], .bl false], .tup [.str ⟨#[99]⟩, .tup [], .bl false]], .tup [.str ⟨#[97]⟩]], .tup [.tup [.tup [.str ⟨#[97]⟩, .tup [.str ⟨#[99]⟩], .bl false], .tup [.str ⟨#[98]⟩, .tup [], .bl false], .tup [.str ⟨#[99]⟩, .tup [], .bl true]], .tup [.str ⟨#[97]⟩, .str ⟨#[98]⟩]], .tup [.tup [.tup [.str ⟨#[97]⟩, .tup [.str ⟨#[100]⟩], .bl false], .tup [.str ⟨#[98]⟩, .tup [.str ⟨#[100]⟩], .bl false], .tup [.str ⟨#[99]⟩, .tup [], .bl false], .tup [.str ⟨#[100]⟩, .tup [], .bl false]], .tup []]], .lst [.tup [.str ⟨#[99]⟩, .str ⟨#[98]⟩, .str ⟨#[97]⟩], .tup [.str ⟨#[98]⟩, .str ⟨#[99]⟩, .str ⟨#[97]⟩], .tup [.str ⟨#[99]⟩, .str ⟨#[100]⟩, .str ⟨#[97]⟩, .str ⟨#[98]⟩]], .lst [.ref 42, .ref 49], .lst [.ref 43, .ref 45, .ref 47], .lst [.str ⟨#[97]⟩, .ref 44, .bl false], .lst [.str ⟨#[99]⟩], .lst [.str ⟨#[98]⟩, .ref 46, .bl false], .lst [], .lst [.str ⟨#[99]⟩, .ref 48, .bl true], .lst [], .lst [.str ⟨#[97]⟩, .str ⟨#[98]⟩], .lst [.tup [.tup [.str ⟨#[97]⟩, .tup [.str ⟨#[99]⟩], .bl false], .tup [.str ⟨#[98]⟩, .tup [], .bl false], .tup [.str ⟨#[99]⟩, .tup [], .bl true]], .tup [.str ⟨#[97]⟩, .str ⟨#[98]⟩]], .lst [.tup [.str ⟨#[97]⟩, .tup [.str ⟨#[99]⟩], .bl false], .tup [.str ⟨#[98]⟩, .tup [], .bl false], .tup [.str ⟨#[99]⟩, .tup [], .bl true]], .lst [.str ⟨#[97]⟩, .tup [.str ⟨#[99]⟩], .bl false], .lst [.str ⟨#[99]⟩], .lst [.str ⟨#[98]⟩, .tup [], .bl false], .lst [], .lst [.str ⟨#[99]⟩, .tup [], .bl true], .lst [], .lst [.str ⟨#[97]⟩, .str ⟨#[98]⟩], .dic [(.inr ⟨#[97]⟩, .tup [.str ⟨#[99]⟩]), (.inr ⟨#[98]⟩, .tup []), (.inr ⟨#[99]⟩, .tup [])], .dic [(.inr ⟨#[98]⟩, .bl true), (.inr ⟨#[99]⟩, .bl true), (.inr ⟨#[97]⟩, .bl true)], .lst [.str ⟨#[98]⟩, .str ⟨#[99]⟩], .lst [.bl false], .lst [], .lst [], .lst [.str ⟨#[98]⟩, .str ⟨#[99]⟩], .lst [.str ⟨#[99]⟩], .lst [.bl false], .lst [], .lst [.str ⟨#[99]⟩], .lst [.str ⟨#[97]⟩], .lst [.bl true], .lst [.str ⟨#[97]⟩], .lst [.ref 40, .tup [.str ⟨#[98]⟩, .str ⟨#[99]⟩, .str ⟨#[97]⟩]], .lst [.ref 13, .ref 14, .bl true, .bl false, .bl false, .tup [.str ⟨#[97]⟩, .str ⟨#[98]⟩, .str ⟨#[99]⟩, .str ⟨#[100]⟩], .tup [], .ref 40, .tup [.str ⟨#[98]⟩, .str ⟨#[99]⟩, .str ⟨#[97]⟩]], .lst [.tup [.str ⟨#[99]⟩, .str ⟨#[98]⟩, .str ⟨#[97]⟩], .tup [.str ⟨#[98]⟩, .str ⟨#[99]⟩, .str ⟨#[97]⟩], .tup [.str ⟨#[99]⟩, .str ⟨#[100]⟩, .str ⟨#[97]⟩, .str ⟨#[98]⟩]], .lst [.ref 75, .tup [.str ⟨#[98]⟩, .str ⟨#[99]⟩, .str ⟨#[97]⟩]], .lst [.ref 29, .ref 31, .bl true, .bl false, .bl false, .tup [.str ⟨#[97]⟩, .str ⟨#[98]⟩, .str ⟨#[99]⟩, .str ⟨#[100]⟩], .tup [], .ref 75, .tup [.str ⟨#[98]⟩, .str ⟨#[99]⟩, .str ⟨#[97]⟩]], .lst [.tup [.str ⟨#[97, 98]⟩, .str ⟨#[98]⟩, .str ⟨#[99]⟩], .tup [.str ⟨#[98]⟩, .str ⟨#[97, 97, 97]⟩, .str ⟨#[98, 97]⟩, .str ⟨#[99]⟩]], .lst [.ref 13, .ref 14, .bl true, .bl false, .bl false, .tup [.str ⟨#[97]⟩, .str ⟨#[98]⟩, .str ⟨#[99]⟩, .str ⟨#[100]⟩], .tup [], .ref 40, .tup [.str ⟨#[98]⟩, .str ⟨#[99]⟩, .str ⟨#[97]⟩], .tup [.str ⟨#[97, 98]⟩, .str ⟨#[98]⟩, .str ⟨#[99]⟩], .tup [.str ⟨#[98]⟩, .str ⟨#[97, 97, 97]⟩, .str ⟨#[98, 97]⟩, .str ⟨#[99]⟩]], .lst [.tup [.str ⟨#[97, 98]⟩, .str ⟨#[98]⟩, .str ⟨#[99]⟩], .tup [.str ⟨#[98]⟩, .str ⟨#[97, 97, 97]⟩, .str ⟨#[98, 97]⟩, .str ⟨#[99]⟩]], .lst [.ref 29, .ref 31, .bl true, .bl false, .bl false, .tup [.str ⟨#[97]⟩, .str ⟨#[98]⟩, .str ⟨#[99]⟩, .str ⟨#[100]⟩], .tup [], .ref 75, .tup [.str ⟨#[98]⟩, .str ⟨#[99]⟩, .str ⟨#[97]⟩], .tup [.str ⟨#[97, 98]⟩, .str ⟨#[98]⟩, .str ⟨#[99]⟩], .tup [.str ⟨#[98]⟩, .str ⟨#[97, 97, 97]⟩, .str ⟨#[98, 97]⟩, .str ⟨#[99]⟩]], .lst [.ref 83, .ref 90], .lst [.ref 84, .ref 86, .ref 88], .lst [.str ⟨#[97]⟩, .ref 85, .bl false], .lst [.str ⟨#[98]⟩], .lst [.str ⟨#[98]⟩, .ref 87, .bl false], .lst [.str ⟨#[99]⟩], .lst [.str ⟨#[99]⟩, .ref 89, .bl false], .lst [], .lst [.str ⟨#[97]⟩], .lst [.tup [.tup [.str ⟨#[97]⟩, .tup [.str ⟨#[98]⟩], .bl false], .tup [.str ⟨#[98]⟩, .tup [.str ⟨#[99]⟩], .bl false], .tup [.str ⟨#[99]⟩, .tup [], .bl false]], .tup [.str ⟨#[97]⟩]], .lst [.tup [.str ⟨#[97]⟩, .tup [.str ⟨#[98]⟩], .bl false], .tup [.str ⟨#[98]⟩, .tup [.str ⟨#[99]⟩], .bl false], .tup [.str ⟨#[99]⟩, .tup [], .bl false]], .lst [.str ⟨#[97]⟩, .tup [.str ⟨#[98]⟩], .bl false], .lst [.str ⟨#[98]⟩], .lst [.str ⟨#[98]⟩, .tup [.str ⟨#[99]⟩], .bl false], .lst [.str ⟨#[99]⟩], .lst [.str ⟨#[99]⟩, .tup [], .bl false], .lst [], .lst [.str ⟨#[97]⟩], .dic [(.inr ⟨#[97]⟩, .tup [.str ⟨#[98]⟩]), (.inr ⟨#[98]⟩, .tup [.str ⟨#[99]⟩]), (.inr ⟨#[99]⟩, .tup [])], .dic [(.inr ⟨#[99]⟩, .bl true), (.inr ⟨#[98]⟩, .bl true), (.inr ⟨#[97]⟩, .bl true)], .lst [], .lst [.bl true], .lst [.bl true], .lst [.bl true, .bl false], .lst [.ref 13, .ref 14, .bl true, .bl false, .bl false, .tup [.str ⟨#[97]⟩, .str ⟨#[98]⟩, .str ⟨#[99]⟩, .str ⟨#[100]⟩], .tup [], .ref 40, .tup [.str ⟨#[98]⟩, .str ⟨#[99]⟩, .str ⟨#[97]⟩], .tup [.str ⟨#[97, 98]⟩, .str ⟨#[98]⟩, .str ⟨#[99]⟩], .tup [.str ⟨#[98]⟩, .str ⟨#[97, 97, 97]⟩, .str ⟨#[98, 97]⟩, .str ⟨#[99]⟩], .bl true, .bl false]]
def he18 : Iv.Env := [some (.tup [.tup [.tup [.str ⟨#[97]⟩, .tup [], .bl true], .tup [.str ⟨#[98]⟩, .tup [], .bl true], .tup [.str ⟨#[99]⟩, .tup [.str ⟨#[97]⟩, .str ⟨#[98]⟩], .bl false], .tup [.str ⟨#[100]⟩, .tup [.str ⟨#[98]⟩], .bl false]], .tup [.str ⟨#[99]⟩, .str ⟨#[100]⟩]]), some (.ref 0), some (.ref 12), some (.ref 106), some (.ref 108), some (.ref 39), none, none]
def hh18 : IH := [.lst [.tup [.str ⟨#[97]⟩, .str ⟨#[98]⟩, .str ⟨#[99]⟩, .str ⟨#[100]⟩], .tup [.str ⟨#[97]⟩, .str ⟨#[98]⟩, .str ⟨#[100]⟩, .str ⟨#[99]⟩], .tup [.str ⟨#[98]⟩, .str ⟨#[97]⟩, .str ⟨#[99]⟩, .str ⟨#[100]⟩], .tup [.str ⟨#[98]⟩, .str ⟨#[97]⟩, .str ⟨#[100]⟩, .str ⟨#[99]⟩], .tup [.str ⟨#[98]⟩, .str ⟨#[100]⟩, .str ⟨#[97]⟩, .str ⟨#[99]⟩]], .lst [.str ⟨#[97]⟩, .str ⟨#[98]⟩, .str ⟨#[99]⟩, .str ⟨#[100]⟩], .lst [.tup [], .tup [.str ⟨#[97]⟩, .str ⟨#[98]⟩, .str ⟨#[99]⟩], .tup [.str ⟨#[99]⟩, .str ⟨#[97]⟩, .str ⟨#[98]⟩, .str ⟨#[100]⟩], .ref 1, .tup [.str ⟨#[97]⟩, .str ⟨#[98]⟩, .str ⟨#[99]⟩, .str ⟨#[99]⟩], .tup [.str ⟨#[97]⟩, .str ⟨#[98]⟩, .str ⟨#[99]⟩, .str ⟨#[100]⟩, .str ⟨#[100]⟩], .tup [.str ⟨#[97]⟩, .str ⟨#[98]⟩, .str ⟨#[99]⟩, .str ⟨#[101]⟩], .non], .lst [.str ⟨#[97, 98, 99, 100]⟩, .int (5)], .lst [.tup [], .tup [.str ⟨#[97]⟩, .str ⟨#[98]⟩, .str ⟨#[99]⟩], .tup [.str ⟨#[99]⟩, .str ⟨#[97]⟩, .str ⟨#[98]⟩, .str ⟨#[100]⟩], .ref 1, .tup [.str ⟨#[97]⟩, .str ⟨#[98]⟩, .str ⟨#[99]⟩, .str ⟨#[99]⟩], .tup [.str ⟨#[97]⟩, .str ⟨#[98]⟩, .str ⟨#[99]⟩, .str ⟨#[100]⟩, .str ⟨#[100]⟩], .tup [.str ⟨#[97]⟩, .str ⟨#[98]⟩, .str ⟨#[99]⟩, .str ⟨#[101]⟩], .non, .str ⟨#[97, 98, 99, 100]⟩, .int (5)], .lst [.str ⟨#[99]⟩], .lst [.tup [.str ⟨#[97]⟩, .str ⟨#[98]⟩, .ref 5, .str ⟨#[100]⟩], .tup [.str ⟨#[97]⟩, .str ⟨#[98]⟩, .non, .str ⟨#[100]⟩], .tup [.str ⟨#[100]⟩, .str ⟨#[98]⟩, .str ⟨#[97]⟩, .str ⟨#[99]⟩], .tup [.str ⟨#[97]⟩, .str ⟨#[99]⟩, .str ⟨#[98]⟩, .str ⟨#[100]⟩], .tup [.str ⟨#[97]⟩, .str ⟨#[100]⟩, .str ⟨#[98]⟩, .str ⟨#[99]⟩]], .lst [.tup [], .tup [.str ⟨#[97]⟩, .str ⟨#[98]⟩, .str ⟨#[99]⟩], .tup [.str ⟨#[99]⟩, .str ⟨#[97]⟩, .str ⟨#[98]⟩, .str ⟨#[100]⟩], .ref 1, .tup [.str ⟨#[97]⟩, .str ⟨#[98]⟩, .str ⟨#[99]⟩, .str ⟨#[99]⟩], .tup [.str ⟨#[97]⟩, .str ⟨#[98]⟩, .str ⟨#[99]⟩, .str ⟨#[100]⟩, .str ⟨#[100]⟩], .tup [.str ⟨#[97]⟩, .str ⟨#[98]⟩, .str ⟨#[99]⟩, .str ⟨#[101]⟩], .non, .str ⟨#[97, 98, 99, 100]⟩, .int (5), .tup [.str ⟨#[97]⟩, .str ⟨#[98]⟩, .ref 5, .str ⟨#[100]⟩], .tup [.str ⟨#[97]⟩, .str ⟨#[98]⟩, .non, .str ⟨#[100]⟩], .tup [.str ⟨#[100]⟩, .str ⟨#[98]⟩, .str ⟨#[97]⟩, .str ⟨#[99]⟩], .tup [.str ⟨#[97]⟩, .str ⟨#[99]⟩, .str ⟨#[98]⟩, .str ⟨#[100]⟩], .tup [.str ⟨#[97]⟩, .str ⟨#[100]⟩, .str ⟨#[98]⟩, .str ⟨#[99]⟩]], .lst [], .lst [.bl true, .ref 8], .lst [.tup [], .tup [.str ⟨#[97]⟩, .str ⟨#[98]⟩, .str ⟨#[99]⟩], .tup [.str ⟨#[99]⟩, .str ⟨#[97]⟩, .str ⟨#[98]⟩, .str ⟨#[100]⟩], .ref 1, .tup [.str ⟨#[97]⟩, .str ⟨#[98]⟩, .str ⟨#[99]⟩, .str ⟨#[99]⟩], .tup [.str ⟨#[97]⟩, .str ⟨#[98]⟩, .str ⟨#[99]⟩, .str ⟨#[100]⟩, .str ⟨#[100]⟩], .tup [.str ⟨#[97]⟩, .str ⟨#[98]⟩, .str ⟨#[99]⟩, .str ⟨#[101]⟩], .non, .str ⟨#[97, 98, 99, 100]⟩, .int (5), .tup [.str ⟨#[97]⟩, .str ⟨#[98]⟩, .ref 5, .str ⟨#[100]⟩], .tup [.str ⟨#[97]⟩, .str ⟨#[98]⟩, .non, .str ⟨#[100]⟩], .tup [.str ⟨#[100]⟩, .str ⟨#[98]⟩, .str ⟨#[97]⟩, .str ⟨#[99]⟩], .tup [.str ⟨#[97]⟩, .str ⟨#[99]⟩, .str ⟨#[98]⟩, .str ⟨#[100]⟩], .tup [.str ⟨#[97]⟩, .str ⟨#[100]⟩, .str ⟨#[98]⟩, .str ⟨#[99]⟩], .bl true, .ref 8], .lst [.tup [.str ⟨#[97]⟩, .str ⟨#[98]⟩, .tup [.str ⟨#[99]⟩], .str ⟨#[100]⟩], .tup [.str ⟨#[97, 98]⟩, .str ⟨#[99]⟩, .str ⟨#[100]⟩], .tup [.str ⟨#[97]⟩, .str ⟨#[97]⟩, .str ⟨#[98]⟩, .str ⟨#[99]⟩, .str ⟨#[100]⟩], .exo, .tup [.str ⟨#[97]⟩, .str ⟨#[98]⟩, .str ⟨#[99]⟩, .exo]], .lst [.tup [], .tup [.str ⟨#[97]⟩, .str ⟨#[98]⟩, .str ⟨#[99]⟩], .tup [.str ⟨#[99]⟩, .str ⟨#[97]⟩, .str ⟨#[98]⟩, .str ⟨#[100]⟩], .ref 1, .tup [.str ⟨#[97]⟩, .str ⟨#[98]⟩, .str ⟨#[99]⟩, .str ⟨#[99]⟩], .tup [.str ⟨#[97]⟩, .str ⟨#[98]⟩, .str ⟨#[99]⟩, .str ⟨#[100]⟩, .str ⟨#[100]⟩], .tup [.str ⟨#[97]⟩, .str ⟨#[98]⟩, .str ⟨#[99]⟩, .str ⟨#[101]⟩], .non, .str ⟨#[97, 98, 99, 100]⟩, .int (5), .tup [.str ⟨#[97]⟩, .str ⟨#[98]⟩, .ref 5, .str ⟨#[100]⟩], .tup [.str ⟨#[97]⟩, .str ⟨#[98]⟩, .non, .str ⟨#[100]⟩], .tup [.str ⟨#[100]⟩, .str ⟨#[98]⟩, .str ⟨#[97]⟩, .str ⟨#[99]⟩], .tup [.str ⟨#[97]⟩, .str ⟨#[99]⟩, .str ⟨#[98]⟩, .str ⟨#[100]⟩], .tup [.str ⟨#[97]⟩, .str ⟨#[100]⟩, .str ⟨#[98]⟩, .str ⟨#[99]⟩], .bl true, .ref 8, .tup [.str ⟨#[97]⟩, .str ⟨#[98]⟩, .tup [.str ⟨#[99]⟩], .str ⟨#[100]⟩], .tup [.str ⟨#[97, 98]⟩, .str ⟨#[99]⟩, .str ⟨#[100]⟩], .tup [.str ⟨#[97]⟩, .str ⟨#[97]⟩, .str ⟨#[98]⟩, .str ⟨#[99]⟩, .str ⟨#[100]⟩], .exo, .tup [.str ⟨#[97]⟩, .str ⟨#[98]⟩, .str ⟨#[99]⟩, .exo]], .lst [.bl true, .bl true, .bl true, .bl true, .bl true], .lst [.bl false, .bl false, .bl false, .bl false, .bl false, .bl false, .bl false, .bl false, .bl false, .bl false, .bl false, .bl false, .bl false, .bl false, .bl false, .bl false, .bl false, .bl false, .bl false, .bl false, .bl false, .bl false], .dic [(.inr ⟨#[97]⟩, .tup []), (.inr ⟨#[98]⟩, .tup []), (.inr ⟨#[99]⟩, .tup [.str ⟨#[97]⟩, .str ⟨#[98]⟩]), (.inr ⟨#[100]⟩, .tup [.str ⟨#[98]⟩])], .dic [(.inr ⟨#[97]⟩, .tup []), (.inr ⟨#[98]⟩, .tup []), (.inr ⟨#[99]⟩, .tup [.str ⟨#[97]⟩, .str ⟨#[98]⟩]), (.inr ⟨#[100]⟩, .tup [.str ⟨#[98]⟩])], .dic [(.inr ⟨#[97]⟩, .bl true), (.inr ⟨#[98]⟩, .bl true)], .lst [], .lst [], .dic [(.inr ⟨#[97]⟩, .tup []), (.inr ⟨#[98]⟩, .tup []), (.inr ⟨#[99]⟩, .tup [.str ⟨#[97]⟩, .str ⟨#[98]⟩]), (.inr ⟨#[100]⟩, .tup [.str ⟨#[98]⟩])], .dic [(.inr ⟨#[97]⟩, .tup []), (.inr ⟨#[98]⟩, .tup []), (.inr ⟨#[99]⟩, .tup [.str ⟨#[97]⟩, .str ⟨#[98]⟩]), (.inr ⟨#[100]⟩, .tup [.str ⟨#[98]⟩])], .dic [(.inr ⟨#[97]⟩, .tup []), (.inr ⟨#[98]⟩, .tup []), (.inr ⟨#[99]⟩, .tup [.str ⟨#[97]⟩, .str ⟨#[98]⟩]), (.inr ⟨#[100]⟩, .tup [.str ⟨#[98]⟩])], .dic [(.inr ⟨#[97]⟩, .bl true), (.inr ⟨#[98]⟩, .bl true), (.inr ⟨#[99]⟩, .bl true)], .lst [], .lst [], .lst [.bl true, .bl true], .lst [.ref 13, .ref 14, .bl true], .lst [.bl true], .lst [.bl true, .bl true, .bl true, .bl true, .bl true], .lst [.bl false], .lst [.bl false, .bl false, .bl false, .bl false, .bl false, .bl false, .bl false, .bl false, .bl false, .bl false, .bl false, .bl false, .bl false, .bl false, .bl false, .bl false, .bl false, .bl false, .bl false, .bl false, .bl false, .bl false], .lst [.ref 29, .ref 31, .bl true], .lst [], .dic [], .lst [.bl false, .bl false, .tup [.str ⟨#[97]⟩, .str ⟨#[98]⟩, .str ⟨#[99]⟩, .str ⟨#[100]⟩], .tup []], .lst [.ref 13, .ref 14, .bl true, .bl false, .bl false, .tup [.str ⟨#[97]⟩, .str ⟨#[98]⟩, .str ⟨#[99]⟩, .str ⟨#[100]⟩], .tup []], .lst [.bl false, .bl false, .tup [.str ⟨#[97]⟩, .str ⟨#[98]⟩, .str ⟨#[99]⟩, .str ⟨#[100]⟩], .tup []], .lst [.ref 29, .ref 31, .bl true, .bl false, .bl false, .tup [.str ⟨#[97]⟩, .str ⟨#[98]⟩, .str ⟨#[99]⟩, .str ⟨#[100]⟩], .tup []], .lst [.tup [.tup [.tup [.str ⟨#[97]⟩, .tup [.str ⟨#[98]⟩], .bl false], .tup [.str ⟨#[98]⟩, .tup [.str ⟨#[99]⟩], .bl false], .tup [.str ⟨#[99]⟩, .tup [], .bl false]], .tup [.str ⟨#[97]⟩]], .tup [.tup [.tup [.str ⟨#[97]⟩, .tup [.str ⟨#[99]⟩], .bl false], .tup [.str ⟨#[98]⟩, .tup [], .bl false], .tup [.str ⟨#[99]⟩, .tup [], .bl true]], .tup [.str ⟨#[97]⟩, .str ⟨#[98]⟩]], .tup [.tup [.tup [.str ⟨#[97]⟩, .tup [.str ⟨#[100]⟩], .bl false], .tup [.str ⟨#[98]⟩, .tup [.str ⟨#[100]⟩], .bl false], .tup [.str ⟨#[99]⟩, .tup [], .bl false], .tup [.str ⟨#[100]⟩, .tup [], .bl false]], .tup []]], .lst [.tup [.str ⟨#[99]⟩, .str ⟨#[98]⟩, .str ⟨#[97]⟩], .tup [.str ⟨#[98]⟩, .str ⟨#[99]⟩, .str ⟨#[97]⟩], .tup [.str ⟨#[99]⟩, .str ⟨#[100]⟩, .str ⟨#[97]⟩, .str ⟨#[98]⟩]], .lst [.ref 42, .ref 49], .lst [.ref 43, .ref 45, .ref 47], .lst [.str ⟨#[97]⟩, .ref 44, .bl false], .lst [.str ⟨#[99]⟩], .lst [.str ⟨#[98]⟩, .ref 46, .bl false], .lst [], .lst [.str ⟨#[99]⟩, .ref 48, .bl true], .lst [], .lst [.str ⟨#[97]⟩, .str ⟨#[98]⟩], .lst [.tup [.tup [.str ⟨#[97]⟩, .tup [.str ⟨#[99]⟩], .bl false], .tup [.str ⟨#[98]⟩, .tup [], .bl false], .tup [.str ⟨#[99]⟩, .tup [], .bl true]], .tup [.str ⟨#[97]⟩, .str ⟨#[98]⟩]], .lst [.tup [.str ⟨#[97]⟩, .tup [.str ⟨#[99]⟩], .bl false], .tup [.str ⟨#[98]⟩, .tup [], .bl false], .tup [.str ⟨#[99]⟩, .tup [], .bl true]], .lst [.str ⟨#[97]⟩, .tup [.str ⟨#[99]⟩], .bl false], .lst [.str ⟨#[99]⟩], .lst [.str ⟨#[98]⟩, .tup [], .bl false], .lst [], .lst [.str ⟨#[99]⟩, .tup [], .bl true], .lst [], .lst [.str ⟨#[97]⟩, .str ⟨#[98]⟩], .dic [(.inr ⟨#[97]⟩, .tup [.str ⟨#[99]⟩]), (.inr ⟨#[98]⟩, .tup []), (.inr ⟨#[99]⟩, .tup [])], .dic [(.inr ⟨#[98]⟩, .bl true), (.inr ⟨#[99]⟩, .bl true), (.inr ⟨#[97]⟩, .bl true)], .lst [.str ⟨#[98]⟩, .str ⟨#[99]⟩], .lst [.bl false], .lst [], .lst [], .lst [.str ⟨#[98]⟩, .str ⟨#[99]⟩], .lst [.str ⟨#[99]⟩], .lst [.bl false], .lst [], .lst [.str ⟨#[99]⟩], .lst [.str ⟨#[97]⟩], .lst [.bl true], .lst [.str ⟨#[97]⟩], .lst [.ref 40, .tup [.str ⟨#[98]⟩, .str ⟨#[99]⟩, .str ⟨#[97]⟩]], .lst [.ref 13, .ref 14, .bl true, .bl false, .bl false, .tup [.str ⟨#[97]⟩, .str ⟨#[98]⟩, .str ⟨#[99]⟩, .str ⟨#[100]⟩], .tup [], .ref 40, .tup [.str ⟨#[98]⟩, .str ⟨#[99]⟩, .str ⟨#[97]⟩]], .lst [.tup [.str ⟨#[99]⟩, .str ⟨#[98]⟩, .str ⟨#[97]⟩], .tup [.str ⟨#[98]⟩, .str ⟨#[99]⟩, .str ⟨#[97]⟩], .tup [.str ⟨#[99]⟩, .str ⟨#[100]⟩, .str ⟨#[97]⟩, .str ⟨#[98]⟩]], .lst [.ref 75, .tup [.str ⟨#[98]⟩, .str ⟨#[99]⟩, .str ⟨#[97]⟩]], .lst [.ref 29, .ref 31, .bl true, .bl false, .bl false, .tup [.str ⟨#[97]⟩, .str ⟨#[98]⟩, .str ⟨#[99]⟩, .str ⟨#[100]⟩], .tup [], .ref 75, .tup [.str ⟨#[98]⟩, .str ⟨#[99]⟩, .str ⟨#[97]⟩]], .lst [.tup [.str ⟨#[97, 98]⟩, .str ⟨#[98]⟩, .str ⟨#[99]⟩], .tup [.str ⟨#[98]⟩, .str ⟨#[97, 97, 97]⟩, .str ⟨#[98, 97]⟩, .str ⟨#[99]⟩]], .lst [.ref 13, .ref 14, .bl true, .bl false, .bl false, .tup [.str ⟨#[97]⟩, .str ⟨#[98]⟩, .str ⟨#[99]⟩, .str ⟨#[100]⟩], .tup [], .ref 40, .tup [.str ⟨#[98]⟩, .str ⟨#[99]⟩, .str ⟨#[97]⟩], .tup [.str ⟨#[97, 98]⟩, .str ⟨#[98]⟩, .str ⟨#[99]⟩], .tup [.str ⟨#[98]⟩, .str ⟨#[97, 97, 97]⟩, .str ⟨#[98, 97]⟩, .str ⟨#[99]⟩]], .lst [.tup [.str ⟨#[97, 98]⟩, .str ⟨#[98]⟩, .str ⟨#[99]⟩], .tup [.str ⟨#[98]⟩, .str ⟨#[97, 97, 97]⟩, .str ⟨#[98, 97]⟩, .str ⟨#[99]⟩]], .lst [.ref 29, .ref 31, .bl true, .bl false, .bl false, .tup [.str ⟨#[97]⟩, .str ⟨#[98]⟩, .str ⟨#[99]⟩, .str ⟨#[100]⟩], .tup [], .ref 75, .tup [.str ⟨#[98]⟩, .str ⟨#[99]⟩, .str ⟨#[97]⟩], .tup [.str ⟨#[97, 98]⟩, .str ⟨#[98]⟩, .str ⟨#[99]⟩], .tup [.str ⟨#[98]⟩, .str ⟨#[97, 97, 97]⟩, .str ⟨#[98, 97]⟩, .str ⟨#[99]⟩]], .lst [.ref 83, .ref 90], .lst [.ref 84, .ref 86, .ref 88], .lst [.str ⟨#[97]⟩, .ref 85, .bl false], .lst [.str ⟨#[98]⟩], .lst [.str ⟨#[98]⟩, .ref 87, .bl false], .lst [.str ⟨#[99]⟩], .lst [.str ⟨#[99]⟩, .ref 89, .bl false], .lst [], .lst [.str ⟨#[97]⟩], .lst [.tup [.tup [.str ⟨#[97]⟩, .tup [.str ⟨#[98]⟩], .bl false], .tup [.str ⟨#[98]⟩, .tup [.str ⟨#[99]⟩], .bl false], .tup [.str ⟨#[99]⟩, .tup [], .bl false]], .tup [.str ⟨#[97]⟩]], .lst [.tup [.str ⟨#[97]⟩, .tup [.str ⟨#[98]⟩], .bl false], .tup [.str ⟨#[98]⟩, .tup [.str ⟨#[99]⟩], .bl false], .tup [.str ⟨#[99]⟩, .tup [], .bl false]], .lst [.str ⟨#[97]⟩, .tup [.str ⟨#[98]⟩], .bl false], .lst [.str ⟨#[98]⟩], .lst [.str ⟨#[98]⟩, .tup [.str ⟨#[99]⟩], .bl false], .lst [.str ⟨#[99]⟩], .lst [.str ⟨#[99]⟩, .tup [], .bl false], .lst [], .lst [.str ⟨#[97]⟩], .dic [(.inr ⟨#[97]⟩, .tup [.str ⟨#[98]⟩]), (.inr ⟨#[98]⟩, .tup [.str ⟨#[99]⟩]), (.inr ⟨#[99]⟩, .tup [])], .dic [(.inr ⟨#[99]⟩, .bl true), (.inr ⟨#[98]⟩, .bl true), (.inr ⟨#[97]⟩, .bl true)], .lst [], .lst [.bl true], .lst [.bl true], .lst [.bl true, .bl false], .lst [.ref 13, .ref 14, .bl true, .bl false, .bl false, .tup [.str ⟨#[97]⟩, .str ⟨#[98]⟩, .str ⟨#[99]⟩, .str ⟨#[100]⟩], .tup [], .ref 40, .tup [.str ⟨#[98]⟩, .str ⟨#[99]⟩, .str ⟨#[97]⟩], .tup [.str ⟨#[97, 98]⟩, .str ⟨#[98]⟩, .str ⟨#[99]⟩], .tup [.str ⟨#[98]⟩, .str ⟨#[97, 97, 97]⟩, .str ⟨#[98, 97]⟩, .str ⟨#[99]⟩], .bl true, .bl false], .lst [.bl true, .bl false], .lst [.ref 29, .ref 31, .bl true, .bl false, .bl false, .tup [.str ⟨#[97]⟩, .str ⟨#[98]⟩, .str ⟨#[99]⟩, .str ⟨#[100]⟩], .tup [], .ref 75, .tup [.str ⟨#[98]⟩, .str ⟨#[99]⟩, .str ⟨#[97]⟩], .tup [.str ⟨#[97, 98]⟩, .str ⟨#[98]⟩, .str ⟨#[99]⟩], .tup [.str ⟨#[98]⟩, .str ⟨#[97, 97, 97]⟩, .str ⟨#[98, 97]⟩, .str ⟨#[99]⟩], .bl true, .bl false]]
def he19 : Iv.Env := [some (.tup [.tup [.tup [.str ⟨#[97]⟩, .tup [], .bl true], .tup [.str ⟨#[98]⟩, .tup [], .bl true], .tup [.str ⟨#[99]⟩, .tup [.str ⟨#[97]⟩, .str ⟨#[98]⟩], .bl false], .tup [.str ⟨#[100]⟩, .tup [.str ⟨#[98]⟩], .bl false]], .tup [.str ⟨#[99]⟩, .str ⟨#[100]⟩]]), some (.ref 0), some (.ref 12), some (.ref 106), some (.ref 108), some (.ref 39), some (.tup [.tup [.tup [.str ⟨#[97]⟩, .tup [.str ⟨#[104]⟩], .bl false], .tup [.str ⟨#[98]⟩, .tup [], .bl false], .tup [.str ⟨#[99]⟩, .tup [], .bl false], .tup [.str ⟨#[100]⟩, .tup [], .bl false], .tup [.str ⟨#[101]⟩, .tup [], .bl false], .tup [.str ⟨#[102]⟩, .tup [], .bl false], .tup [.str ⟨#[103]⟩, .tup [], .bl false], .tup [.str ⟨#[104]⟩, .tup [.str ⟨#[103]⟩], .bl true]], .tup [.str ⟨#[97]⟩]]), none]
def hh19 : IH := [.lst [.tup [.str ⟨#[97]⟩, .str ⟨#[98]⟩, .str ⟨#[99]⟩, .str ⟨#[100]⟩], .tup [.str ⟨#[97]⟩, .str ⟨#[98]⟩, .str ⟨#[100]⟩, .str ⟨#[99]⟩], .tup [.str ⟨#[98]⟩, .str ⟨#[97]⟩, .str ⟨#[99]⟩, .str ⟨#[100]⟩], .tup [.str ⟨#[98]⟩, .str ⟨#[97]⟩, .str ⟨#[100]⟩, .str ⟨#[99]⟩], .tup [.str ⟨#[98]⟩, .str ⟨#[100]⟩, .str ⟨#[97]⟩, .str ⟨#[99]⟩]], .lst [.str ⟨#[97]⟩, .str ⟨#[98]⟩, .str ⟨#[99]⟩, .str ⟨#[100]⟩], .lst [.tup [], .tup [.str ⟨#[97]⟩, .str ⟨#[98]⟩, .str ⟨#[99]⟩], .tup [.str ⟨#[99]⟩, .str ⟨#[97]⟩, .str ⟨#[98]⟩, .str ⟨#[100]⟩], .ref 1, .tup [.str ⟨#[97]⟩, .str ⟨#[98]⟩, .str ⟨#[99]⟩, .str ⟨#[99]⟩], .tup [.str ⟨#[97]⟩, .str ⟨#[98]⟩, .str ⟨#[99]⟩, .str ⟨#[100]⟩, .str ⟨#[100]⟩], .tup [.str ⟨#[97]⟩, .str ⟨#[98]⟩, .str ⟨#[99]⟩, .str ⟨#[101]⟩], .non], .lst [.str ⟨#[97, 98, 99, 100]⟩, .int (5)], .lst [.tup [], .tup [.str ⟨#[97]⟩, .str ⟨#[98]⟩, .str ⟨#[99]⟩], .tup [.str ⟨#[99]⟩, .str ⟨#[97]⟩, .str ⟨#[98]⟩, .str ⟨#[100]⟩], .ref 1, .tup [.str ⟨#[97]⟩, .str ⟨#[98]⟩, .str ⟨#[99]⟩, .str ⟨#[99]⟩], .tup [.str ⟨#[97]⟩, .str ⟨#[98]⟩, .str ⟨#[99]⟩, .str ⟨#[100]⟩, .str ⟨#[100]⟩], .tup [.str ⟨#[97]⟩, .str ⟨#[98]⟩, .str ⟨#[99]⟩, .str ⟨#[101]⟩], .non, .str ⟨#[97, 98, 99, 100]⟩, .int (5)], .lst [.str ⟨#[99]⟩], .lst [.tup [.str ⟨#[97]⟩, .str ⟨#[98]⟩, .ref 5, .str ⟨#[100]⟩], .tup [.str ⟨#[97]⟩, .str ⟨#[98]⟩, .non, .str ⟨#[100]⟩], .tup [.str ⟨#[100]⟩, .str ⟨#[98]⟩, .str ⟨#[97]⟩, .str ⟨#[99]⟩], .tup [.str ⟨#[97]⟩, .str ⟨#[99]⟩, .str ⟨#[98]⟩, .str ⟨#[100]⟩], .tup [.str ⟨#[97]⟩, .str ⟨#[100]⟩, .str ⟨#[98]⟩, .str ⟨#[99]⟩]], .lst [.tup [], .tup [.str ⟨#[97]⟩, .str ⟨#[98]⟩, .str ⟨#[99]⟩], .tup [.str ⟨#[99]⟩, .str ⟨#[97]⟩, .str ⟨#[98]⟩, .str ⟨#[100]⟩], .ref 1, .tup [.str ⟨#[97]⟩, .str ⟨#[98]⟩, .str ⟨#[99]⟩, .str ⟨#[99]⟩], .tup [.str ⟨#[97]⟩, .str ⟨#[98]⟩, .str ⟨#[99]⟩, .str ⟨#[100]⟩, .str ⟨#[100]⟩], .tup [.str ⟨#[97]⟩, .str ⟨#[98]⟩, .str ⟨#[99]⟩, .str ⟨#[101]⟩], .non, .str ⟨#[97, 98, 99, 100]⟩, .int (5), .tup [.str ⟨#[97]⟩, .str ⟨#[98]⟩, .ref 5, .str ⟨#[100]⟩], .tup [.str ⟨#[97]⟩, .str ⟨#[98]⟩, .non, .str ⟨#[100]⟩], .tup [.str ⟨#[100]⟩, .str ⟨#[98]⟩, .str ⟨#[97]⟩, .str ⟨#[99]⟩], .tup [.str ⟨#[97]⟩, .str ⟨#[99]⟩, .str ⟨#[98]⟩, .str ⟨#[100]⟩], .tup [.str ⟨#[97]⟩, .str ⟨#[100]⟩, .str ⟨#[98]⟩, .str ⟨#[99]⟩]], .lst [], .lst [.bl true, .ref 8], .lst [.tup [], .tup [.str ⟨#[97]⟩, .str ⟨#[98]⟩, .str ⟨#[99]⟩], .tup [.str ⟨#[99]⟩, .str ⟨#[97]⟩, .str ⟨#[98]⟩, .str ⟨#[100]⟩], .ref 1, .tup [.str ⟨#[97]⟩, .str ⟨#[98]⟩, .str ⟨#[99]⟩, .str ⟨#[99]⟩], .tup [.str ⟨#[97]⟩, .str ⟨#[98]⟩, .str ⟨#[99]⟩, .str ⟨#[100]⟩, .str ⟨#[100]⟩], .tup [.str ⟨#[97]⟩, .str ⟨#[98]⟩, .str ⟨#[99]⟩, .str ⟨#[101]⟩], .non, .str ⟨#[97, 98, 99, 100]⟩, .int (5), .tup [.str ⟨#[97]⟩, .str ⟨#[98]⟩, .ref 5, .str ⟨#[100]⟩], .tup [.str ⟨#[97]⟩, .str ⟨#[98]⟩, .non, .str ⟨#[100]⟩], .tup [.str ⟨#[100]⟩, .str ⟨#[98]⟩, .str ⟨#[97]⟩, .str ⟨#[99]⟩], .tup [.str ⟨#[97]⟩, .str ⟨#[99]⟩, .str ⟨#[98]⟩, .str ⟨#[100]⟩], .tup [.str ⟨#[97]⟩, .str ⟨#[100]⟩, .str ⟨#[98]⟩, .str ⟨#[99]⟩], .bl true, .ref 8], .lst [.tup [.str ⟨#[97]⟩, .str ⟨#[98]⟩, .tup [.str ⟨#[99]⟩], .str ⟨#[100]⟩], .tup [.str ⟨#[97, 98]⟩, .str ⟨#[99]⟩, .str ⟨#[100]⟩], .tup [.str ⟨#[97]⟩, .str ⟨#[97]⟩, .str ⟨#[98]⟩, .str ⟨#[99]⟩, .str ⟨#[100]⟩], .exo, .tup [.str ⟨#[97]⟩, .str ⟨#[98]⟩, .str ⟨#[99]⟩, .exo]], .lst [.tup [], .tup [.str ⟨#[97]⟩, .str ⟨#[98]⟩, .str ⟨#[99]⟩], .tup [.str ⟨#[99]⟩, .str ⟨#[97]⟩, .str ⟨#[98]⟩, .str ⟨#[100]⟩], .ref 1, .tup [.str ⟨#[97]⟩, .str ⟨#[98]⟩, .str ⟨#[99]⟩, .str ⟨#[99]⟩], .tup [.str ⟨#[97]⟩, .str ⟨#[98]⟩, .str ⟨#[99]⟩, .str ⟨#[100]⟩, .str ⟨#[100]⟩], .tup [.str ⟨#[97]⟩, .str ⟨#[98]⟩, .str ⟨#[99]⟩, .str ⟨#[101]⟩], .non, .str ⟨#[97, 98, 99, 100]⟩, .int (5), .tup [.str ⟨#[97]⟩, .str ⟨#[98]⟩, .ref 5, .str ⟨#[100]⟩], .tup [.str ⟨#[97]⟩, .str ⟨#[98]⟩, .non, .str ⟨#[100]⟩], .tup [.str ⟨#[100]⟩, .str ⟨#[98]⟩, .str ⟨#[97]⟩, .str ⟨#[99]⟩], .tup [.str ⟨#[97]⟩, .str ⟨#[99]⟩, .str ⟨#[98]⟩, .str ⟨#[100]⟩], .tup [.str ⟨#[97]⟩, .str ⟨#[100]⟩, .str ⟨#[98]⟩, .str ⟨#[99]⟩], .bl true, .ref 8, .tup [.str ⟨#[97]⟩, .str ⟨#[98]⟩, .tup [.str ⟨#[99]⟩], .str ⟨#[100]⟩], .tup [.str ⟨#[97, 98]⟩, .str ⟨#[99]⟩, .str ⟨#[100]⟩], .tup [.str ⟨#[97]⟩, .str ⟨#[97]⟩, .str ⟨#[98]⟩, .str ⟨#[99]⟩, .str ⟨#[100]⟩], .exo, .tup [.str ⟨#[97]⟩, .str ⟨#[98]⟩, .str ⟨#[99]⟩, .exo]], .lst [.bl true, .bl true, .bl true, .bl true, .bl true], .lst [.bl false, .bl false, .bl false, .bl false, .bl false, .bl false, .bl false, .bl false, .bl false, .bl false, .bl false, .bl false, .bl false, .bl false, .bl false, .bl false, .bl false, .bl false, .bl false, .bl false, .bl false, .bl false], .dic [(.inr ⟨#[97]⟩, .tup []), (.inr ⟨#[98]⟩, .tup []), (.inr ⟨#[99]⟩, .tup [.str ⟨#[97]⟩, .str ⟨#[98]⟩]), (.inr ⟨#[100]⟩, .tup [.str ⟨#[98]⟩])], .dic [(.inr ⟨#[97]⟩, .tup []), (.inr ⟨#[98]⟩, .tup []), (.inr ⟨#[99]⟩, .tup [.str ⟨#[97]⟩, .str ⟨#[98]⟩]), (.inr ⟨#[100]⟩, .tup [.str ⟨#[98]⟩])], .dic [(.inr ⟨#[97]⟩, .bl true), (.inr ⟨#[98]⟩, .bl true)], .lst [], .lst [], .dic [(.inr ⟨#[97]⟩, .tup []), (.inr ⟨#[98]⟩, .tup []), (.inr ⟨#[99]⟩, .tup [.str ⟨#[97]⟩, .str ⟨#[98]⟩]), (.inr ⟨#[100]⟩, .tup [.str ⟨#[98]⟩])], .dic [(.inr ⟨#[97]⟩, .tup []), (.inr ⟨#[98]⟩, .tup []), (.inr ⟨#[99]⟩, .tup [.str ⟨#[97]⟩, .str ⟨#[98]⟩]), (.inr ⟨#[100]⟩, .tup [.str ⟨#[98]⟩])], .dic [(.inr ⟨#[97]⟩, .tup []), (.inr ⟨#[98]⟩, .tup []), (.inr ⟨#[99]⟩, .tup [.str ⟨#[97]⟩, .str ⟨#[98]⟩]), (.inr ⟨#[100]⟩, .tup [.str ⟨#[98]⟩])], .dic [(.inr ⟨#[97]⟩, .bl true), (.inr ⟨#[98]⟩, .bl true), (.inr ⟨#[99]⟩, .bl true)], .lst [], .lst [], .lst [.bl true, .bl true], .lst [.ref 13, .ref 14, .bl true], .lst [.bl true], .lst [.bl true, .bl true, .bl true, .bl true, .bl true], .lst [.bl false], .lst [.bl false, .bl false, .bl false, .bl false, .bl false, .bl false, .bl false, .bl false, .bl false, .bl false, .bl false, .bl false, .bl false, .bl false, .bl false, .bl false, .bl false, .bl false, .bl false, .bl false, .bl false, .bl false], .lst [.ref 29, .ref 31, .bl true], .lst [], .dic [], .lst [.bl false, .bl false, .tup [.str ⟨#[97]⟩, .str ⟨#[98]⟩, .str ⟨#[99]⟩, .str ⟨#[100]⟩], .tup []], .lst [.ref 13, .ref 14, .bl true, .bl false, .bl false, .tup [.str ⟨#[97]⟩, .str ⟨#[98]⟩, .str ⟨#[99]⟩, .str ⟨#[100]⟩], .tup []], .lst [.bl false, .bl false, .tup [.str ⟨#[97]⟩, .str ⟨#[98]⟩, .str ⟨#[99]⟩, .str ⟨#[100]⟩], .tup []], .lst [.ref 29, .ref 31, .bl true, .bl false, .bl false, .tup [.str ⟨#[97]⟩, .str ⟨#[98]⟩, .str ⟨#[99]⟩, .str ⟨#[100]⟩], .tup []], .lst [.tup [.tup [.tup [.str ⟨#[97]⟩, .tup [.str ⟨#[98]⟩], .bl false], .tup [.str ⟨#[98]⟩, .tup [.str ⟨#[99]⟩], .bl false], .tup [.str ⟨#[99]⟩, .tup [], .bl false]], .tup [.str ⟨#[97]⟩]], .tup [.tup [.tup [.str ⟨#[97]⟩, .tup [.str ⟨#[99]⟩], .bl false], .tup [.str ⟨#[98]⟩, .tup [], .bl false], .tup [.str ⟨#[99]⟩, .tup [], .bl true]], .tup [.str ⟨#[97]⟩, .str ⟨#[98]⟩]], .tup [.tup [.tup [.str ⟨#[97]⟩, .tup [.str ⟨#[100]⟩], .bl false], .tup [.str ⟨#[98]⟩, .tup [.str ⟨#[100]⟩], .bl false], .tup [.str ⟨#[99]⟩, .tup [], .bl false], .tup [.str ⟨#[100]⟩, .tup [], .bl false]], .tup []]], .lst [.tup [.str ⟨#[99]⟩, .str ⟨#[98]⟩, .str ⟨#[97]⟩], .tup [.str ⟨#[98]⟩, .str ⟨#[99]⟩, .str ⟨#[97]⟩], .tup [.str ⟨#[99]⟩, .str ⟨#[100]⟩, .str ⟨#[97]⟩, .str ⟨#[98]⟩]], .lst [.ref 42, .ref 49], .lst [.ref 43, .ref 45, .ref 47], .lst [.str ⟨#[97]⟩, .ref 44, .bl false], .lst [.str ⟨#[99]⟩], .lst [.str ⟨#[98]⟩, .ref 46, .bl false], .lst [], .lst [.str ⟨#[99]⟩, .ref 48, .bl true], .lst [], .lst [.str ⟨#[97]⟩, .str ⟨#[98]⟩], .lst [.tup [.tup [.str ⟨#[97]⟩, .tup [.str ⟨#[99]⟩], .bl false], .tup [.str ⟨#[98]⟩, .tup [], .bl false], .tup [.str ⟨#[99]⟩, .tup [], .bl true]], .tup [.str ⟨#[97]⟩, .str ⟨#[98]⟩]], .lst [.tup [.str ⟨#[97]⟩, .tup [.str ⟨#[99]⟩], .bl false], .tup [.str ⟨#[98]⟩, .tup [], .bl false], .tup [.str ⟨#[99]⟩, .tup [], .bl true]], .lst [.str ⟨#[97]⟩, .tup [.str ⟨#[99]⟩], .bl false], .lst [.str ⟨#[99]⟩], .lst [.str ⟨#[98]⟩, .tup [], .bl false], .lst [], .lst [.str ⟨#[99]⟩, .tup [], .bl true], .lst [], .lst [.str ⟨#[97]⟩, .str ⟨#[98]⟩], .dic [(.inr ⟨#[97]⟩, .tup [.str ⟨#[99]⟩]), (.inr ⟨#[98]⟩, .tup []), (.inr ⟨#[99]⟩, .tup [])], .dic [(.inr ⟨#[98]⟩, .bl true), (.inr ⟨#[99]⟩, .bl true), (.inr ⟨#[97]⟩, .bl true)], .lst [.str ⟨#[98]⟩, .str ⟨#[99]⟩], .lst [.bl false], .lst [], .lst [], .lst [.str ⟨#[98]⟩, .str ⟨#[99]⟩], .lst [.str ⟨#[99]⟩], .lst [.bl false], .lst [], .lst [.str ⟨#[99]⟩], .lst [.str ⟨#[97]⟩], .lst [.bl true], .lst [.str ⟨#[97]⟩], .lst [.ref 40, .tup [.str ⟨#[98]⟩, .str ⟨#[99]⟩, .str ⟨#[97]⟩]], .lst [.ref 13, .ref 14, .bl true, .bl false, .bl false, .tup [.str ⟨#[97]⟩, .str ⟨#[98]⟩, .str ⟨#[99]⟩, .str ⟨#[100]⟩], .tup [], .ref 40, .tup [.str ⟨#[98]⟩, .str ⟨#[99]⟩, .str ⟨#[97]⟩]], .lst [.tup [.str ⟨#[99]⟩, .str ⟨#[98]⟩, .str ⟨#[97]⟩], .tup [.str ⟨#[98]⟩, .str ⟨#[99]⟩, .str ⟨#[97]⟩], .tup [.str ⟨#[99]⟩, .str ⟨#[100]⟩, .str ⟨#[97]⟩, .str ⟨#[98]⟩]], .lst [.ref 75, .tup [.str ⟨#[98]⟩, .str ⟨#[99]⟩, .str ⟨#[97]⟩]], .lst [.ref 29, .ref 31, .bl true, .bl false, .bl false, .tup [.str ⟨#[97]⟩, .str ⟨#[98]⟩, .str ⟨#[99]⟩, .str ⟨#[100]⟩], .tup [], .ref 75, .tup [.str ⟨#[98]⟩, .str ⟨#[99]⟩, .str ⟨#[97]⟩]], .lst [.tup [.str ⟨#[97, 98]⟩, .str ⟨#[98]⟩, .str ⟨#[99]⟩], .tup [.str ⟨#[98]⟩, .str ⟨#[97, 97, 97]⟩, .str ⟨#[98, 97]⟩, .str ⟨#[99]⟩]], .lst [.ref 13, .ref 14, .bl true, .bl false, .bl false, .tup [.str ⟨#[97]⟩, .str ⟨#[98]⟩, .str ⟨#[99]⟩, .str ⟨#[100]⟩], .tup [], .ref 40, .tup [.str ⟨#[98]⟩, .str ⟨#[99]⟩, .str ⟨#[97]⟩], .tup [.str ⟨#[97, 98]⟩, .str ⟨#[98]⟩, .str ⟨#[99]⟩], .tup [.str ⟨#[98]⟩, .str ⟨#[97, 97, 97]⟩, .str ⟨#[98, 97]⟩, .str ⟨#[99]⟩]], .lst [.tup [.str ⟨#[97, 98]⟩, .str ⟨#[98]⟩, .str ⟨#[99]⟩], .tup [.str ⟨#[98]⟩, .str ⟨#[97, 97, 97]⟩, .str ⟨#[98, 97]⟩, .str ⟨#[99]⟩]], .lst [.ref 29, .ref 31, .bl true, .bl false, .bl false, .tup [.str ⟨#[97]⟩, .str ⟨#[98]⟩, .str ⟨#[99]⟩, .str ⟨#[100]⟩], .tup [], .ref 75, .tup [.str ⟨#[98]⟩, .str ⟨#[99]⟩, .str ⟨#[97]⟩], .tup [.str ⟨#[97, 98]⟩, .str ⟨#[98]⟩, .str ⟨#[99]⟩], .tup [.str ⟨#[98]⟩, .str ⟨#[97, 97, 97]⟩, .str ⟨#[98, 97]⟩, .str ⟨#[99]⟩]], .lst [.ref 83, .ref 90], .lst [.ref 84, .ref 86, .ref 88], .lst [.str ⟨#[97]⟩, .ref 85, .bl false], .lst [.str ⟨#[98]⟩], .lst [.str ⟨#[98]⟩, .ref 87, .bl false], .lst [.str ⟨#[99]⟩], .lst [.str ⟨#[99]⟩, .ref 89, .bl false], .lst [], .lst [.str ⟨#[97]⟩], .lst [.tup [.tup [.str ⟨#[97]⟩, .tup [.str ⟨#[98]⟩], .bl false], .tup [.str ⟨#[98]⟩, .tup [.str ⟨#[99]⟩], .bl false], .tup [.str ⟨#[99]⟩, .tup [], .bl false]], .tup [.str ⟨#[97]⟩]], .lst [.tup [.str ⟨#[97]⟩, .tup [.str ⟨#[98]⟩], .bl false], .tup [.str ⟨#[98]⟩, .tup [.str ⟨#[99]⟩], .bl false], .tup [.str ⟨#[99]⟩, .tup [], .bl false]], .lst [.str ⟨#[97]⟩, .tup [.str ⟨#[98]⟩], .bl false], .lst [.str ⟨#[98]⟩], .lst [.str ⟨#[98]⟩, .tup [.str ⟨#[99]⟩], .bl false], .lst [.str ⟨#[99]⟩], .lst [.str ⟨#[99]⟩, .tup [], .bl false], .lst [], .lst [.str ⟨#[97]⟩], .dic [(.inr ⟨#[97]⟩, .tup [.str ⟨#[98]⟩]), (.inr ⟨#[98]⟩, .tup [.str ⟨#[99]⟩]), (.inr ⟨#[99]⟩, .tup [])], .dic [(.inr ⟨#[99]⟩, .bl true), (.inr ⟨#[98]⟩, .bl true), (.inr ⟨#[97]⟩, .bl true)], .lst [], .lst [.bl true], .lst [.bl true], .lst [.bl true, .bl false], .lst [.ref 13, .ref 14, .bl true, .bl false, .bl false, .tup [.str ⟨#[97]⟩, .str ⟨#[98]⟩, .str ⟨#[99]⟩, .str ⟨#[100]⟩], .tup [], .ref 40, .tup [.str ⟨#[98]⟩, .str ⟨#[99]⟩, .str ⟨#[97]⟩], .tup [.str ⟨#[97, 98]⟩, .str ⟨#[98]⟩, .str ⟨#[99]⟩], .tup [.str ⟨#[98]⟩, .str ⟨#[97, 97, 97]⟩, .str ⟨#[98, 97]⟩, .str ⟨#[99]⟩], .bl true, .bl false], .lst [.bl true, .bl false], .lst [.ref 29, .ref 31, .bl true, .bl false, .bl false, .tup [.str ⟨#[97]⟩, .str ⟨#[98]⟩, .str ⟨#[99]⟩, .str ⟨#[100]⟩], .tup [], .ref 75, .tup [.str ⟨#[98]⟩, .str ⟨#[99]⟩, .str ⟨#[97]⟩], .tup [.str ⟨#[97, 98]⟩, .str ⟨#[98]⟩, .str ⟨#[99]⟩], .tup [.str ⟨#[98]⟩, .str ⟨#[97, 97, 97]⟩, .str ⟨#[98, 97]⟩, .str ⟨#[99]⟩], .bl true, .bl false]]
def he20 : Iv.Env := [some (.tup [.tup [.tup [.str ⟨#[97]⟩, .tup [], .bl true], .tup [.str ⟨#[98]⟩, .tup [], .bl true], .tup [.str ⟨#[99]⟩, .tup [.str ⟨#[97]⟩, .str ⟨#[98]⟩], .bl false], .tup [.str ⟨#[100]⟩, .tup [.str ⟨#[98]⟩], .bl false]], .tup [.str ⟨#[99]⟩, .str ⟨#[100]⟩]]), some (.ref 0), some (.ref 12), some (.ref 110), some (.ref 108), some (.ref 39), some (.tup [.tup [.tup [.str ⟨#[97]⟩, .tup [.str ⟨#[104]⟩], .bl false], .tup [.str ⟨#[98]⟩, .tup [], .bl false], .tup [.str ⟨#[99]⟩, .tup [], .bl false], .tup [.str ⟨#[100]⟩, .tup [], .bl false], .tup [.str ⟨#[101]⟩, .tup [], .bl false], .tup [.str ⟨#[102]⟩, .tup [], .bl false], .tup [.str ⟨#[103]⟩, .tup [], .bl false], .tup [.str ⟨#[104]⟩, .tup [.str ⟨#[103]⟩], .bl true]], .tup [.str ⟨#[97]⟩]]), none]
def hh20 : IH := [.lst [.tup [.str ⟨#[97]⟩, .str ⟨#[98]⟩, .str ⟨#[99]⟩, .str ⟨#[100]⟩], .tup [.str ⟨#[97]⟩, .str ⟨#[98]⟩, .str ⟨#[100]⟩, .str ⟨#[99]⟩], .tup [.str ⟨#[98]⟩, .str ⟨#[97]⟩, .str ⟨#[99]⟩, .str ⟨#[100]⟩], .tup [.str ⟨#[98]⟩, .str ⟨#[97]⟩, .str ⟨#[100]⟩, .str ⟨#[99]⟩], .tup [.str ⟨#[98]⟩, .str ⟨#[100]⟩, .str ⟨#[97]⟩, .str ⟨#[99]⟩]], .lst [.str ⟨#[97]⟩, .str ⟨#[98]⟩, .str ⟨#[99]⟩, .str ⟨#[100]⟩], .lst [.tup [], .tup [.str ⟨#[97]⟩, .str ⟨#[98]⟩, .str ⟨#[99]⟩], .tup [.str ⟨#[99]⟩, .str ⟨#[97]⟩, .str ⟨#[98]⟩, .str ⟨#[100]⟩], .ref 1, .tup [.str ⟨#[97]⟩, .str ⟨#[98]⟩, .str ⟨#[99]⟩, .str ⟨#[99]⟩], .tup [.str ⟨#[97]⟩, .str ⟨#[98]⟩, .str ⟨#[99]⟩, .str ⟨#[100]⟩, .str ⟨#[100]⟩], .tup [.str ⟨#[97]⟩, .str ⟨#[98]⟩, .str ⟨#[99]⟩, .str ⟨#[101]⟩], .non], .lst [.str ⟨#[97, 98, 99, 100]⟩, .int (5)], .lst [.tup [], .tup [.str ⟨#[97]⟩, .str ⟨#[98]⟩, .str ⟨#[99]⟩], .tup [.str ⟨#[99]⟩, .str ⟨#[97]⟩, .str ⟨#[98]⟩, .str ⟨#[100]⟩], .ref 1, .tup [.str ⟨#[97]⟩, .str ⟨#[98]⟩, .str ⟨#[99]⟩, .str ⟨#[99]⟩], .tup [.str ⟨#[97]⟩, .str ⟨#[98]⟩, .str ⟨#[99]⟩, .str ⟨#[100]⟩, .str ⟨#[100]⟩], .tup [.str ⟨#[97]⟩, .str ⟨#[98]⟩, .str ⟨#[99]⟩, .str ⟨#[101]⟩], .non, .str ⟨#[97, 98, 99, 100]⟩, .int (5)], .lst [.str ⟨#[99]⟩], .lst [.tup [.str ⟨#[97]⟩, .str ⟨#[98]⟩, .ref 5, .str ⟨#[100]⟩], .tup [.str ⟨#[97]⟩, .str ⟨#[98]⟩, .non, .str ⟨#[100]⟩], .tup [.str ⟨#[100]⟩, .str ⟨#[98]⟩, .str ⟨#[97]⟩, .str ⟨#[99]⟩], .tup [.str ⟨#[97]⟩, .str ⟨#[99]⟩, .str ⟨#[98]⟩, .str ⟨#[100]⟩], .tup [.str ⟨#[97]⟩, .str ⟨#[100]⟩, .str ⟨#[98]⟩, .str ⟨#[99]⟩]], .lst [.tup [], .tup [.str ⟨#[97]⟩, .str ⟨#[98]⟩, .str ⟨#[99]⟩], .tup [.str ⟨#[99]⟩, .str ⟨#[97]⟩, .str ⟨#[98]⟩, .str ⟨#[100]⟩], .ref 1, .tup [.str ⟨#[97]⟩, .str ⟨#[98]⟩, .str ⟨#[99]⟩, .str ⟨#[99]⟩], .tup [.str ⟨#[97]⟩, .str ⟨#[98]⟩, .str ⟨#[99]⟩, .str ⟨#[100]⟩, .str ⟨#[100]⟩], .tup [.str ⟨#[97]⟩, .str ⟨#[98]⟩, .str ⟨#[99]⟩, .str ⟨#[101]⟩], .non, .str ⟨#[97, 98, 99, 100]⟩, .int (5), .tup [.str ⟨#[97]⟩, .str ⟨#[98]⟩, .ref 5, .str ⟨#[100]⟩], .tup [.str ⟨#[97]⟩, .str ⟨#[98]⟩, .non, .str ⟨#[100]⟩], .tup [.str ⟨#[100]⟩, .str ⟨#[98]⟩, .str ⟨#[97]⟩, .str ⟨#[99]⟩], .tup [.str ⟨#[97]⟩, .str ⟨#[99]⟩, .str ⟨#[98]⟩, .str ⟨#[100]⟩], .tup [.str ⟨#[97]⟩, .str ⟨#[100]⟩, .str ⟨#[98]⟩, .str ⟨#[99]⟩]], .lst [], .lst [.bl true, .ref 8], .lst [.tup [], .tup [.str ⟨#[97]⟩, .str ⟨#[98]⟩, .str ⟨#[99]⟩], .tup [.str ⟨#[99]⟩, .str ⟨#[97]⟩, .str ⟨#[98]⟩, .str ⟨#[100]⟩], .ref 1, .tup [.str ⟨#[97]⟩, .str ⟨#[98]⟩, .str ⟨#[99]⟩, .str ⟨#[99]⟩], .tup [.str ⟨#[97]⟩, .str ⟨#[98]⟩, .str ⟨#[99]⟩, .str ⟨#[100]⟩, .str ⟨#[100]⟩], .tup [.str ⟨#[97]⟩, .str ⟨#[98]⟩, .str ⟨#[99]⟩, .str ⟨#[101]⟩], .non, .str ⟨#[97, 98, 99, 100]⟩, .int (5), .tup [.str ⟨#[97]⟩, .str ⟨#[98]⟩, .ref 5, .str ⟨#[100]⟩], .tup [.str ⟨#[97]⟩, .str ⟨#[98]⟩, .non, .str ⟨#[100]⟩], .tup [.str ⟨#[100]⟩, .str ⟨#[98]⟩, .str ⟨#[97]⟩, .str ⟨#[99]⟩], .tup [.str ⟨#[97]⟩, .str ⟨#[99]⟩, .str ⟨#[98]⟩, .str ⟨#[100]⟩], .tup [.str ⟨#[97]⟩, .str ⟨#[100]⟩, .str ⟨#[98]⟩, .str ⟨#[99]⟩], .bl true, .ref 8], .lst [.tup [.str ⟨#[97]⟩, .str ⟨#[98]⟩, .tup [.str ⟨#[99]⟩], .str ⟨#[100]⟩], .tup [.str ⟨#[97, 98]⟩, .str ⟨#[99]⟩, .str ⟨#[100]⟩], .tup [.str ⟨#[97]⟩, .str ⟨#[97]⟩, .str ⟨#[98]⟩, .str ⟨#[99]⟩, .str ⟨#[100]⟩], .exo, .tup [.str ⟨#[97]⟩, .str ⟨#[98]⟩, .str ⟨#[99]⟩, .exo]], .lst [.tup [], .tup [.str ⟨#[97]⟩, .str ⟨#[98]⟩, .str ⟨#[99]⟩], .tup [.str ⟨#[99]⟩, .str ⟨#[97]⟩, .str ⟨#[98]⟩, .str ⟨#[100]⟩], .ref 1, .tup [.str ⟨#[97]⟩, .str ⟨#[98]⟩, .str ⟨#[99]⟩, .str ⟨#[99]⟩], .tup [.str ⟨#[97]⟩, .str ⟨#[98]⟩, .str ⟨#[99]⟩, .str ⟨#[100]⟩, .str ⟨#[100]⟩], .tup [.str ⟨#[97]⟩, .str ⟨#[98]⟩, .str ⟨#[99]⟩, .str ⟨#[101]⟩], .non, .str ⟨#[97, 98, 99, 100]⟩, .int (5), .tup [.str ⟨#[97]⟩, .str ⟨#[98]⟩, .ref 5, .str ⟨#[100]⟩], .tup [.str ⟨#[97]⟩, .str ⟨#[98]⟩, .non, .str ⟨#[100]⟩], .tup [.str ⟨#[100]⟩, .str ⟨#[98]⟩, .str ⟨#[97]⟩, .str ⟨#[99]⟩], .tup [.str ⟨#[97]⟩, .str ⟨#[99]⟩, .str ⟨#[98]⟩, .str ⟨#[100]⟩], .tup [.str ⟨#[97]⟩, .str ⟨#[100]⟩, .str ⟨#[98]⟩, .str ⟨#[99]⟩], .bl true, .ref 8, .tup [.str ⟨#[97]⟩, .str ⟨#[98]⟩, .tup [.str ⟨#[99]⟩], .str ⟨#[100]⟩], .tup [.str ⟨#[97, 98]⟩, .str ⟨#[99]⟩, .str ⟨#[100]⟩], .tup [.str ⟨#[97]⟩, .str ⟨#[97]⟩, .str ⟨#[98]⟩, .str ⟨#[99]⟩, .str ⟨#[100]⟩], .exo, .tup [.str ⟨#[97]⟩, .str ⟨#[98]⟩, .str ⟨#[99]⟩, .exo]], .lst [.bl true, .bl true, .bl true, .bl true, .bl true], .lst [.bl false, .bl false, .bl false, .bl false, .bl false, .bl false, .bl false, .bl false, .bl false, .bl false, .bl false, .bl false, .bl false, .bl false, .bl false, .bl false, .bl false, .bl false, .bl false, .bl false, .bl false, .bl false], .dic [(.inr ⟨#[97]⟩, .tup []), (.inr ⟨#[98]⟩, .tup []), (.inr ⟨#[99]⟩, .tup [.str ⟨#[97]⟩, .str ⟨#[98]⟩]), (.inr ⟨#[100]⟩, .tup [.str ⟨#[98]⟩])], .dic [(.inr ⟨#[97]⟩, .tup []), (.inr ⟨#[98]⟩, .tup []), (.inr ⟨#[99]⟩, .tup [.str ⟨#[97]⟩, .str ⟨#[98]⟩]), (.inr ⟨#[100]⟩, .tup [.str ⟨#[98]⟩])], .dic [(.inr ⟨#[97]⟩, .bl true), (.inr ⟨#[98]⟩, .bl true)], .lst [], .lst [], .dic [(.inr ⟨#[97]⟩, .tup []), (.inr ⟨#[98]⟩, .tup []), (.inr ⟨#[99]⟩, .tup [.str ⟨#[97]⟩, .str ⟨#[98]⟩]), (.inr ⟨#[100]⟩, .tup [.str ⟨#[98]⟩])], .dic [(.inr ⟨#[97]⟩, .tup []), (.inr ⟨#[98]⟩, .tup []), (.inr ⟨#[99]⟩, .tup [.str ⟨#[97]⟩, .str ⟨#[98]⟩]), (.inr ⟨#[100]⟩, .tup [.str ⟨#[98]⟩])], .dic [(.inr ⟨#[97]⟩, .tup []), (.inr ⟨#[98]⟩, .tup []), (.inr ⟨#[99]⟩, .tup [.str ⟨#[97]⟩, .str ⟨#[98]⟩]), (.inr ⟨#[100]⟩, .tup [.str ⟨#[98]⟩])], .dic [(.inr ⟨#[97]⟩, .bl true), (.inr ⟨#[98]⟩, .bl true), (.inr ⟨#[99]⟩, .bl true)], .lst [], .lst [], .lst [.bl true, .bl true], .lst [.ref 13, .ref 14, .bl true], .lst [.bl true], .lst [.bl true, .bl true, .bl true, .bl true, .bl true], .lst [.bl false], .lst [.bl false, .bl false, .bl false, .bl false, .bl false, .bl false, .bl false, .bl false, .bl false, .bl false, .bl false, .bl false, .bl false, .bl false, .bl false, .bl false, .bl false, .bl false, .bl false, .bl false, .bl false, .bl false], .lst [.ref 29, .ref 31, .bl true], .lst [], .dic [], .lst [.bl false, .bl false, .tup [.str ⟨#[97]⟩, .str ⟨#[98]⟩, .str ⟨#[99]⟩, .str ⟨#[100]⟩], .tup []], .lst [.ref 13, .ref 14, .bl true, .bl false, .bl false, .tup [.str ⟨#[97]⟩, .str ⟨#[98]⟩, .str ⟨#[99]⟩, .str ⟨#[100]⟩], .tup []], .lst [.bl false, .bl false, .tup [.str ⟨#[97]⟩, .str ⟨#[98]⟩, .str ⟨#[99]⟩, .str ⟨#[100]⟩], .tup []], .lst [.ref 29, .ref 31, .bl true, .bl false, .bl false, .tup [.str ⟨#[97]⟩, .str ⟨#[98]⟩, .str ⟨#[99]⟩, .str ⟨#[100]⟩], .tup []], .lst [.tup [.tup [.tup [.str ⟨#[97]⟩, .tup [.str ⟨#[98]⟩], .bl false], .tup [.str ⟨#[98]⟩, .tup [.str ⟨#[99]⟩], .bl false], .tup [.str ⟨#[99]⟩, .tup [], .bl false]], .tup [.str ⟨#[97]⟩]], .tup [.tup [.tup [.str ⟨#[97]⟩, .tup [.str ⟨#[99]⟩], .bl false], .tup [.str ⟨#[98]⟩, .tup [], .bl false], .tup [.str ⟨#[99]⟩, .tup [], .bl true]], .tup [.str ⟨#[97]⟩, .str ⟨#[98]⟩]], .tup [.tup [.tup [.str ⟨#[97]⟩, .tup [.str ⟨#[100]⟩], .bl false], .tup [.str ⟨#[98]⟩, .tup [.str ⟨#[100]⟩], .bl false], .tup [.str ⟨#[99]⟩, .tup [], .bl false], .tup [.str ⟨#[100]⟩, .tup [], .bl false]], .tup []]], .lst [.tup [.str ⟨#[99]⟩, .str ⟨#[98]⟩, .str ⟨#[97]⟩], .tup [.str ⟨#[98]⟩, .str ⟨#[99]⟩, .str ⟨#[97]⟩], .tup [.str ⟨#[99]⟩, .str ⟨#[100]⟩, .str ⟨#[97]⟩, .str ⟨#[98]⟩]], .lst [.ref 42, .ref 49], .lst [.ref 43, .ref 45, .ref 47], .lst [.str ⟨#[97]⟩, .ref 44, .bl false], .lst [.str ⟨#[99]⟩], .lst [.str ⟨#[98]⟩, .ref 46, .bl false], .lst [], .lst [.str ⟨#[99]⟩, .ref 48, .bl true], .lst [], .lst [.str ⟨#[97]⟩, .str ⟨#[98]⟩], .lst [.tup [.tup [.str ⟨#[97]⟩, .tup [.str ⟨#[99]⟩], .bl false], .tup [.str ⟨#[98]⟩, .tup [], .bl false], .tup [.str ⟨#[99]⟩, .tup [], .bl true]], .tup [.str ⟨#[97]⟩, .str ⟨#[98]⟩]], .lst [.tup [.str ⟨#[97]⟩, .tup [.str ⟨#[99]⟩], .bl false], .tup [.str ⟨#[98]⟩, .tup [], .bl false], .tup [.str ⟨#[99]⟩, .tup [], .bl true]], .lst [.str ⟨#[97]⟩, .tup [.str ⟨#[99]⟩], .bl false], .lst [.str ⟨#[99]⟩], .lst [.str ⟨#[98]⟩, .tup [], .bl false], .lst [], .lst [.str ⟨#[99]⟩, .tup [], .bl true], .lst [], .lst [.str ⟨#[97]⟩, .str ⟨#[98]⟩], .dic [(.inr ⟨#[97]⟩, .tup [.str ⟨#[99]⟩]), (.inr ⟨#[98]⟩, .tup []), (.inr ⟨#[99]⟩, .tup [])], .dic [(.inr ⟨#[98]⟩, .bl true), (.inr ⟨#[99]⟩, .bl true), (.inr ⟨#[97]⟩, .bl true)], .lst [.str ⟨#[98]⟩, .str ⟨#[99]⟩], .lst [.bl false], .lst [], .lst [], .lst [.str ⟨#[98]⟩, .str ⟨#[99]⟩], .lst [.str ⟨#[99]⟩], .lst [.bl false], .lst [], .lst [.str ⟨#[99]⟩], .lst [.str ⟨#[97]⟩], .lst [.bl true], .lst [.str ⟨#[97]⟩], .lst [.ref 40, .tup [.str ⟨#[98]⟩, .str ⟨#[99]⟩, .str ⟨#[97]⟩]], .lst [.ref 13, .ref 14, .bl true, .bl false, .bl false, .tup [.str ⟨#[97]⟩, .str ⟨#[98]⟩, .str ⟨#[99]⟩, .str ⟨#[100]⟩], .tup [], .ref 40, .tup [.str ⟨#[98]⟩, .str ⟨#[99]⟩, .str ⟨#[97]⟩]], .lst [.tup [.str ⟨#[99]⟩, .str ⟨#[98]⟩, .str ⟨#[97]⟩], .tup [.str ⟨#[98]⟩, .str ⟨#[99]⟩, .str ⟨#[97]⟩], .tup [.str ⟨#[99]⟩, .str ⟨#[100]⟩, .str ⟨#[97]⟩, .str ⟨#[98]⟩]], .lst [.ref 75, .tup [.str ⟨#[98]⟩, .str ⟨#[99]⟩, .str ⟨#[97]⟩]], .lst [.ref 29, .ref 31, .bl true, .bl false, .bl false, .tup [.str ⟨#[97]⟩, .str ⟨#[98]⟩, .str ⟨#[99]⟩, .str ⟨#[100]⟩], .tup [], .ref 75, .tup [.str ⟨#[98]⟩, .str ⟨#[99]⟩, .str ⟨#[97]⟩]], .lst [.tup [.str ⟨#[97, 98]⟩, .str ⟨#[98]⟩, .str ⟨#[99]⟩], .tup [.str ⟨#[98]⟩, .str ⟨#[97, 97, 97]⟩, .str ⟨#[98, 97]⟩, .str ⟨#[99]⟩]], .lst [.ref 13, .ref 14, .bl true, .bl false, .bl false, .tup [.str ⟨#[97]⟩, .str ⟨#[98]⟩, .str ⟨#[99]⟩, .str ⟨#[100]⟩], .tup [], .ref 40, .tup [.str ⟨#[98]⟩, .str ⟨#[99]⟩, .str ⟨#[97]⟩], .tup [.str ⟨#[97, 98]⟩, .str ⟨#[98]⟩, .str ⟨#[99]⟩], .tup [.str ⟨#[98]⟩, .str ⟨#[97, 97, 97]⟩, .str ⟨#[98, 97]⟩, .str ⟨#[99]⟩]], .lst [.tup [.str ⟨#[97, 98]⟩, .str ⟨#[98]⟩, .str ⟨#[99]⟩], .tup [.str ⟨#[98]⟩, .str ⟨#[97, 97, 97]⟩, .str ⟨#[98, 97]⟩, .str ⟨#[99]⟩]], .lst [.ref 29, .ref 31, .bl true, .bl false, .bl false, .tup [.str ⟨#[97]⟩, .str ⟨#[98]⟩, .str ⟨#[99]⟩, .str ⟨#[100]⟩], .tup [], .ref 75, .tup [.str ⟨#[98]⟩, .str ⟨#[99]⟩, .str ⟨#[97]⟩], .tup [.str ⟨#[97, 98]⟩, .str ⟨#[98]⟩, .str ⟨#[99]⟩], .tup [.str ⟨#[98]⟩, .str ⟨#[97, 97, 97]⟩, .str ⟨#[98, 97]⟩, .str ⟨#[99]⟩]], .lst [.ref 83, .ref 90], .lst [.ref 84, .ref 86, .ref 88], .lst [.str ⟨#[97]⟩, .ref 85, .bl false], .lst [.str ⟨#[98]⟩], .lst [.str ⟨#[98]⟩, .ref 87, .bl false], .lst [.str ⟨#[99]⟩], .lst [.str ⟨#[99]⟩, .ref 89, .bl false], .lst [], .lst [.str ⟨#[97]⟩], .lst [.tup [.tup [.str ⟨#[97]⟩, .tup [.str ⟨#[98]⟩], .bl false], .tup [.str ⟨#[98]⟩, .tup [.str ⟨#[99]⟩], .bl false], .tup [.str ⟨#[99]⟩, .tup [], .bl false]], .tup [.str ⟨#[97]⟩]], .lst [.tup [.str ⟨#[97]⟩, .tup [.str ⟨#[98]⟩], .bl false], .tup [.str ⟨#[98]⟩, .tup [.str ⟨#[99]⟩], .bl false], .tup [.str ⟨#[99]⟩, .tup [], .bl false]], .lst [.str ⟨#[97]⟩, .tup [.str ⟨#[98]⟩], .bl false], .lst [.str ⟨#[98]⟩], .lst [.str ⟨#[98]⟩, .tup [.str ⟨#[99]⟩], .bl false], .lst [.str ⟨#[99]⟩], .lst [.str ⟨#[99]⟩, .tup [], .bl false], .lst [], .lst [.str ⟨#[97]⟩], .dic [(.inr ⟨#[97]⟩, .tup [.str ⟨#[98]⟩]), (.inr ⟨#[98]⟩, .tup [.str ⟨#[99]⟩]), (.inr ⟨#[99]⟩, .tup [])], .dic [(.inr ⟨#[99]⟩, .bl true), (.inr ⟨#[98]⟩, .bl true), (.inr ⟨#[97]⟩, .bl true)], .lst [], .lst [.bl true], .lst [.bl true], .lst [.bl true, .bl false], .lst [.ref 13, .ref 14, .bl true, .bl false, .bl false, .tup [.str ⟨#[97]⟩, .str ⟨#[98]⟩, .str ⟨#[99]⟩, .str ⟨#[100]⟩], .tup [], .ref 40, .tup [.str ⟨#[98]⟩, .str ⟨#[99]⟩, .str ⟨#[97]⟩], .tup [.str ⟨#[97, 98]⟩, .str ⟨#[98]⟩, .str ⟨#[99]⟩], .tup [.str ⟨#[98]⟩, .str ⟨#[97, 97, 97]⟩, .str ⟨#[98, 97]⟩, .str ⟨#[99]⟩], .bl true, .bl false], .lst [.bl true, .bl false], .lst [.ref 29, .ref 31, .bl true, .bl false, .bl false, .tup [.str ⟨#[97]⟩, .str ⟨#[98]⟩, .str ⟨#[99]⟩, .str ⟨#[100]⟩], .tup [], .ref 75, .tup [.str ⟨#[98]⟩, .str ⟨#[99]⟩, .str ⟨#[97]⟩], .tup [.str ⟨#[97, 98]⟩, .str ⟨#[98]⟩, .str ⟨#[99]⟩], .tup [.str ⟨#[98]⟩, .str ⟨#[97, 97, 97]⟩, .str ⟨#[98, 97]⟩, .str ⟨#[99]⟩], .bl true, .bl false], .lst [.tup [.str ⟨#[98]⟩, .str ⟨#[99]⟩, .str ⟨#[100]⟩, .str ⟨#[101]⟩, .str ⟨#[102]⟩, .str ⟨#[103]⟩, .str ⟨#[104]⟩, .str ⟨#[97]⟩], .bl true, .bl true], .lst [.ref 13, .ref 14, .bl true, .bl false, .bl false, .tup [.str ⟨#[97]⟩, .str ⟨#[98]⟩, .str ⟨#[99]⟩, .str ⟨#[100]⟩], .tup [], .ref 40, .tup [.str ⟨#[98]⟩, .str ⟨#[99]⟩, .str ⟨#[97]⟩], .tup [.str ⟨#[97, 98]⟩, .str ⟨#[98]⟩, .str ⟨#[99]⟩], .tup [.str ⟨#[98]⟩, .str ⟨#[97, 97, 97]⟩, .str ⟨#[98, 97]⟩, .str ⟨#[99]⟩], .bl true, .bl false, .tup [.str ⟨#[98]⟩, .str ⟨#[99]⟩, .str ⟨#[100]⟩, .str ⟨#[101]⟩, .str ⟨#[102]⟩, .str ⟨#[103]⟩, .str ⟨#[104]⟩, .str ⟨#[97]⟩], .bl true, .bl true]]
theorem hs0 : hc0 he0 hh0 = some (.ok (.nx he1), hh1) := step_of (by decide +kernel)
theorem hs1 : hc1 he1 hh1 = some (.ok (.nx he2), hh2) := step_of (by decide +kernel)
theorem hs2 : hc2 he2 hh2 = some (.ok (.nx he3), hh3) := step_of (by decide +kernel)
theorem hs3 : hc3 he3 hh3 = some (.ok (.nx he4), hh4) := step_of (by decide +kernel)
theorem hs4 : hc4 he4 hh4 = some (.ok (.nx he5), hh5) := step_of (by decide +kernel)
theorem hs5 : hc5 he5 hh5 = some (.ok (.nx he6), hh6) := step_of (by decide +kernel)
theorem hs6 : hc6 he6 hh6 = some (.ok (.nx he7), hh7) := step_of (by decide +kernel)
theorem hs7 : hc7 he7 hh7 = some (.ok (.nx he8), hh8) := step_of (by decide +kernel)
theorem hs8 : hc8 he8 hh8 = some (.ok (.nx he9), hh9) := step_of (by decide +kernel)
theorem hs9 : hc9 he9 hh9 = some (.ok (.nx he10), hh10) := step_of (by decide +kernel)
theorem hs10 : hc10 he10 hh10 = some (.ok (.nx he11), hh11) := step_of (by decide +kernel)
theorem hs11 : hc11 he11 hh11 = some (.ok (.nx he12), hh12) := step_of (by decide +kernel)
theorem hs12 : hc12 he12 hh12 = some (.ok (.nx he13), hh13) := step_of (by decide +kernel)
theorem hs13 : hc13 he13 hh13 = some (.ok (.nx he14), hh14) := step_of (by decide +kernel)
theorem hs14 : hc14 he14 hh14 = some (.ok (.nx he15), hh15) := step_of (by decide +kernel)
theorem hs15 : hc15 he15 hh15 = some (.ok (.nx he16), hh16) := step_of (by decide +kernel)
theorem hs16 : hc16 he16 hh16 = some (.ok (.nx he17), hh17) := step_of (by decide +kernel)
theorem hs17 : hc17 he17 hh17 = some (.ok (.nx he18), hh18) := step_of (by decide +kernel)
theorem hs18 : hc18 he18 hh18 = some (.ok (.nx he19), hh19) := step_of (by decide +kernel)
theorem hs19 : hc19 he19 hh19 = some (.ok (.nx he20), hh20) := step_of (by decide +kernel)
def okR (o : Option (Out Fl × IH)) : Bool := match o with
  | some (.ok (.rt (.bl true)), _) => true
  | _ => false
theorem okR_of {o : Option (Out Fl × IH)} (e : okR o = true) : ∃ h', o = some (.ok (.rt (.bl true)), h') := by
  unfold okR at e
  split at e
  · exact ⟨_, rfl⟩
  · cases e
theorem hsE : ∃ h', hcE he20 hh20 = some (.ok (.rt (.bl true)), h') := okR_of (by decide +kernel)
theorem hand_b : b__law_by_hand_right = (SeqS hc0 (SeqS hc1 (SeqS hc2 (SeqS hc3 (SeqS hc4 (SeqS hc5 (SeqS hc6 (SeqS hc7 (SeqS hc8 (SeqS hc9 (SeqS hc10 (SeqS hc11 (SeqS hc12 (SeqS hc13 (SeqS hc14 (SeqS hc15 (SeqS hc16 (SeqS hc17 (SeqS hc18 (SeqS hc19 hcE)))))))))))))))))))) := by
  unfold b__law_by_hand_right hc0 hc1 hc2 hc3 hc4 hc5 hc6 hc7 hc8 hc9 hc10 hc11 hc12 hc13 hc14 hc15 hc16 hc17 hc18 hc19 hcE
  rw [n_least_order]
  try simp only [← seq_as]
theorem hand_ok : ∃ h', F__law_by_hand_right [] [] = some (.ok (.bl true), h') := by
  obtain ⟨h', q⟩ := hsE
  refine ⟨h', ?_⟩
  unfold F__law_by_hand_right
  rw [hand_b]
  have e : Fn 8 (SeqS hc0 (SeqS hc1 (SeqS hc2 (SeqS hc3 (SeqS hc4 (SeqS hc5 (SeqS hc6 (SeqS hc7 (SeqS hc8 (SeqS hc9 (SeqS hc10 (SeqS hc11 (SeqS hc12 (SeqS hc13 (SeqS hc14 (SeqS hc15 (SeqS hc16 (SeqS hc17 (SeqS hc18 (SeqS hc19 hcE)))))))))))))))))))) [] [] = some (.ok (.bl true), h') := fn_rt ((seq_nx hs0).trans ((seq_nx hs1).trans ((seq_nx hs2).trans ((seq_nx hs3).trans ((seq_nx hs4).trans ((seq_nx hs5).trans ((seq_nx hs6).trans ((seq_nx hs7).trans ((seq_nx hs8).trans ((seq_nx hs9).trans ((seq_nx hs10).trans ((seq_nx hs11).trans ((seq_nx hs12).trans ((seq_nx hs13).trans ((seq_nx hs14).trans ((seq_nx hs15).trans ((seq_nx hs16).trans ((seq_nx hs17).trans ((seq_nx hs18).trans ((seq_nx hs19).trans (q)))))))))))))))))))))
  exact e
end K02
set_option autoImplicit true
set_option Elab.async false
set_option linter.all false
set_option maxRecDepth 100000
set_option maxHeartbeats 600000
namespace K02
open PySem L2 Iv
/-- the urn at u, with at most c draws of the second sort behind it -/
structure Urn (h : IH) (u : Nat) (c : Nat) (a b d : Int) : Prop where
  at_ : h[u]? = some (.lst [.int a, .int b, .int d])
  a0 : 0 ≤ a
  b0 : 0 ≤ b
  b1 : b < 4611686018427387904
  d0 : 0 ≤ d
  d1 : d ≤ c
theorem ix3_0 {h : IH} {a b c : IV} : ixS h [a, b, c] (.int 0) = some (.ok a, h) := rfl
theorem ix3_1 {h : IH} {a b c : IV} : ixS h [a, b, c] (.int 1) = some (.ok b, h) := rfl
theorem ix3_2 {h : IH} {a b c : IV} : ixS h [a, b, c] (.int 2) = some (.ok c, h) := rfl
theorem take_spec {h : IH} {u c : Nat} {a b d n : Int} (U : Urn h u c a b d) (hc : c < 1000000000) (h0 : 0 < n) (h1 : n < 1000000) :
    ∃ r a' d', F__law_take [.ref u, .int n] h = some (.ok (.int r), h.set u (.lst [.int a', .int b, .int d'])) ∧ 0 ≤ r ∧ r < n ∧ 0 ≤ a' ∧ 0 ≤ d' ∧ d' ≤ c + 1 := by
  have hu := U.at_
  have hul : u < h.length := (List.getElem?_eq_some_iff.mp hu).1
  by_cases ha : 0 < a
  · refine ⟨a % n, a / n, d, ?_, Int.emod_nonneg _ (by omega), Int.emod_lt_of_pos _ h0, Int.ediv_nonneg U.a0 (by omega), U.d0, by have := U.d1; omega⟩
    simp [F__law_take, b__law_take, Fn, SeqS, IfS, AsgS, TgN, TgSub, RetS, NextS, Bin, Var, Cst, CallB, Cons, Nil, Tst, asB, gtI, ordI, ixM, ix3_0, modI, divI, intC, intM, setM, M.bind, M.pure, hu, ha, modOk_of h0, divOk_of h0 (by omega : n < 18446744073709551616), ixN, keyI]
  · have ea : a = 0 := by have := U.a0; omega
    subst ea
    have hd := U.d1
    have hd0 := U.d0
    have hb0 := U.b0
    have hb1 := U.b1
    generalize e1 : (b + 48271 * (d + 1)) * (39373 + (d + 1)) % 2147483647 = t1
    have t1a : 0 ≤ t1 := by rw [← e1]; exact Int.emod_nonneg _ (by decide)
    have t1b : t1 < 2147483647 := by rw [← e1]; exact Int.emod_lt_of_pos _ (by decide)
    generalize e2 : t1 % 40009 + 7 = t2
    have t2a : 0 ≤ t2 := by omega
    have t2b : t2 < 50000 := by omega
    generalize e3 : (t1 + (d + 1) + b / 1000003) * t2 % 2147483629 = t3
    have t3a : 0 ≤ t3 := by rw [← e3]; exact Int.emod_nonneg _ (by decide)
    have t3b : t3 < 2147483629 := by rw [← e3]; exact Int.emod_lt_of_pos _ (by decide)
    refine ⟨(t3 * 48271 + t1) % 2147483587 / 64 % n, 0, d + 1, ?_, Int.emod_nonneg _ (by omega), Int.emod_lt_of_pos _ h0, Int.le_refl _, by omega, by omega⟩
    have m1 : mulOk 48271 (d + 1) = true := mulOk_l (by omega) (by omega)
    have m2 : mulOk (b + 48271 * (d + 1)) (39373 + (d + 1)) = true := mulOk_r (by omega) (by omega)
    have m3 : mulOk (t1 + (d + 1) + b / 1000003) t2 = true := mulOk_r (by omega) (by omega)
    have m4 : mulOk t3 48271 = true := mulOk_r (by omega) (by omega)
    have q1 : divOk b 1000003 = true := divOk_of (by omega) (by omega)
    have q2 : divOk ((t3 * 48271 + t1) % 2147483587) 64 = true := divOk_of (by omega) (by omega)
    have k0 : ∀ i, modOk i n = true := fun i => modOk_of h0
    have k1 : ∀ i, modOk i 2147483647 = true := fun i => modOk_of (by omega)
    have k2 : ∀ i, modOk i 2147483629 = true := fun i => modOk_of (by omega)
    have k3 : ∀ i, modOk i 2147483587 = true := fun i => modOk_of (by omega)
    have k4 : ∀ i, modOk i 40009 = true := fun i => modOk_of (by omega)
    have g : (h.set u (.lst [.int 0, .int b, .int (d + 1)]))[u]? = some (.lst [.int 0, .int b, .int (d + 1)]) := List.getElem?_set_self hul
    simp [F__law_take, b__law_take, Fn, SeqS, IfS, AsgS, TgN, TgSub, RetS, NextS, Bin, Var, Cst, CallB, Cons, Nil, Tst, asB, gtI, ordI, ixM, ix3_0, ix3_1, ix3_2, modI, divI, addI_int, mulI_int, intC, intM, setM, M.bind, M.pure, hu, g, ixN, keyI, e1, e2, e3,
      k0, k1, k2, k3, k4, m1, m2, m3, m4, q1, q2]
end K02
set_option autoImplicit true
set_option Elab.async false
set_option linter.all false
set_option maxRecDepth 100000
set_option maxHeartbeats 600000
namespace K02
open PySem L2 Iv
theorem LN_ok {n : Nat} (h : n < 100000) : n < LN := by unfold LN; exact h
def Ur (h : IH) (u c : Nat) : Prop := ∃ a b d : Int, h[u]? = some (.lst [.int a, .int b, .int d]) ∧ 0 ≤ a ∧ 0 ≤ b ∧ b < 4611686018427387904 ∧ 0 ≤ d ∧ d + c ≤ 900000000
theorem Ur.le {h : IH} {u c c' : Nat} (U : Ur h u c) (e : c' ≤ c) : Ur h u c' := let ⟨a, b, d, e1, e2, e3, e4, e5, e6⟩ := U; ⟨a, b, d, e1, e2, e3, e4, e5, by omega⟩
theorem Ur.lt {h : IH} {u c : Nat} (U : Ur h u c) : u < h.length := let ⟨a, b, d, e1, _⟩ := U; (List.getElem?_eq_some_iff.mp e1).1
theorem Ur.to {h h' : IH} {u c : Nat} (U : Ur h u c) (e : h'[u]? = h[u]?) : Ur h' u c := let ⟨a, b, d, e1, r⟩ := U; ⟨a, b, d, e.trans e1, r⟩
theorem Ur.gr {h h' : IH} {u c : Nat} (U : Ur h u c) (e : Gr h h') : Ur h' u c := let ⟨a, b, d, e1, r⟩ := U; ⟨a, b, d, e _ _ e1, r⟩
theorem Ur.set {h : IH} {u c n : Nat} {o : IO} (U : Ur h u c) (e : u ≠ n) : Ur (h.set n o) u c := U.to (List.getElem?_set_ne (Ne.symm e))
theorem take_ok {h : IH} {u c : Nat} {n : Int} (U : Ur h u (c + 1)) (h0 : 0 < n) (h1 : n < 1000000) :
    Ok (F__law_take [.ref u, .int n]) h fun x h' => ∃ r : Int, x = .int r ∧ 0 ≤ r ∧ r < n ∧ Ur h' u c ∧ GrX u h h' ∧ h'.length = h.length := by
  obtain ⟨a, b, d, e1, e2, e3, e4, e5, e6⟩ := U
  obtain ⟨r, a', d', q, r0, r1, a0, d0, d1⟩ := take_spec (c := d.toNat) ⟨e1, e2, e3, e4, e5, by omega⟩ (by omega) h0 h1
  have hl := (List.getElem?_eq_some_iff.mp e1).1
  exact ⟨_, _, q, r, rfl, r0, r1, ⟨a', b, d', by rw [List.getElem?_set_self hl], a0, e3, e4, d0, by omega⟩, GrX.set, by simp⟩
theorem of_ok {h : IH} {u l c : Nat} {xs : List IV} (hne : u ≠ l) (U : Ur h u (c + 1)) (e : h[l]? = some (.lst xs)) (h0 : 0 < xs.length) (h1 : xs.length < 1000000) :
    Ok (F__law_of [.ref u, .ref l]) h fun x h' => x ∈ xs ∧ Ur h' u c ∧ GrX u h h' ∧ h'.length = h.length := by
  obtain ⟨x, h', q, r, rfl, r0, r1, U2, G, L⟩ := take_ok (n := xs.length) U (by omega) (by omega)
  have e2 := G l _ (Ne.symm hne) e
  have hi : r.toNat < xs.length := by omega
  refine ⟨xs[r.toNat], h', ?_, List.getElem_mem hi, U2, G, L⟩
  have a1 : atI xs r = some xs[r.toNat] := by rw [atI_nn r0 r1]; simp [hi]
  simp [F__law_of, b__law_of, Fn, RetS, Bin, Var, CallF, CallB, Cons, Nil, M.bind, M.pure, len_lst e, noex_ok q, ix_lst e2 a1]
theorem mixed_ok {h : IH} {u l c : Nat} {xs : List IV} (hne : u ≠ l) (U : Ur h u (c + xs.length)) (e : h[l]? = some (.lst xs)) (h1 : xs.length ≤ 1000) :
    Ok (F__law_mixed [.ref u, .ref l]) h fun v h' => ∃ m ys, v = .ref m ∧ h.length ≤ m ∧ h'[m]? = some (.lst ys) ∧ ys.Perm xs ∧ Ur h' u c ∧ GrX u h h' := by
  have hu := U.lt
  have hl := (List.getElem?_eq_some_iff.mp e).1
  let h2 : IH := h ++ [.lst xs, .lst []]
  let env0 : Iv.Env := [some (.ref u), some (.ref l), some (.ref h.length), some (.ref (h.length + 1)), none]
  have hf := forS_ok (src := IterA rng1 (Cons (CallB lenM (Cons (Var 1) Nil)) Nil)) (s := SRange 0 xs.length) (t := TgN 4)
    (b := DropS (Mth chkL appM (Var 3) (Cons (Mth chkL popAtM (Var 2) (Cons (CallF 2 F__law_take (Cons (Var 0) (Cons (CallB lenM (Cons (Var 2) Nil)) Nil))) Nil)) Nil)))
    (n := xs.length) (k := LN) (env := env0) (h := h2) (h1 := h2)
    (fun i env h' => ∃ o rest found, env = [some (.ref u), some (.ref l), some (.ref h.length), some (.ref (h.length + 1)), o] ∧ h'[h.length]? = some (.lst rest) ∧ h'[h.length + 1]? = some (.lst found) ∧ rest.length + i = xs.length ∧ found.length = i ∧ (found ++ rest).Perm xs ∧ Ur h' u (c + rest.length) ∧ GrX u h h')
    (by
      have e2 : h2[l]? = some (.lst xs) := by show (h ++ _)[l]? = _; rw [List.getElem?_append_left hl]; exact e
      simp [IterA, Cons, CallB, Var, Nil, M.bind, M.pure, env0, len_lst e2, rng1_ok (show xs.length < 1000000 by omega)])
    (LN_ok (by omega))
    ⟨none, xs, [], rfl, by simp [h2], by simp [h2], by omega, rfl, by simp, U.to (by show (h ++ _)[u]? = _; rw [List.getElem?_append_left hu]), (GrX.refl u h).pushx⟩
    (by
      rintro i env h' hi ⟨o, rest, found, rfl, r1, r2, r3, r4, r5, r6, r7⟩
      have hr : 0 < rest.length := by omega
      obtain ⟨x, h3, q, r, rfl, q0, q1, U2, G, L⟩ := take_ok (c := c + (rest.length - 1)) (n := rest.length) (r6.le (by omega)) (by omega) (by omega)
      have g1 := G h.length _ (by omega) r1
      have hi2 : r.toNat < rest.length := by omega
      have g2 : (h3.set h.length (.lst (rest.eraseIdx r.toNat)))[h.length + 1]? = some (.lst found) := by
        rw [List.getElem?_set_ne (by omega)]; exact G (h.length + 1) _ (by omega) r2
      refine ⟨_, srange hi, _, (h3.set h.length (.lst (rest.eraseIdx r.toNat))).set (h.length + 1) (.lst (found ++ [rest[r.toNat]])), ?_, _, .inl rfl, some (.int i), rest.eraseIdx r.toNat, found ++ [rest[r.toNat]], rfl, ?_, ?_, ?_, ?_, ?_, ?_, ?_⟩
      · simp [TgN, DropS, Mth, Var, Cons, Nil, CallF, CallB, M.bind, M.pure, chk_lst r1, chk_lst r2, len_lst r1, noex_ok q, popAt_lst g1 q0 q1 (by omega) (List.getElem?_eq_getElem hi2), app_lst g2 (by omega : found.length < 100000)]
      · rw [List.getElem?_set_ne (by omega), List.getElem?_set_self (List.getElem?_eq_some_iff.mp g1).1]
      · rw [List.getElem?_set_self (List.getElem?_eq_some_iff.mp g2).1]
      · rw [List.length_eraseIdx_of_lt hi2]; omega
      · simp [r4]
      · refine List.Perm.trans ?_ r5
        rw [List.append_assoc]
        exact List.Perm.append_left _ (perm_erase hi2)
      · rw [List.length_eraseIdx_of_lt hi2]
        exact (U2.set (by omega)).set (by omega)
      · exact ((r7.trans G).setx (Nat.le_refl _)).setx (by omega))
    (by
      rintro env h' ⟨o, rest, found, rfl, r1, r2, r3, r4, r5, r6, r7⟩
      exact srange_end)
  obtain ⟨f, h3, q, e2, rfl, o, rest, found, rfl, r1, r2, r3, r4, r5, r6, r7⟩ := hf
  have hr : rest = [] := List.length_eq_zero_iff.mp (by omega)
  subst hr
  refine ⟨.ref (h.length + 1), h3, ?_, h.length + 1, found, rfl, by omega, r2, by simpa using r5, r6, r7⟩
  have q' : ForS LN (IterA rng1 (Cons (CallB lenM (Cons (Var 1) Nil)) Nil)) (TgN 4) (DropS (Mth chkL appM (Var 3) (Cons (Mth chkL popAtM (Var 2) (Cons (CallF 2 F__law_take (Cons (Var 0) (Cons (CallB lenM (Cons (Var 2) Nil)) Nil))) Nil)) Nil))) [some (.ref u), some (.ref l), some (.ref h.length), some (.ref (h.length + 1)), none] (h ++ [.lst xs, .lst []]) = _ := q
  simp [F__law_mixed, b__law_mixed, Fn, SeqS, ParS, Var, CallB, Cons, Nil, Lst, RetS, M.bind, M.pure, list_lst e (by omega : xs.length ≤ 100000), mkL_ok, q']
end K02
set_option autoImplicit true
set_option Elab.async false
set_option linter.all false
set_option maxRecDepth 100000
set_option maxHeartbeats 600000
namespace K02
open PySem L2 Iv
def signs : Str := Str.ofString "abcdefghijklmnopqrstuvwxyz"
theorem signs_len : signs.length = 26 := by decide +kernel
theorem signs_at : ∀ k : Fin 26, atI signs.cps.toList (k.val : Int) = some (97 + k.val) := by decide +kernel
theorem signs_ix {r : Int} {h : IH} (h0 : 0 ≤ r) (h1 : r < 26) : ixM (.str signs) (.int r) h = some (.ok (.str ⟨#[97 + r.toNat]⟩), h) := by
  have := signs_at ⟨r.toNat, by omega⟩
  have e : ((r.toNat : Nat) : Int) = r := Int.toNat_of_nonneg h0
  simp only [e] at this
  exact ix_str (by rw [signs_len]; omega) this
def sg (f b : Int) (k : Nat) : Str := ⟨#[97 + ((f + b * k) % 26).toNat]⟩
theorem sg_ne {f b : Int} {i j : Nat} (hb : b = 1 ∨ b = 3 ∨ b = 7 ∨ b = 11 ∨ b = 25) (hi : i < 8) (hj : j < 8) (e : sg f b i = sg f b j) : i = j := by
  have q : ((f + b * i) % 26).toNat = ((f + b * j) % 26).toNat := by
    unfold sg at e
    injection e with e
    have := congrArg Array.toList e
    simp at this
    exact this
  rcases hb with rfl | rfl | rfl | rfl | rfl <;> omega
def bys : List IV := [.int 1, .int 3, .int 7, .int 11, .int 25]
theorem bys_mem {x : IV} (e : x ∈ bys) : ∃ b : Int, x = .int b ∧ (b = 1 ∨ b = 3 ∨ b = 7 ∨ b = 11 ∨ b = 25) := by
  unfold bys at e
  simp at e
  rcases e with rfl | rfl | rfl | rfl | rfl <;> exact ⟨_, rfl, by simp⟩
def rowS (f b : Int) : List Str := (List.range 8).map (sg f b)
theorem srange_map (n i : Nat) (h : IH) : SRange 0 n h i = some ((List.range n).map fun k : Nat => IV.int k)[i]? := by
  unfold SRange
  by_cases c : i < n
  · rw [if_pos c]; simp [c]
  · rw [if_neg c]; simp [c]
/-- the first three statements -/
theorem tags_1 {h : IH} {u c many : Nat} (U : Ur h u (c + 2)) (hm : many ≤ 8) : ∃ f b h2, (b = 1 ∨ b = 3 ∨ b = 7 ∨ b = 11 ∨ b = 25) ∧ Ur h2 u c ∧ GrX u h h2 ∧ h.length ≤ h2.length ∧
    (∀ R : Iv.Env → M Fl, SeqS (AsgS (Cst (.str "abcdefghijklmnopqrstuvwxyz")) (TgN 2))
    (SeqS (AsgS (Tup (Cons (CallF 2 F__law_take (Cons (Var 0) (Cons (Cst (.int 26)) Nil))) (Cons (CallF 2 F__law_of (Cons (Var 0) (Cons (Lst (Cons (Cst (.int 1)) (Cons (Cst (.int 3)) (Cons (Cst (.int 7)) (Cons (Cst (.int 11)) (Cons (Cst (.int 25)) Nil)))))) Nil))) Nil))) (TgUn 2 (TgCons (TgN 3) (TgCons (TgN 4) TgNil)))) R)
      [some (.ref u), some (.int many), none, none, none, none, none, none, none, none] h =
    R [some (.ref u), some (.int many), some (.str signs), some (.int f), some (.int b), none, none, none, none, none] h2) := by
  obtain ⟨x, h1, q, f, rfl, f0, f1, U1, G1, L1⟩ := take_ok (c := c + 1) (n := 26) U (by omega) (by omega)
  have e1 : (h1 ++ [.lst bys])[h1.length]? = some (.lst bys) := by simp
  obtain ⟨y, h2, q2, m, U2, G2, L2⟩ := of_ok (h := h1 ++ [.lst bys]) (l := h1.length) (c := c) (xs := bys) (by have := U1.lt; omega) (U1.to (by rw [List.getElem?_append_left U1.lt])) e1 (by decide) (by show 5 < 1000000; omega)
  obtain ⟨b, rfl, hb⟩ := bys_mem m
  refine ⟨f, b, h2, hb, U2, G1.pushx.trans G2, by rw [L2, List.length_append]; omega, fun R => ?_⟩
  refine (seq_nx (asg_ok (x := .str signs) rfl)).trans ((seq_nx ?_).trans rfl)
  have q2' : F__law_of [.ref u, .ref h1.length] (h1 ++ [.lst [.int 1, .int 3, .int 7, .int 11, .int 25]]) = some (.ok (.int b), h2) := q2
  simp [AsgS, Tup, Cons, CallF, Var, Cst, Nil, Lst, TgUn, TgCons, TgNil, TgN, M.bind, M.pure, noex_ok q, noex_ok q2', mkL_ok, seqI, le_lim]
/-- the row of signs -/
theorem tags_2 {h : IH} {u many : Nat} {f b : Int} {o6 o7 o8 o9 : Option IV} (hm : many ≤ 8) : AsgS (LcE LN (IterA rng1 (Cons (CallB max2 (Cons (Cst (.int 8)) (Cons (Var 1) Nil))) Nil)) (.n 8) YesT (Bin ixM (Var 2) (Bin modI (CallB intM (Cons (Bin addI (Var 3) (Bin mulI (Var 4) (Var 8))) Nil)) (Cst (.int 26)))) [8]) (TgN 5)
      [some (.ref u), some (.int many), some (.str signs), some (.int f), some (.int b), none, o6, o7, o8, o9] h =
    some (.ok (.nx [some (.ref u), some (.int many), some (.str signs), some (.int f), some (.int b), some (.ref h.length), o6, o7, o8, o9]), h ++ [.lst ((rowS f b).map .str)]) := by
  refine (asg_ok (x := .ref h.length) (h1 := h ++ [.lst ((rowS f b).map .str)]) ?_).trans rfl
  have mx : max2 [.int 8, .int many] h = some (.ok (.int (8 : Nat)), h) := by
    show M.pure (IV.int (if (many : Int) > 8 then (many : Int) else 8)) h = _
    rw [if_neg (by omega)]; rfl
  refine (lcE_pure (k := LN) ((List.range 8).map fun k : Nat => IV.int k) (fun _ => true) (fun x => match x with | .int k => .str (sg f b k.toNat) | x => x) (s := SRange 0 8) (h1 := h) ?_ (LN_ok (by simp)) (by simp) ?_ ?_).trans ?_
  · simp [IterA, Cons, CallB, Cst, Var, Nil, M.bind, M.pure, mx, rng1_ok (k := 8) (h := h) (by omega)]
    exact rng1_ok (k := 8) (by omega)
  · intro acc i; exact srange_map 8 i _
  · intro x hx
    obtain ⟨k, hk, rfl⟩ := List.mem_map.mp hx
    have hk8 : k < 8 := List.mem_range.mp hk
    refine ⟨_, rfl, fun acc => ⟨rfl, fun _ => ?_⟩⟩
    have m1 : mulOk b k = true := mulOk_r (by omega) (by omega)
    have m2 : 0 ≤ (f + b * k) % 26 := Int.emod_nonneg _ (by omega)
    have m3 : (f + b * k) % 26 < 26 := Int.emod_lt_of_pos _ (by omega)
    simp [wipeE, Bin, Var, Cst, CallB, Cons, Nil, M.bind, M.pure, mulI_int m1, addI_int, intM, modI_ok, signs_ix m2 m3, sg]
  · congr 5
theorem gr_set {h h' : IH} {n : Nat} {o : Iv.IO} (g : Gr h h') (e : h.length ≤ n) : Gr h (h'.set n o) := fun m p q => by
  have := (List.getElem?_eq_some_iff.mp q).1
  rw [List.getElem?_set_ne (by omega)]; exact g m p q
theorem sum_le {l : List Str} {k : Nat} (e : ∀ s ∈ l, s.length ≤ k) : (l.map (·.length)).sum ≤ l.length * k := by
  induction l with
  | nil => simp
  | cons s l ih =>
    have := ih fun s hs => e s (by simp [hs])
    have := e s (by simp)
    simp only [List.map_cons, List.sum_cons, List.length_cons]
    rw [Nat.add_mul]; omega
theorem sum_one {l : List Str} (e : ∀ s ∈ l, s.length = 1) : (l.map fun s : Str => s.length).sum = l.length := by
  induction l with
  | nil => rfl
  | cons s l ih =>
    have := ih fun s hs => e s (by simp [hs])
    have := e s (by simp)
    simp only [List.map_cons, List.sum_cons, List.length_cons]
    omega
theorem emp_len : (Str.ofString "").length = 0 := by decide +kernel
theorem emp_nil : (Str.ofString "").cps.toList = [] := by decide +kernel
def upto (f b : Int) (k : Nat) : Str := Txt.join "" ((rowS f b).take (k + 1))
theorem upto_len {f b : Int} {k : Nat} (h : k < 8) : (upto f b k).length = k + 1 := by
  rw [str_len]
  unfold upto
  rw [join_empty _ emp_nil, List.length_flatten, List.map_map]
  have : ((List.length ∘ fun s : Str => s.cps.toList)) = fun s : Str => s.length := by funext s; simp [str_len]
  rw [this, sum_one fun s hs => by
    obtain ⟨j, _, rfl⟩ := List.mem_map.mp (List.mem_of_mem_take hs)
    rfl]
  simp [rowS]
  omega
/-- the words that grow -/
theorem tags_3 {h : IH} {u many l : Nat} {f b : Int} (hm : many ≤ 8) (el : h[l]? = some (.lst ((rowS f b).map .str))) : Ok (LcE LN (IterA rng1 (Cons (Var 1) Nil)) (.n 8) YesT (Mth chkS joinM (Cst (.str "")) (Cons (Sl (Var 5) NoO (SoO (Bin addI (Var 8) (Cst (.int 1))))) Nil)) [8]
      [some (.ref u), some (.int many), some (.str signs), some (.int f), some (.int b), some (.ref l), none, none, none, none]) h fun v h' => v = .ref h.length ∧ h'[h.length]? = some (.lst (((List.range many).map (upto f b)).map .str)) ∧ Gr h h' := by
  refine (lcE_ok (k := LN) (n := many) (s := SRange 0 many) (h1 := h) (fun i acc h' => acc = ((List.range i).map (upto f b)).map .str ∧ h'[h.length]? = some (.lst acc) ∧ Gr h h') ?_ (LN_ok (by omega)) ⟨rfl, by simp, Gr.push _ _⟩ ?_ ?_).mono fun v h' ⟨e1, acc, e2, e3, e4⟩ => ⟨e1, by rw [e3, e2], e4⟩
  · have r := rng1_ok (k := many) (h := h) (by omega)
    show M.bind (Cons (Var 1) Nil _) rng1 h = _
    exact (bind_ok (x := [.int many]) (h1 := h) rfl).trans r
  · rintro i acc h' hi ⟨rfl, e2, e3⟩
    refine ⟨_, _, srange hi, rfl, true, h', rfl, ?_⟩
    show Ok _ _ _
    have el' := e3 _ _ el
    have cl : (cutI ((rowS f b).map .str) none (some ((i + 1 : Nat) : Int))) = ((rowS f b).take (i + 1)).map .str := by rw [cutI_to, List.map_take]
    have hsl : slM (.ref l) none (some ((i : Int) + 1)) h' = some (.ok (.ref h'.length), h' ++ [.lst (((rowS f b).take (i + 1)).map .str)]) := by
      have := sl_lst (lo := none) (hi := some ((i + 1 : Nat) : Int)) el' (by rw [cl]; simp; omega)
      rw [cl] at this
      simpa using this
    have hj : joinM (.str "") [.ref h'.length] (h' ++ [.lst (((rowS f b).take (i + 1)).map .str)]) = some (.ok (.str (upto f b i)), h' ++ [.lst (((rowS f b).take (i + 1)).map .str)]) :=
      join_lst emp_len (by simp) (Nat.le_trans (sum_le (k := 1) fun s hs => by
        obtain ⟨j, _, rfl⟩ := List.mem_map.mp (List.mem_of_mem_take hs)
        exact Nat.le_refl _) (by simp [rowS]; omega))
    have e2' : (h' ++ [.lst (((rowS f b).take (i + 1)).map .str)])[h.length]? = some (.lst (((List.range i).map (upto f b)).map .str)) := by
      rw [List.getElem?_append_left (List.getElem?_eq_some_iff.mp e2).1]; exact e2
    refine ⟨.str (upto f b i), h' ++ [.lst (((rowS f b).take (i + 1)).map .str)], ?_, e2', by simp; omega, ?_, ?_, ?_⟩
    · simp [-List.map_take, wipeE, Mth, chkS, Cst, Cons, Sl, Var, NoO, SoO, Bin, Nil, M.bind, M.pure, addI_int, asI, hsl, hj]
    · rw [List.range_succ]; simp
    · rw [List.getElem?_set_self (List.getElem?_eq_some_iff.mp e2').1]
    · exact gr_set (e3.trans (Gr.push _ _)) (Nat.le_refl _)
  · rintro acc h' _
    exact srange_end
end K02
set_option autoImplicit true
set_option Elab.async false
set_option linter.all false
set_option maxRecDepth 100000
set_option maxHeartbeats 600000
namespace K02
open PySem L2 Iv
def stems : List IV := [.int 0, .int 0, .int 1, .int 5, .int 7]
theorem stems_mem {x : IV} (e : x ∈ stems) : ∃ k : Nat, x = .int k ∧ k ≤ 7 := by
  unfold stems at e
  simp at e
  rcases e with rfl | rfl | rfl | rfl
  · exact ⟨0, rfl, by omega⟩
  · exact ⟨1, rfl, by omega⟩
  · exact ⟨5, rfl, by omega⟩
  · exact ⟨7, rfl, by omega⟩
theorem push_len {h : IH} {o : Iv.IO} : (h ++ [o])[h.length]? = some o := by simp
theorem Ur.push {h l : IH} {u c : Nat} (U : Ur h u c) : Ur (h ++ l) u c := U.to (List.getElem?_append_left U.lt)
/-- all signs are letters from a to z -/
def lows (s : Str) : Prop := ∀ c ∈ s.cps.toList, 97 ≤ c ∧ c ≤ 122
theorem lows_join {ss : List Str} (e : ∀ s ∈ ss, lows s) : lows (Txt.join "" ss) := by
  unfold lows
  rw [join_empty _ emp_nil]
  intro c hc
  obtain ⟨l, hl, hc⟩ := List.mem_flatten.mp hc
  obtain ⟨s, hs, rfl⟩ := List.mem_map.mp hl
  exact e s hs c hc
theorem lows_one {k : Nat} (e : 97 ≤ k ∧ k ≤ 122) : lows ⟨#[k]⟩ := by
  intro c hc
  simp at hc
  subst hc; exact e
theorem lows_sg {f b : Int} {k : Nat} : lows (sg f b k) := by
  have m2 : 0 ≤ (f + b * k) % 26 := Int.emod_nonneg _ (by omega)
  have m3 : (f + b * k) % 26 < 26 := Int.emod_lt_of_pos _ (by omega)
  exact lows_one (by omega)
theorem lows_upto {f b : Int} {k : Nat} : lows (upto f b k) := by
  unfold upto
  refine lows_join fun s hs => ?_
  obtain ⟨j, _, rfl⟩ := List.mem_map.mp (List.mem_of_mem_take hs)
  exact lows_sg
theorem tags_4 {h : IH} {u l c : Nat} {o1 o3 o4 o5 : Option IV} (U : Ur h u (c + 8)) : Ok (AsgS (Mth chkS joinM (Cst (.str "")) (Cons (LcE LN (IterA rng1 (Cons (CallF 2 F__law_of (Cons (Var 0) (Cons (Lst (Cons (Cst (.int 0)) (Cons (Cst (.int 0)) (Cons (Cst (.int 1)) (Cons (Cst (.int 5)) (Cons (Cst (.int 7)) Nil)))))) Nil))) Nil)) (.n 9) YesT (Bin ixM (Var 2) (CallF 2 F__law_take (Cons (Var 0) (Cons (Cst (.int 26)) Nil)))) [9]) Nil)) (TgN 6)
      [some (.ref u), o1, some (.str signs), o3, o4, o5, none, none, none, none]) h fun f h' => ∃ st : Str, f = .nx [some (.ref u), o1, some (.str signs), o3, o4, o5, some (.str st), none, none, none] ∧ st.length ≤ 7 ∧ lows st ∧ Ur h' u c ∧ GrX u h h' := by
  obtain ⟨y, h2, q2, m, U2, G2, L2⟩ := of_ok (h := h ++ [.lst stems]) (l := h.length) (c := c + 7) (xs := stems) (by have := U.lt; omega) U.push push_len (by decide) (by show 5 < 1000000; omega)
  obtain ⟨k, rfl, hk⟩ := stems_mem m
  have q2' : F__law_of [.ref u, .ref h.length] (h ++ [.lst [.int 0, .int 0, .int 1, .int 5, .int 7]]) = some (.ok (.int k), h2) := q2
  obtain ⟨v, h3, q3, rfl, acc, ss, rfl, e1, e2, e3, e4, e5⟩ := lcE_ok (k := LN) (n := k) (s := SRange 0 k) (h := h) (h1 := h2) (p := .n 9) (c := YesT) (vs := [9]) (el := Bin ixM (Var 2) (CallF 2 F__law_take (Cons (Var 0) (Cons (Cst (.int 26)) Nil))))
    (env := [some (.ref u), o1, some (.str signs), o3, o4, o5, none, none, none, none])
    (src := IterA rng1 (Cons (CallF 2 F__law_of (Cons (Var 0) (Cons (Lst (Cons (Cst (.int 0)) (Cons (Cst (.int 0)) (Cons (Cst (.int 1)) (Cons (Cst (.int 5)) (Cons (Cst (.int 7)) Nil)))))) Nil))) Nil))
    (fun i acc h' => ∃ ss : List Str, acc = ss.map .str ∧ ss.length = i ∧ (∀ s ∈ ss, s.length = 1 ∧ lows s) ∧ h'[h2.length]? = some (.lst acc) ∧ Ur h' u (c + (7 - i)) ∧ GrX u h2 h')
    (by
      have r := rng1_ok (k := k) (h := h2) (by omega)
      show M.bind _ rng1 h = _
      refine (bind_ok (x := [.int k]) (h1 := h2) ?_).trans r
      simp [Cons, CallF, Var, Lst, Cst, Nil, M.bind, M.pure, mkL_ok, noex_ok q2'])
    (LN_ok (by omega)) ⟨[], rfl, rfl, by simp, push_len, U2.push, (GrX.refl u h2).pushx⟩
    (by
      rintro i acc h' hi ⟨ss, rfl, a1, a2, a3, a4, a5⟩
      obtain ⟨x, h4, q4, r, rfl, r0, r1, U4, G4, L4⟩ := take_ok (c := c + (7 - (i + 1))) (n := 26) (a4.le (by omega)) (by omega) (by omega)
      refine ⟨_, _, srange hi, rfl, true, h', rfl, ?_⟩
      show Ok _ _ _
      have hu2 := U2.lt
      have b1 := G4 h2.length _ (by omega) a3
      refine ⟨.str ⟨#[97 + r.toNat]⟩, h4, ?_, b1, ?_, ss ++ [⟨#[97 + r.toNat]⟩], ?_, ?_, ?_, ?_, ?_, ?_⟩
      · simp [wipeE, Bin, Var, CallF, Cons, Cst, Nil, M.bind, M.pure, noex_ok q4, signs_ix r0 r1]
      · rw [List.length_map]; omega
      · simp
      · simp [a1]
      · intro s hs
        rcases List.mem_append.mp hs with hs | hs
        · exact a2 s hs
        · rw [List.mem_singleton.mp hs]; exact ⟨rfl, lows_one (by omega)⟩
      · rw [List.getElem?_set_self (List.getElem?_eq_some_iff.mp b1).1]
      · exact U4.set (by omega)
      · exact (a5.trans G4).setx (Nat.le_refl _))
    (by
      rintro acc h' _
      exact srange_end)
  have hj := join_lst (g := Str.ofString "") (zs := ss) emp_len e3 (by rw [sum_one fun s hs => (e2 s hs).1]; omega)
  refine ⟨_, h3, asg_ok (x := .str (Txt.join "" ss)) ?_, Txt.join "" ss, rfl, ?_, lows_join fun s hs => (e2 s hs).2, e4.le (by omega), GrX.trans (GrX.trans (GrX.pushx (GrX.refl u h)) G2) e5⟩
  · have q3' := noex_ok (m := LcE LN _ (.n 9) YesT _ [9] _) q3
    simp [Mth, chkS, Cst, Cons, Nil, M.bind, M.pure, q3, hj]
  · rw [str_len, join_empty _ emp_nil, List.length_flatten, List.map_map]
    have : ((List.length ∘ fun s : Str => s.cps.toList)) = fun s : Str => s.length := by funext s; simp [str_len]
    rw [this, sum_one fun s hs => (e2 s hs).1]; omega
end K02
set_option autoImplicit true
set_option Elab.async false
set_option linter.all false
set_option maxRecDepth 100000
set_option maxHeartbeats 600000
namespace K02
open PySem L2 Iv
def word (st : Str) (p : Nat) (f b : Int) (k : Nat) : Str := cutS st none (some (p : Int)) ++ sg f b k ++ cutS st (some (p : Int)) none
theorem word_list (st : Str) (p : Nat) (f b : Int) (k : Nat) : (word st p f b k).cps.toList = st.cps.toList.take p ++ (sg f b k).cps.toList ++ st.cps.toList.drop p := by
  unfold word
  rw [str_app, str_app, cutS_to, cutS_from]
theorem lows_word {st : Str} {p : Nat} {f b : Int} {k : Nat} (e : lows st) : lows (word st p f b k) := by
  unfold lows
  rw [word_list]
  intro c hc
  rcases List.mem_append.mp hc with hc | hc
  · rcases List.mem_append.mp hc with hc | hc
    · exact e c (List.mem_of_mem_take hc)
    · exact lows_sg c hc
  · exact e c (List.mem_of_mem_drop hc)
theorem word_size {st : Str} {p : Nat} {f b : Int} {k : Nat} (e : st.length ≤ 7) : 1 ≤ (word st p f b k).length ∧ (word st p f b k).length ≤ 8 := by
  have l1 : (sg f b k).cps.toList.length = 1 := rfl
  rw [str_len] at e
  rw [str_len, word_list, List.length_append, List.length_append, List.length_take, List.length_drop, l1]
  omega
/-- a NAME -/
def NameOk (s : Str) : Prop := lows s ∧ 1 ≤ s.length ∧ s.length ≤ 8
theorem word_ne {st : Str} {p : Nat} {f b : Int} {i j : Nat} (hb : b = 1 ∨ b = 3 ∨ b = 7 ∨ b = 11 ∨ b = 25) (hi : i < 8) (hj : j < 8) (e : word st p f b i = word st p f b j) : i = j := by
  have q := congrArg (fun s : Str => s.cps.toList) e
  simp only [word_list, List.append_assoc] at q
  have q2 := List.append_cancel_left q
  have q3 := List.append_cancel_right q2
  exact sg_ne hb hi hj (str_ext q3)
theorem row_at {f b : Int} {h : IH} {l k : Nat} (el : h[l]? = some (.lst ((rowS f b).map .str))) (hk : k < 8) : ixM (.ref l) (.int k) h = some (.ok (.str (sg f b k)), h) := by
  refine ix_lst el ?_
  rw [atI_nn (by omega) (by simp [rowS]; omega)]
  simp [rowS, hk]
theorem nodup_map {l : List Nat} {g : Nat → Str} (hl : l.Nodup) (hg : ∀ i ∈ l, ∀ j ∈ l, g i = g j → i = j) : (l.map g).Nodup := by
  induction l with
  | nil => exact .nil
  | cons a l ih =>
    rw [List.map_cons, List.nodup_cons]
    rw [List.nodup_cons] at hl
    refine ⟨fun m => ?_, ih hl.2 fun i hi j hj => hg i (by simp [hi]) j (by simp [hj])⟩
    obtain ⟨j, hj, e⟩ := List.mem_map.mp m
    have := hg j (by simp [hj]) a (by simp) e
    subst this
    exact hl.1 hj
theorem tags_5 {h : IH} {u l many p : Nat} {st : Str} {f b : Int} {o2 o3 o4 : Option IV} (hm : many ≤ 8) (hs : st.length ≤ 7) (el : h[l]? = some (.lst ((rowS f b).map .str))) :
    LcE LN (IterA rng1 (Cons (Var 1) Nil)) (.n 8) YesT (Bin addI (Bin addI (Sl (Var 6) NoO (SoO (Var 7))) (Bin ixM (Var 5) (Var 8))) (Sl (Var 6) (SoO (Var 7)) NoO)) [8]
      [some (.ref u), some (.int many), o2, o3, o4, some (.ref l), some (.str st), some (.int p), none, none] h =
    some (.ok (.ref h.length), h ++ [.lst (((List.range many).map (word st p f b)).map .str)]) := by
  have hl := (List.getElem?_eq_some_iff.mp el).1
  refine (lcE_pure (k := LN) ((List.range many).map fun k : Nat => IV.int k) (fun _ => true) (fun x => match x with | .int k => .str (word st p f b k.toNat) | x => x) (s := SRange 0 many) (h1 := h) ?_ (LN_ok (by simp; omega)) (by simp; omega) ?_ ?_).trans ?_
  · have r := rng1_ok (k := many) (h := h) (by omega)
    show M.bind (Cons (Var 1) Nil _) rng1 h = _
    exact (bind_ok (x := [.int many]) (h1 := h) rfl).trans r
  · intro acc i; exact srange_map many i _
  · intro x hx
    obtain ⟨k, hk, rfl⟩ := List.mem_map.mp hx
    have hk8 : k < many := List.mem_range.mp hk
    refine ⟨_, rfl, fun acc => ⟨rfl, fun _ => ?_⟩⟩
    have el' : (h ++ [Iv.IO.lst acc])[l]? = some (.lst ((rowS f b).map .str)) := by rw [List.getElem?_append_left hl]; exact el
    have c1 : (cutS st none (some (p : Int))).length ≤ 7 := by
      rw [str_len, cutS_to, List.length_take, ← str_len]; omega
    have c2 : (cutS st (some (p : Int)) none).length ≤ 7 := by
      rw [str_len, cutS_from, List.length_drop, ← str_len]; omega
    have c3 : (sg f b k).length = 1 := rfl
    have s1 := sl_str (s := st) (lo := none) (hi := some (p : Int)) (h := h ++ [Iv.IO.lst acc]) (by omega)
    have s2 := sl_str (s := st) (lo := some (p : Int)) (hi := none) (h := h ++ [Iv.IO.lst acc]) (by omega)
    have a1 := addI_str (h := h ++ [Iv.IO.lst acc]) (a := cutS st none (some (p : Int))) (b := sg f b k) (by omega)
    have a2 := addI_str (h := h ++ [Iv.IO.lst acc]) (a := cutS st none (some (p : Int)) ++ sg f b k) (b := cutS st (some (p : Int)) none) (by rw [app_len]; omega)
    have r1 := row_at el' (k := k) (by omega)
    simp [wipeE, Bin, Var, Sl, NoO, SoO, asI, M.bind, M.pure, s1, s2, a1, a2, r1, word]
  · rw [List.filter_eq_self.mpr (fun _ _ => rfl), List.map_map, List.map_map]
    rfl
/-- names that differ -/
def Words (h' : IH) (v : IV) (n0 many : Nat) : Prop := ∃ (m : Nat) (ss : List Str), v = .ref m ∧ n0 ≤ m ∧ h'[m]? = some (.lst (ss.map .str)) ∧ ss.length = many ∧ ss.Nodup ∧ ∀ s ∈ ss, NameOk s
theorem sort_words {h : IH} {n n0 many : Nat} {ss : List Str} (e : h[n]? = some (.lst (ss.map .str))) (hl : ss.length = many) (hm : many ≤ 8) (hd : ss.Nodup) (ho : ∀ s ∈ ss, NameOk s) (hn : n0 ≤ h.length) : Ok (sortM [.ref n]) h fun v h' => Words h' v n0 many ∧ Gr h h' := by
  obtain ⟨zs, p, q⟩ := sort_strs e (by omega)
  exact ⟨_, _, q, ⟨h.length, zs, rfl, hn, push_len, by rw [p.length_eq]; exact hl, p.symm.nodup hd, fun s hs => ho s (p.mem_iff.mp hs)⟩, Gr.push _ _⟩
theorem tags_ok {h : IH} {u c many : Nat} (U : Ur h u (c + 12)) (hm : many ≤ 8) : Ok (F__law_tags [.ref u, .int many]) h fun v h' => Words h' v h.length many ∧ Ur h' u c ∧ GrX u h h' := by
  obtain ⟨f, b, h2, hb, U2, G2, L2, e2⟩ := tags_1 (c := c + 10) (many := many) U hm
  have hu2 := U2.lt
  have el : (h2 ++ [Iv.IO.lst ((rowS f b).map .str)])[h2.length]? = some (.lst ((rowS f b).map .str)) := push_len
  obtain ⟨x, h4, q4, r, rfl, r0, r1, U4, G4, L4⟩ := take_ok (h := h2 ++ [Iv.IO.lst ((rowS f b).map .str)]) (c := c + 9) (n := 4) (U2.push.le (by omega)) (by omega) (by omega)
  have el4 := G4 h2.length _ (by omega) el
  rw [List.length_append] at L4
  have G04 : GrX u h h4 := (GrX.pushx G2).trans G4
  have two := tags_2 (h := h2) (u := u) (many := many) (f := f) (b := b) (o6 := none) (o7 := none) (o8 := none) (o9 := none) hm
  by_cases hr : r = 0
  · subst hr
    obtain ⟨v, h5, q5, rfl, e5, g5⟩ := tags_3 (u := u) (many := many) (l := h2.length) (f := f) (b := b) hm el4
    obtain ⟨v6, h6, q6, w6, g6⟩ := sort_words (n0 := h.length) e5 (by simp) hm (nodup_map List.nodup_range fun i hi j hj e => by
      have hi := List.mem_range.mp hi
      have hj := List.mem_range.mp hj
      have := congrArg Str.length e
      rw [upto_len (by omega), upto_len (by omega)] at this
      omega) (fun s hs => by obtain ⟨j, hj, rfl⟩ := List.mem_map.mp hs; have := List.mem_range.mp hj; have l := upto_len (f := f) (b := b) (k := j) (by omega); exact ⟨lows_upto, by omega, by omega⟩) (by have := Gr.x (u := u) g5; have := (G04.trans this).le ((U4.gr g5).lt); omega)
    refine ⟨v6, h6, fn_rt (h1 := h6) ?_, w6, ((U4.gr g5).gr g6).le (by omega), (G04.trans g5.x).trans g6.x⟩
    refine (e2 _).trans ((seq_nx two).trans ?_)
    have hm9 : decide ((many : Int) < 9) = true := decide_eq_true (by omega)
    have ht : Tst (Bin ltI (Var 1) (Cst (.int 9))) [some (.ref u), some (.int many), some (.str signs), some (.int f), some (.int b), some (.ref h2.length), none, none, none, none] (h2 ++ [.lst ((rowS f b).map .str)]) = some (.ok true, h2 ++ [.lst ((rowS f b).map .str)]) := by
      rw [← hm9]; exact tst_ok (bin_ok (x := .int many) (y := .int 9) rfl rfl lt_int)
    exact seq_rt (ifS_tt (h1 := h4) (and_tt ht (tst_ok (k := true) (bin_ok (x := .int 0) (y := .int 0) (callF_ok (two_ok (x := .ref u) (y := .int 4) rfl rfl) rfl q4) rfl eqI_int))) (ret_ok (callB_ok (one_ok q5) q6)))
  · obtain ⟨fl, h5, q5, st, rfl, hs, hso, U5, G5⟩ := tags_4 (c := c + 1) (l := 0) (o1 := some (.int many)) (o3 := some (.int f)) (o4 := some (.int b)) (o5 := some (.ref h2.length)) (U4.le (by omega))
    obtain ⟨x, h6, q6, p, rfl, p0, p1, U6, G6, L6⟩ := take_ok (c := c) (n := st.length + 1) U5 (by omega) (by omega)
    have ep : ((p.toNat : Nat) : Int) = p := Int.toNat_of_nonneg p0
    have el6 := G6 h2.length _ (by omega) (G5 h2.length _ (by omega) el4)
    have q7 := tags_5 (u := u) (p := p.toNat) (o2 := some (.str signs)) (o3 := some (.int f)) (o4 := some (.int b)) hm hs el6
    rw [ep] at q7
    have G06 : GrX u h h6 := (G04.trans G5).trans G6
    obtain ⟨v8, h8, q8, w8, g8⟩ := sort_words (n0 := h.length) (h := h6 ++ [.lst (((List.range many).map (word st p.toNat f b)).map .str)]) push_len (by simp) hm (nodup_map List.nodup_range fun i hi j hj e => word_ne hb (by have := List.mem_range.mp hi; omega) (by have := List.mem_range.mp hj; omega) e) (fun s hs => by obtain ⟨j, _, rfl⟩ := List.mem_map.mp hs; exact ⟨lows_word hso, word_size ‹st.length ≤ 7›⟩)
      (by rw [List.length_append]; have := G06.le U6.lt; omega)
    refine ⟨v8, h8, fn_rt (h1 := h8) ?_, w8, U6.push.gr g8, (GrX.pushx G06).trans g8.x⟩
    refine (e2 _).trans ((seq_nx two).trans ?_)
    have hm9 : decide ((many : Int) < 9) = true := decide_eq_true (by omega)
    have ht : Tst (Bin ltI (Var 1) (Cst (.int 9))) [some (.ref u), some (.int many), some (.str signs), some (.int f), some (.int b), some (.ref h2.length), none, none, none, none] (h2 ++ [.lst ((rowS f b).map .str)]) = some (.ok true, h2 ++ [.lst ((rowS f b).map .str)]) := by
      rw [← hm9]; exact tst_ok (bin_ok (x := .int many) (y := .int 9) rfl rfl lt_int)
    have hz : decide (r = 0) = false := decide_eq_false hr
    have q3 : IfS (AndT (Tst (Bin ltI (Var 1) (Cst (.int 9)))) (Tst (Bin eqI (CallF 2 F__law_take (Cons (Var 0) (Cons (Cst (.int 4)) Nil))) (Cst (.int 0))))) (RetS (CallB sortM (Cons (LcE LN (IterA rng1 (Cons (Var 1) Nil)) (.n 8) YesT (Mth chkS joinM (Cst (.str "")) (Cons (Sl (Var 5) NoO (SoO (Bin addI (Var 8) (Cst (.int 1))))) Nil)) [8]) Nil))) NextS
        [some (.ref u), some (.int many), some (.str signs), some (.int f), some (.int b), some (.ref h2.length), none, none, none, none] (h2 ++ [.lst ((rowS f b).map .str)]) = some (.ok (.nx [some (.ref u), some (.int many), some (.str signs), some (.int f), some (.int b), some (.ref h2.length), none, none, none, none]), h4) := by
      refine ifS_ff (h1 := h4) (and_tt ht ?_) rfl
      rw [← hz]
      exact (tst_ok (k := decide (r = 0)) (bin_ok (x := .int r) (y := .int 0) (callF_ok (two_ok (x := .ref u) (y := .int 4) rfl rfl) rfl q4) rfl eqI_int))
    refine (seq_nx q3).trans ((seq_nx q5).trans ((seq_nx (asg_ok (x := .int p) (h1 := h6) ?_)).trans (ret_ok ?_)))
    · exact callF_ok (two_ok (x := .ref u) (y := .int (st.length + 1)) rfl (bin_ok (x := .int st.length) (y := .int 1) (callB_ok (one_ok (x := .str st) rfl) (len_str (by omega))) rfl rfl)) rfl q6
    · exact callB_ok (one_ok q7) q8
end K02
set_option autoImplicit true
set_option Elab.async false
set_option linter.all false
set_option maxRecDepth 100000
set_option maxHeartbeats 1000000
namespace K02
open PySem L2 Iv
/-! sorted -/
theorem sort_gen {α : Type} {h : IH} {n : Nat} {l : List α} {v : α → IV} {d : α → PyData} (e : h[n]? = some (.lst (l.map v))) (enc : (l.map v).mapM (encH h 66) = some (l.map d)) (ha : alikeB (l.map d) = true) (hs : sortableB (l.map d) = true) (hd : ((l.map d).all fun d => decide (d.depth ≤ 60)) = true) (hl : l.length ≤ 100000) :
    sortM [.ref n] h = some (.ok (.ref h.length), h ++ [.lst ((l.mergeSort (PySem.W.dataLe false d)).map v)]) := by
  have hd2 : ((l.map d).all fun d => decide (d.depth ≤ depLim)) = true := by unfold depLim; exact hd
  have ez : (l.map v).zip (l.map d) = l.map fun a => (v a, d a) := by rw [List.zip_map']
  have em : ((l.map fun a => (v a, d a)).mergeSort (PySem.W.dataLe false fun p : IV × PyData => p.2)).map (fun p : IV × PyData => p.1) = (l.mergeSort (PySem.W.dataLe false d)).map v := by
    have q := List.map_mergeSort (r := PySem.W.dataLe false d) (s := PySem.W.dataLe false fun p : IV × PyData => p.2) (f := fun a => (v a, d a)) (l := l) (fun a _ b _ => rfl)
    rw [← q, List.map_map]; rfl
  show (match lstI h (.ref n) with
      | some xs => match xs.mapM (encH h 66) with
        | some ds => if alikeB ds = true ∧ sortableB ds = true ∧ (ds.all fun d => decide (d.depth ≤ depLim)) = true then mkL (((xs.zip ds).mergeSort (PySem.W.dataLe false fun p : IV × PyData => p.2)).map (fun p : IV × PyData => p.1)) h else none
        | none => none
      | none => none) = _
  rw [lst_lst e]
  simp only [enc]
  rw [if_pos ⟨ha, hs, hd2⟩, ez, em]
  exact mkL_ok (by rw [List.length_map, (List.mergeSort_perm _ _).length_eq]; exact hl)
def leS : Str → Str → Bool := PySem.W.dataLe false PyData.str
theorem leS_eq (a b : Str) : leS a b = !decide (b.cps.toList < a.cps.toList) := by
  show (!PySem.W.dataLt (.str b) (.str a)) = _
  rw [PySem.W.dataLt_str]
theorem leS_trans (a b c : Str) (h1 : leS a b = true) (h2 : leS b c = true) : leS a c = true := (PySem.W.sortLe_total (PyProof.Rows.listOrd PyProof.Rows.itemOrd) false fun b : Str => PySem.W.keyToks (.str b)).trans a b c h1 h2
theorem leS_total (a b : Str) : (leS a b || leS b a) = true := by
  rw [Bool.or_eq_true]
  exact (PySem.W.sortLe_total (PyProof.Rows.listOrd PyProof.Rows.itemOrd) false fun b : Str => PySem.W.keyToks (.str b)).total a b
theorem leS_anti (a b : Str) (h1 : leS a b = true) (h2 : leS b a = true) : a = b := by
  rw [leS_eq, Bool.not_eq_true', decide_eq_false_iff_not] at h1 h2
  exact str_ext (List.le_antisymm (show a.cps.toList ≤ b.cps.toList from h1) (show b.cps.toList ≤ a.cps.toList from h2))
def Asc (l : List Str) : Prop := l.Pairwise fun a b => leS a b = true
theorem asc_sort (l : List Str) : Asc (l.mergeSort leS) := List.pairwise_mergeSort leS_trans leS_total l
theorem asc_one {a b : List Str} (ha : Asc a) (p : a.Perm b) : a = b.mergeSort leS := PySem.W.Srt.the_of_perm leS leS_trans leS_total leS_anti p ha
theorem sort_strs2 {h : IH} {n : Nat} {ss : List Str} (e : h[n]? = some (.lst (ss.map .str))) (hl : ss.length ≤ 100000) : sortM [.ref n] h = some (.ok (.ref h.length), h ++ [.lst ((ss.mergeSort leS).map .str)]) := by
  refine sort_gen (v := IV.str) (d := PyData.str) e (enc_strs 65 ss) (alike_strs ss) ?_ ?_ hl
  · unfold sortableB
    rw [Bool.or_eq_true]; right
    rw [List.all_eq_true]
    intro d hd
    obtain ⟨s, _, rfl⟩ := List.mem_map.mp hd
    rfl
  · rw [List.all_eq_true]
    intro d hd
    obtain ⟨s, _, rfl⟩ := List.mem_map.mp hd
    rfl
/-- two nodup lists with the same members -/
theorem perm_nodup {α : Type} [DecidableEq α] : ∀ {a b : List α}, a.Nodup → b.Nodup → (∀ x, x ∈ a ↔ x ∈ b) → a.Perm b
  | [], b, _, _, k => by
    cases b with
    | nil => exact .refl _
    | cons y b => exact absurd ((k y).mpr (by simp)) (by simp)
  | x :: a, b, ha, hb, k => by
    rw [List.nodup_cons] at ha
    have hx : x ∈ b := (k x).mp (by simp)
    have p := List.perm_cons_erase hx
    refine .trans (.cons x (perm_nodup ha.2 (hb.erase x) fun y => ?_)) p.symm
    rw [hb.mem_erase_iff]
    constructor
    · intro hy
      have ne : y ≠ x := by rintro rfl; exact ha.1 hy
      exact ⟨ne, (k y).mp (by simp [hy])⟩
    · rintro ⟨ne, hy⟩
      have := (k y).mpr hy
      rcases List.mem_cons.mp this with rfl | z
      · exact absurd rfl ne
      · exact z
theorem perm_strs {ys : List IV} {ss : List Str} (p : ys.Perm (ss.map .str)) : ∃ zs : List Str, ys = zs.map .str ∧ zs.Perm ss := by
  have hm : ∀ y ∈ ys, ∃ s, y = IV.str s := fun y hy => by
    obtain ⟨s, _, e⟩ := List.mem_map.mp (p.mem_iff.mp hy)
    exact ⟨s, e.symm⟩
  have : ∃ zs : List Str, ys = zs.map .str := by
    clear p
    induction ys with
    | nil => exact ⟨[], rfl⟩
    | cons y ys ih =>
      obtain ⟨s, rfl⟩ := hm y (by simp)
      obtain ⟨zs, rfl⟩ := ih fun y hy => hm y (by simp [hy])
      exact ⟨s :: zs, rfl⟩
  obtain ⟨zs, rfl⟩ := this
  refine ⟨zs, rfl, ?_⟩
  have f : ∀ l : List Str, (l.map IV.str).filterMap (fun x => match x with | .str s => some s | _ => none) = l := fun l => by
    rw [List.filterMap_map]
    have : ((fun x => match x with | IV.str s => some s | _ => none) ∘ IV.str) = fun s : Str => some s := by funext s; rfl
    rw [this, List.filterMap_some]
  have := p.filterMap (fun x => match x with | .str s => some s | _ => none)
  rwa [f, f] at this
theorem names_ok {h : IH} {u c many : Nat} (U : Ur h u (c + many + 12)) (hm : many ≤ 8) : Ok (F__law_names [.ref u, .int many]) h fun v h' => Words h' v h.length many ∧ Ur h' u c ∧ GrX u h h' := by
  obtain ⟨v, h1, q1, ⟨m, ss, rfl, a1, a2, a3, a4, a5⟩, U1, G1⟩ := tags_ok U hm
  have ul := U.lt
  have hne : u ≠ m := by omega
  obtain ⟨v, h2, q2, m2, ys, rfl, b1, b2, b3, U2, G2⟩ := mixed_ok (c := c) (xs := ss.map .str) (l := m) hne (by rw [List.length_map, a3]; exact U1) a2 (by rw [List.length_map]; omega)
  obtain ⟨zs, rfl, p⟩ := perm_strs b3
  refine ⟨_, h2, fn_rt (ret_ok (callF_ok (two_ok (x := .ref u) (y := .ref m) rfl (callF_ok (two_ok (x := .ref u) (y := .int many) rfl rfl) rfl q1)) rfl q2)), ⟨m2, zs, rfl, Nat.le_trans (G1.le U1.lt) b1, b2, p.length_eq.trans a3, p.symm.nodup a4, fun s hs => a5 s (p.mem_iff.mp hs)⟩, U2, G1.trans G2⟩
/-- a row of a block -/
structure Row where
  name : Str
  reads : List Str
  slow : Bool
def Row.v (r : Row) : IV := .tup [.str r.name, .tup (r.reads.map .str), .bl r.slow]
def Row.d (r : Row) : PyData := .tuple [.str r.name, .tuple (r.reads.map .str), .bool r.slow]
theorem enc_row {h : IH} (r : Row) : encH h 66 r.v = some r.d := by
  have q : encH h 65 (.tup (r.reads.map .str)) = some (.tuple (r.reads.map .str)) := by
    show ((r.reads.map IV.str).mapM (encH h 64)).map PyData.tuple = _
    rw [enc_strs 63]; rfl
  show ([IV.str r.name, .tup (r.reads.map .str), .bl r.slow].mapM (encH h 65)).map PyData.tuple = _
  rw [List.mapM_cons, List.mapM_cons, List.mapM_cons, q]
  rfl
theorem enc_rows {h : IH} : ∀ q : List Row, (q.map Row.v).mapM (encH h 66) = some (q.map Row.d)
  | [] => rfl
  | r :: q => by
    show ((r.v :: q.map Row.v).mapM (encH h 66)) = _
    rw [List.mapM_cons, enc_row, enc_rows q]; rfl
theorem alike_strs2 : ∀ a b : List Str, PySem.W.alikeAll (a.map PyData.str) (b.map PyData.str) = true
  | [], _ => by simp [PySem.W.alikeAll]
  | _ :: _, [] => by simp [PySem.W.alikeAll]
  | x :: a, y :: b => by
    simp [PySem.W.alikeAll, PySem.W.alike]
    exact alike_strs2 a b
theorem alike_rows (a b : Row) : PySem.W.alike a.d b.d = true := by
  simp [Row.d, PySem.W.alike, PySem.W.alikeAll, alike_strs2]
theorem depth_strs : ∀ a : List Str, PyData.depthAll (a.map PyData.str) = 0
  | [] => rfl
  | x :: a => by
    have := depth_strs a
    simp [PyData.depthAll, PyData.depth, this]
theorem depth_row (a : Row) : a.d.depth ≤ 60 := by
  simp [Row.d, PyData.depth, PyData.depthAll, depth_strs]
def leR : Row → Row → Bool := PySem.W.dataLe false Row.d
theorem sort_rows {h : IH} {n : Nat} {q : List Row} (e : h[n]? = some (.lst (q.map Row.v))) (hl : q.length ≤ 100) : sortM [.ref n] h = some (.ok (.ref h.length), h ++ [.lst ((q.mergeSort leR).map Row.v)]) := by
  refine sort_gen (v := Row.v) (d := Row.d) e (enc_rows q) ?_ ?_ ?_ (by omega)
  · unfold alikeB
    rw [List.all_eq_true]
    intro d hd
    rw [List.all_eq_true]
    intro e he
    obtain ⟨x, _, rfl⟩ := List.mem_map.mp hd
    obtain ⟨y, _, rfl⟩ := List.mem_map.mp he
    exact alike_rows x y
  · unfold sortableB
    rw [Bool.or_eq_true]; left
    rw [List.all_eq_true]
    intro d hd
    obtain ⟨x, _, rfl⟩ := List.mem_map.mp hd
    rfl
  · rw [List.all_eq_true]
    intro d hd
    obtain ⟨x, _, rfl⟩ := List.mem_map.mp hd
    exact decide_eq_true (depth_row x)
/-- rows in order have names in order -/
theorem leR_name {a b : Row} (h : leR a b = true) : leS a.name b.name = true := by
  by_cases e : a.name = b.name
  · rw [e]
    have := leS_total b.name b.name
    simpa using this
  · have h' : (!PySem.W.dataLt b.d a.d) = true := h
    have q : PySem.W.dataLt b.d a.d = PySem.W.dataLt (.str b.name) (.str a.name) := by
      show PySem.W.dataLt (.tuple _) (.tuple _) = _
      rw [PySem.W.dataLt_tuple]
      refine PySem.W.dataLt_all_no (by simp [PySem.W.alike]) ?_
      simp [PyData.eqv]
      exact fun z => e z.symm
    show (!PySem.W.dataLt (.str b.name) (.str a.name)) = true
    rw [← q]; exact h'
theorem asc_rows (q : List Row) : Asc ((q.mergeSort leR).map Row.name) := by
  have tr : ∀ a b c : Row, leR a b = true → leR b c = true → leR a c = true := (PySem.W.sortLe_total (PyProof.Rows.listOrd PyProof.Rows.itemOrd) false fun b : Row => PySem.W.keyToks b.d).trans
  have tt : ∀ a b : Row, (leR a b || leR b a) = true := fun a b => by
    rw [Bool.or_eq_true]
    exact (PySem.W.sortLe_total (PyProof.Rows.listOrd PyProof.Rows.itemOrd) false fun b : Row => PySem.W.keyToks b.d).total a b
  exact List.pairwise_map.mpr ((List.pairwise_mergeSort tr tt q).imp fun h => leR_name h)
end K02
set_option autoImplicit true
set_option Elab.async false
set_option linter.all false
set_option maxRecDepth 100000
set_option maxHeartbeats 600000
namespace K02
open PySem L2 Iv
def five : List IV := [.int 0, .int 1, .int 1, .int 2, .int 3]
theorem five_mem {x : IV} (e : x ∈ five) : ∃ k : Nat, x = .int k ∧ k ≤ 3 := by
  unfold five at e
  simp at e
  rcases e with rfl | rfl | rfl | rfl
  · exact ⟨0, rfl, by omega⟩
  · exact ⟨1, rfl, by omega⟩
  · exact ⟨2, rfl, by omega⟩
  · exact ⟨3, rfl, by omega⟩
/-- each reads earlier ones, each once -/
def Goods : List Row → Prop := fun q => ∀ (i : Nat) (r : Row), q[i]? = some r → r.reads.Nodup ∧ ∀ s ∈ r.reads, s ∈ (q.take i).map Row.name
theorem Goods.snoc {q : List Row} {r : Row} (g : Goods q) (e1 : r.reads.Nodup) (e2 : ∀ s ∈ r.reads, s ∈ q.map Row.name) : Goods (q ++ [r]) := by
  intro i z hz
  rcases Nat.lt_or_ge i q.length with c | c
  · rw [List.getElem?_append_left c] at hz
    rw [List.take_append_of_le_length (by omega)]
    exact g i z hz
  · have hi : i = q.length := by
      have := (List.getElem?_eq_some_iff.mp hz).1
      simp at this; omega
    subst hi
    simp at hz
    subst hz
    simpa using ⟨e1, by simpa using e2⟩
theorem app_rows {q : List Row} {r : Row} : (q ++ [r]).map Row.v = q.map Row.v ++ [r.v] := by simp
/-- one turn of the block's loop -/
theorem block_turn {h : IH} {u nq nf c i : Nat} {names : List Str} {q : List Row} {name : Str} {o1 o4x : Option IV} (U : Ur h u (c + 10)) (hl : names.length ≤ 8) (hi : names[i]? = some name) (eq : h[nq]? = some (.lst (names.map .str))) (ef : h[nf]? = some (.lst (q.map Row.v))) (hq : q.map Row.name = names.take i) (hg : Goods q) (hn : names.Nodup) (huq : u ≠ nq) (huf : u ≠ nf) :
    Ok (SeqS (AsgS (Sl (CallF 2 F__law_mixed (Cons (Var 0) (Cons (Sl (Var 2) NoO (SoO (Var 4))) Nil))) NoO (SoO (CallF 2 F__law_of (Cons (Var 0) (Cons (Lst (Cons (Cst (.int 0)) (Cons (Cst (.int 1)) (Cons (Cst (.int 1)) (Cons (Cst (.int 2)) (Cons (Cst (.int 3)) Nil)))))) Nil))))) (TgN 6))
    (DropS (Mth chkL appM (Var 3) (Cons (Tup (Cons (Var 5) (Cons (CallB tupleM (Cons (CallB sortM (Cons (Var 6) Nil)) Nil)) (Cons (Bin eqI (CallF 2 F__law_take (Cons (Var 0) (Cons (Cst (.int 2)) Nil))) (Cst (.int 0))) Nil)))) Nil)))
      [some (.ref u), o1, some (.ref nq), some (.ref nf), some (.int i), some (.str name), o4x]) h fun f h' => ∃ (o : IV) (r : Row), f = .nx [some (.ref u), o1, some (.ref nq), some (.ref nf), some (.int i), some (.str name), some o] ∧ r.name = name ∧ Goods (q ++ [r]) ∧
        h'[nf]? = some (.lst ((q ++ [r]).map Row.v)) ∧ Ur h' u c ∧ ∀ n p, n ≠ u → n ≠ nf → h[n]? = some p → h'[n]? = some p := by
  have hil : i < names.length := (List.getElem?_eq_some_iff.mp hi).1
  have ul := U.lt
  have hfl := (List.getElem?_eq_some_iff.mp ef).1
  have c1 : cutI (names.map .str) none (some (i : Int)) = (names.take i).map IV.str := by rw [cutI_to, List.map_take]
  have s1 := sl_lst (lo := none) (hi := some (i : Int)) eq (by rw [c1]; simp; omega)
  rw [c1] at s1
  obtain ⟨v, hB, qB, m, ys, rfl, b1, b2, b3, UB, GB⟩ := mixed_ok (h := h ++ [.lst ((names.take i).map IV.str)]) (u := u) (l := h.length) (c := c + 2) (xs := (names.take i).map IV.str) (by omega) (U.push.le (by simp; omega)) push_len (by simp; omega)
  obtain ⟨zs, rfl, pz⟩ := perm_strs b3
  rw [List.length_append] at b1
  have hu0 : u ≠ hB.length := by have := UB.lt; omega
  obtain ⟨x, hD, qD, mD, UD, GD, LD⟩ := of_ok (h := hB ++ [.lst five]) (u := u) (l := hB.length) (c := c + 1) (xs := five) hu0 UB.push push_len (by decide) (by show 5 < 1000000; omega)
  obtain ⟨k, rfl, hk⟩ := five_mem mD
  have qD' : F__law_of [.ref u, .ref hB.length] (hB ++ [.lst [.int 0, .int 1, .int 1, .int 2, .int 3]]) = some (.ok (.int k), hD) := qD
  have mlt := (List.getElem?_eq_some_iff.mp b2).1
  have b2D : hD[m]? = some (.lst (zs.map .str)) := GD m _ (by omega) (by rw [List.getElem?_append_left mlt]; exact b2)
  have c2 : cutI (zs.map .str) none (some (k : Int)) = (zs.take k).map IV.str := by rw [cutI_to, List.map_take]
  have zl : zs.length ≤ 8 := by have := pz.length_eq; rw [List.length_take] at this; omega
  have s2 := sl_lst (lo := none) (hi := some (k : Int)) b2D (by rw [c2]; simp; omega)
  rw [c2] at s2
  obtain ⟨ws, pw, qw⟩ := sort_strs (h := hD ++ [.lst ((zs.take k).map IV.str)]) (n := hD.length) (ss := zs.take k) push_len (by simp; omega)
  have tw := tuple_lst (h := (hD ++ [.lst ((zs.take k).map IV.str)]) ++ [.lst (ws.map IV.str)]) (n := (hD ++ [Iv.IO.lst ((zs.take k).map IV.str)]).length) (xs := ws.map IV.str) push_len
  obtain ⟨x, hG, qG, r, rfl, r0, r1, UG, GG, LG⟩ := take_ok (h := (hD ++ [.lst ((zs.take k).map IV.str)]) ++ [.lst (ws.map IV.str)]) (u := u) (c := c) (n := 2) UD.push.push (by omega) (by omega)
  let row : Row := ⟨name, ws, decide (r = 0)⟩
  have G0 : GrX u h hG := ((GrX.pushx (GrX.pushx ((GrX.pushx ((GrX.pushx (GrX.refl u h)).trans GB)).trans GD))).trans GG)
  have efG := G0 nf _ (Ne.symm huf) ef
  have qlen : q.length ≤ 8 := by
    have := congrArg List.length hq
    rw [List.length_map, List.length_take] at this; omega
  have hap := app_lst (y := row.v) efG (by rw [List.length_map]; omega)
  refine ⟨_, hG.set nf (.lst (q.map Row.v ++ [row.v])), (seq_nx (asg_ok (x := .ref hD.length) (h1 := hD ++ [.lst ((zs.take k).map IV.str)]) ?_)).trans (drop_ok (x := .non) ?_), .ref hD.length, row, rfl, rfl, hg.snoc ?_ ?_, ?_, UG.set huf, ?_⟩
  · refine sl_to (x := .ref m) (h1 := hB) (callF_ok (two_ok (x := .ref u) rfl (sl_to (x := .ref nq) (j := i) rfl rfl s1)) rfl qB) (callF_ok (two_ok (x := .ref u) (y := .ref hB.length) (h1 := hB) (h2 := hB ++ [.lst five]) rfl ?_) rfl qD) s2
    exact lst_ok2 (xs := five) rfl (mkL_ok (by show 5 ≤ 100000; omega))
  · refine mth_ok (x := .ref nf) (h1 := hD ++ [.lst ((zs.take k).map IV.str)]) (h2 := hD ++ [.lst ((zs.take k).map IV.str)]) (h3 := hG) (xs := [row.v]) rfl ?_ ?_ hap
    · exact chk_lst (xs := q.map Row.v) (by
        rw [List.getElem?_append_left]
        · exact GD nf _ (Ne.symm huf) (by
            rw [List.getElem?_append_left]
            · exact GB nf _ (Ne.symm huf) (by rw [List.getElem?_append_left hfl]; exact ef)
            · exact (List.getElem?_eq_some_iff.mp (GB nf _ (Ne.symm huf) (by rw [List.getElem?_append_left hfl]; exact ef))).1)
        · have := (List.getElem?_eq_some_iff.mp (GB nf _ (Ne.symm huf) (by rw [List.getElem?_append_left hfl]; exact ef))).1
          rw [LD, List.length_append]; omega)
    · refine one_ok (tup_ok (xs := [.str name, .tup (ws.map .str), .bl (decide (r = 0))]) ?_ (by show 3 ≤ 100000; omega))
      refine cons_ok (x := .str name) rfl (cons_ok (callB_ok (one_ok (callB_ok (one_ok (x := .ref hD.length) rfl) qw)) tw) (one_ok (bin_ok (x := .int r) (y := .int 0) (callF_ok (two_ok (x := .ref u) (y := .int 2) rfl rfl) rfl qG) rfl eqI_int)))
  · exact pw.symm.nodup (List.Nodup.sublist (List.take_sublist k zs) (pz.symm.nodup (List.Nodup.sublist (List.take_sublist i names) hn)))
  · intro s hs
    rw [hq]
    exact pz.mem_iff.mp (List.mem_of_mem_take (pw.mem_iff.mp hs))
  · rw [List.getElem?_set_self (List.getElem?_eq_some_iff.mp efG).1, app_rows]
  · intro n p h1 h2 e
    rw [List.getElem?_set_ne (Ne.symm h2)]
    exact G0 n p h1 e
end K02
set_option autoImplicit true
set_option Elab.async false
set_option linter.all false
set_option maxRecDepth 100000
set_option maxHeartbeats 600000
namespace K02
open PySem L2 Iv
theorem senum_lst {h : IH} {n i : Nat} {xs : List IV} (e : h[n]? = some (.lst xs)) : SEnum (SLive n) h i = some (xs[i]?.map fun x => .tup [.int i, x]) := by
  unfold SEnum; rw [slive e]; rfl
/-- a drawn block -/
structure Blk (v : IV) (many : Nat) where
  q : List Row
  rows : List Row
  live : List Str
  eq : v = .tup [.tup (rows.map Row.v), .tup (live.map .str)]
  perm : rows.Perm q
  good : Goods q
  nodup : (q.map Row.name).Nodup
  ok : ∀ s ∈ q.map Row.name, NameOk s
  asc : Asc (rows.map Row.name)
  len : q.length = many
  lens : live.length ≤ many
theorem block_ok {h : IH} {u c many : Nat} (U : Ur h u (c + 12 * many + 12)) (hm : many ≤ 8) : Ok (F__law_block [.ref u, .int many]) h fun v h' => Nonempty (Blk v many) ∧ Ur h' u c ∧ GrX u h h' := by
  obtain ⟨v, h1, q1, ⟨nq, names, rfl, a1, a2, a3, a4, a5⟩, U1, G1⟩ := names_ok (c := c + 11 * many) (many := many) (U.le (by omega)) hm
  have ul := U.lt
  have u1 := U1.lt
  have nql := (List.getElem?_eq_some_iff.mp a2).1
  have hq0 : u ≠ nq := by omega
  have L1 := G1.le u1
  let env0 : Iv.Env := [some (.ref u), some (.int many), some (.ref nq), some (.ref h1.length), none, none, none]
  obtain ⟨f, h2, q2, env2, rfl, o4, o5, o6, q, rfl, b1, b2, b3, b4, U2, G2⟩ := forS_ok (src := IterA enumM (Cons (Var 2) Nil)) (s := SEnum (SLive nq)) (t := TgUn 2 (TgCons (TgN 4) (TgCons (TgN 5) TgNil)))
    (b := (SeqS (AsgS (Sl (CallF 2 F__law_mixed (Cons (Var 0) (Cons (Sl (Var 2) NoO (SoO (Var 4))) Nil))) NoO (SoO (CallF 2 F__law_of (Cons (Var 0) (Cons (Lst (Cons (Cst (.int 0)) (Cons (Cst (.int 1)) (Cons (Cst (.int 1)) (Cons (Cst (.int 2)) (Cons (Cst (.int 3)) Nil)))))) Nil))))) (TgN 6))
    (DropS (Mth chkL appM (Var 3) (Cons (Tup (Cons (Var 5) (Cons (CallB tupleM (Cons (CallB sortM (Cons (Var 6) Nil)) Nil)) (Cons (Bin eqI (CallF 2 F__law_take (Cons (Var 0) (Cons (Cst (.int 2)) Nil))) (Cst (.int 0))) Nil)))) Nil)))))
    (n := many) (k := LN) (env := env0) (h := h1 ++ [.lst []]) (h1 := h1 ++ [.lst []])
    (fun i env h' => ∃ o4 o5 o6 q, env = [some (.ref u), some (.int many), some (.ref nq), some (.ref h1.length), o4, o5, o6] ∧ q.map Row.name = names.take i ∧ Goods q ∧ h'[nq]? = some (.lst (names.map .str)) ∧ h'[h1.length]? = some (.lst (q.map Row.v)) ∧ Ur h' u (c + many + 10 * (many - i)) ∧ GrX u h h')
    (iterA_ok (one_ok (x := .ref nq) rfl) (enum_lst (xs := names.map .str) (by rw [List.getElem?_append_left nql]; exact a2)))
    (LN_ok (by omega))
    ⟨none, none, none, [], rfl, rfl, (by intro i r e; simp at e), (by rw [List.getElem?_append_left nql]; exact a2), by simp, U1.push.le (by omega), GrX.pushx G1⟩
    (by
      rintro i env h' hi ⟨o4, o5, o6, q, rfl, b1, b2, b3, b4, b5, b6⟩
      have hi' : i < names.length := by omega
      have e0 : names[i]? = some names[i] := List.getElem?_eq_getElem hi'
      obtain ⟨f, h3, q3, o, r, rfl, r1, r2, r3, r4, r5⟩ := block_turn (c := c + many + 10 * (many - (i + 1))) (o1 := some (.int many)) (o4x := o6) (b5.le (by omega)) (by omega) e0 b3 b4 b1 b2 a4 hq0 (by omega : u ≠ h1.length)
      refine ⟨.tup [.int i, .str names[i]], ?_, _, h3, (bind_ok (x := [some (.ref u), some (.int many), some (.ref nq), some (.ref h1.length), some (.int i), some (.str names[i]), o6]) (h1 := h') rfl).trans q3, _, .inl rfl, _, _, _, q ++ [r], rfl, ?_, r2, ?_, r3, r4, ?_⟩
      · rw [senum_lst b3, List.getElem?_map, e0]; rfl
      · rw [List.map_append, b1, List.take_succ, e0, List.map_cons, r1]; rfl
      · exact r5 nq _ (Ne.symm hq0) (by omega) b3
      · intro n p z e
        have := (List.getElem?_eq_some_iff.mp e).1
        exact r5 n p z (by omega) (b6 n p z e))
    (by
      rintro env h' ⟨o4, o5, o6, q, rfl, b1, b2, b3, b4, b5, b6⟩
      rw [senum_lst b3, List.getElem?_map, List.getElem?_eq_none (by omega)]; rfl)
  rw [List.take_of_length_le (by omega)] at b1
  have ql : q.length = many := by have := congrArg List.length b1; rw [List.length_map] at this; omega
  have hf0 : u ≠ h1.length := by omega
  -- the rows, sorted
  obtain ⟨rows, pr, qr, asr⟩ : ∃ rows : List Row, rows.Perm q ∧ sortM [.ref h1.length] h2 = some (.ok (.ref h2.length), h2 ++ [.lst (rows.map Row.v)]) ∧ Asc (rows.map Row.name) := ⟨_, List.mergeSort_perm q leR, sort_rows b4 (by omega), asc_rows q⟩
  have tr := tuple_lst (h := h2 ++ [.lst (rows.map Row.v)]) (n := h2.length) (xs := rows.map Row.v) push_len
  -- the live ones
  have b3' : (h2 ++ [Iv.IO.lst (rows.map Row.v)])[nq]? = some (.lst (names.map .str)) := by
    rw [List.getElem?_append_left (List.getElem?_eq_some_iff.mp b3).1]; exact b3
  obtain ⟨zs, pz, qz⟩ := sort_strs b3' (by omega)
  generalize eA : h2 ++ [Iv.IO.lst (rows.map Row.v)] = hA at *
  have UA : Ur hA u (c + many) := by rw [← eA]; exact U2.push.le (by omega)
  have GA : GrX u h hA := by rw [← eA]; exact GrX.pushx G2
  have hS : (hA ++ [Iv.IO.lst (zs.map IV.str)])[hA.length]? = some (.lst (zs.map .str)) := push_len
  have uA := UA.lt
  obtain ⟨v, h5, q5, rfl, acc, ls, rfl, c1, c2, c3, c4, c5⟩ := lcE_ok (k := LN) (n := many) (src := Iter (CallB sortM (Cons (Var 2) Nil))) (s := SLive hA.length) (h := hA) (h1 := hA ++ [.lst (zs.map .str)]) (p := .n 5) (vs := [5])
    (c := Tst (Bin eqI (CallF 2 F__law_take (Cons (Var 0) (Cons (Cst (.int 3)) Nil))) (Cst (.int 0)))) (el := Var 5) (env := [some (.ref u), some (.int many), some (.ref nq), some (.ref h1.length), o4, o5, o6])
    (fun i acc h' => ∃ ls : List Str, acc = ls.map .str ∧ ls.length ≤ i ∧ h'[hA.length]? = some (.lst (zs.map .str)) ∧ h'[(hA ++ [Iv.IO.lst (zs.map IV.str)]).length]? = some (.lst acc) ∧ Ur h' u (c + (many - i)) ∧ GrX u h h')
    (iter_ok (callB_ok (one_ok (x := .ref nq) rfl) qz) (src_lst hS)) (LN_ok (by omega))
    ⟨[], rfl, by simp, (by rw [List.getElem?_append_left (by simp)]; exact hS), push_len, UA.push.push.le (by omega), GrX.pushx (GrX.pushx GA)⟩
    (by
      rintro i acc h' hi ⟨ls, rfl, c1, c2, c3, c4, c5⟩
      have zl : zs.length = many := pz.length_eq.trans a3
      have hiz : i < zs.length := by omega
      obtain ⟨x, h6, q6, r, rfl, r0, r1, U6, G6, L6⟩ := take_ok (c := c + (many - (i + 1))) (n := 3) (c4.le (by omega)) (by omega) (by omega)
      have d2 := G6 hA.length _ (by omega) c2
      have d3 := G6 (hA ++ [Iv.IO.lst (zs.map IV.str)]).length _ (by rw [List.length_append]; omega) c3
      refine ⟨.str zs[i], _, by rw [slive c2, List.getElem?_map, List.getElem?_eq_getElem hiz]; rfl, rfl, decide (r = 0), h6, tst_ok (bin_ok (x := .int r) (y := .int 0) (callF_ok (two_ok (x := .ref u) (y := .int 3) rfl rfl) rfl q6) rfl eqI_int), ?_⟩
      show if decide (r = 0) = true then _ else _
      by_cases hr : r = 0
      · rw [if_pos (decide_eq_true hr)]
        refine ⟨.str zs[i], h6, rfl, d3, by rw [List.length_map]; omega, ls ++ [zs[i]], by simp, by simp; omega, ?_, ?_, U6.set (by rw [List.length_append]; omega), ?_⟩
        · rw [List.getElem?_set_ne (by rw [List.length_append]; simp)]; exact d2
        · rw [List.getElem?_set_self (List.getElem?_eq_some_iff.mp d3).1]
        · exact (c5.trans G6).setx (by rw [List.length_append]; have := GA.le uA; omega)
      · rw [if_neg (by simp [hr])]
        exact ⟨ls, rfl, by omega, d2, d3, U6, c5.trans G6⟩)
    (by
      rintro acc h' ⟨ls, rfl, c1, c2, c3, c4, c5⟩
      have zl : zs.length = many := pz.length_eq.trans a3
      rw [slive c2, List.getElem?_eq_none (by rw [List.length_map]; omega)])
  have tl := tuple_lst c3
  refine ⟨.tup [.tup (rows.map Row.v), .tup (ls.map .str)], h5, fn_rt ((seq_nx (env2 := env0) (h1 := h1 ++ [.lst []]) ?_).trans ((seq_nx q2).trans (ret_ok (tup_ok (cons_ok (callB_ok (one_ok (callB_ok (one_ok (x := .ref h1.length) rfl) qr)) tr) (one_ok (callB_ok (one_ok q5) tl))) (by show 2 ≤ 100000; omega))))), ⟨⟨q, rows, ls, rfl, pr, b2, by rw [b1]; exact a4, by rw [b1]; exact a5, asr, ql, c1⟩⟩, c4.le (by omega), c5⟩
  unfold ParS
  refine (bind_ok (two_ok (x := .ref nq) (y := .ref h1.length) (h1 := h1) (h2 := h1 ++ [.lst []]) (callF_ok (two_ok (x := .ref u) (y := .int many) rfl rfl) rfl q1) (lst_ok2 (xs := []) rfl (mkL_ok (by show 0 ≤ 100000; omega))))).trans rfl
end K02
set_option autoImplicit true
set_option Elab.async false
set_option linter.all false
set_option maxRecDepth 100000
set_option maxHeartbeats 600000
namespace K02
open PySem L2 Iv
theorem ge_int {i j : Int} {h : IH} : geI (.int i) (.int j) h = some (.ok (.bl (decide (j ≤ i))), h) := rfl
theorem pow_ok {i j : Int} {h : IH} (h0 : 0 ≤ j) (h1 : j ≤ 1000) (h2 : i.natAbs < 1000000) : powI (.int i) (.int j) h = some (.ok (.int (i ^ j.toNat)), h) := by
  refine intC_ok ?_
  unfold powOk powLim powBase
  simp [h0]
  omega
theorem mul_one_ok {i : Int} {b : Bool} {h : IH} : mulI (.int i) (.int (if b then 1 else 0)) h = some (.ok (.int (i * (if b then 1 else 0))), h) := by
  have : mulOk i (if b = true then 1 else 0) = true := mulOk_r (by cases b <;> simp <;> omega) (by cases b <;> simp <;> omega)
  rw [mulI_int this]; rfl
theorem box_ok {h : IH} {m k : Nat} {cs : List Int} (e : h[m]? = some (.lst (cs.map .int))) (hk : k < cs.length) (hk2 : k < 1000) : Ok (F__law_box [.ref m, .int k]) h fun v h' => v = .ref h.length ∧ Ur h' h.length 900000000 ∧ Gr h h' := by
  have ec : atI (cs.map IV.int) (k : Int) = some (.int cs[k]) := by
    rw [atI_nn (by omega) (by simp; exact hk)]; simp [hk]
  generalize cs[k] = c at ec
  have hk' : decide ((k : Int) < ((cs.map IV.int).length : Nat)) = true := by simp; exact hk
  have hb0 : 0 ≤ c % 2305843009213693951 := Int.emod_nonneg _ (by omega)
  have hb1 : c % 2305843009213693951 < 2305843009213693951 := Int.emod_lt_of_pos _ (by omega)
  have m1 : mulOk 39373 (k : Int) = true := mulOk_l (by omega) (by omega)
  refine ⟨.ref h.length, h ++ [.lst [.int ((if c < 0 then -c else c) * (if decide (10 ^ (18 : Int).toNat ≤ (if c < 0 then -c else c)) then 1 else 0)), .int (c % 2305843009213693951 + 39373 * k + 1052902), .int 0]], ?_, rfl, ?_, Gr.push _ _⟩
  · refine fn_rt ((seq_nx (asg_ok (x := .int c) (h1 := h) ?_)).trans (ret_ok (lst_ok2 (h1 := h) (cons_ok (h1 := h) ?_ (cons_ok (h1 := h) ?_ (one_ok (x := .int 0) rfl))) (mkL_ok (by show 3 ≤ 100000; omega)))))
    · refine ifE_tt (h1 := h) ?_ (bin_ok (x := .ref m) (y := .int k) rfl rfl (ix_lst e ec))
      rw [← hk']
      exact tst_ok (bin_ok (x := .int k) rfl (callB_ok (one_ok (x := .ref m) rfl) (len_lst e)) lt_int)
    · exact bin_ok (x := .int (if c < 0 then -c else c)) (callB_ok (one_ok (x := .int c) rfl) rfl) (callB_ok (one_ok (bin_ok (x := .int (if c < 0 then -c else c)) (callB_ok (one_ok (x := .int c) rfl) rfl) (bin_ok (x := .int 10) (y := .int 18) rfl rfl (pow_ok (by omega) (by omega) (by decide))) ge_int)) rfl) mul_one_ok
    · refine bin_ok (x := .int (c % 2305843009213693951 + 39373 * k)) (h1 := h) (bin_ok (x := .int (c % 2305843009213693951)) (y := .int (39373 * k)) (h1 := h) (h2 := h) (bin_ok (x := .int c) (y := .int 2305843009213693951) (h1 := h) (callB_ok (one_ok (x := .int c) rfl) rfl) rfl (modI_ok (by omega))) ?_ rfl) (y := .int 1052902) rfl rfl
      exact bin_ok (x := .int 39373) (y := .int k) rfl rfl (by rw [mulI_int m1]; rfl)
  · refine ⟨_, _, _, push_len, ?_, by omega, by omega, by omega, by omega⟩
    exact Int.mul_nonneg (by split <;> omega) (by split <;> omega)
end K02
set_option autoImplicit true
set_option Elab.async false
set_option linter.all false
set_option maxRecDepth 100000
set_option maxHeartbeats 600000
namespace K02
open PySem L2 Iv
theorem orV_tt {m n : Iv.Env → M IV} {env : Iv.Env} {h h1 : IH} {x : IV} (e : m env h = some (.ok x, h1)) (e2 : truM x h1 = some (.ok true, h1)) : OrV m n env h = some (.ok x, h1) := by
  unfold OrV; exact (bind_ok e).trans ((bind_ok e2).trans rfl)
theorem orV_ff {m n : Iv.Env → M IV} {env : Iv.Env} {h h1 : IH} {x : IV} {z : Option (Out IV × IH)} (e : m env h = some (.ok x, h1)) (e2 : truM x h1 = some (.ok false, h1)) (e3 : n env h1 = z) : OrV m n env h = z := by
  unfold OrV; exact (bind_ok e).trans ((bind_ok e2).trans e3)
theorem tru_lst {h : IH} {n : Nat} {xs : List IV} (e : h[n]? = some (.lst xs)) : truM (.ref n) h = some (.ok (!xs.isEmpty), h) := by
  show (match h[n]? with
    | some (.lst xs) => some (!xs.isEmpty)
    | some (.dic kvs) => some (!kvs.isEmpty)
    | some (.fdc _) => none
    | none => none).map (fun b => (Out.ok b, h)) = _
  simp only [e]; rfl
theorem set_lst {h : IH} {n : Nat} {xs : List IV} {k : Int} {v : IV} (e : h[n]? = some (.lst xs)) (h0 : 0 ≤ k) (h1 : k < xs.length) : setM (.ref n) (.int k) v h = some (.ok (), h.set n (.lst (xs.set k.toNat v))) := by
  show (match h[n]? with
    | some (.lst xs) => (match ixN xs.length k with
      | some j => some (Out.ok (), h.set n (.lst (xs.set j v)))
      | none => none)
    | some (.dic kvs) => (match keyI (.int k) with
      | some k => if kvs.length < lim then some (Out.ok (), h.set n (.dic (putI kvs k v))) else none
      | none => none)
    | some (.fdc _) => none
    | none => none) = _
  simp only [e]
  unfold ixN
  rw [if_pos h0, if_pos h1]
theorem tgSub_ok {o i : Iv.Env → M IV} {env : Iv.Env} {h h1 h2 h3 : IH} {x y v : IV} (e1 : o env h = some (.ok x, h1)) (e2 : i env h1 = some (.ok y, h2)) (e3 : setM x y v h2 = some (.ok (), h3)) : TgSub o i v env h = some (.ok env, h3) := by
  unfold TgSub; exact (bind_ok e1).trans ((bind_ok e2).trans ((bind_ok e3).trans rfl))
theorem sl_both {o a b : Iv.Env → M IV} {env : Iv.Env} {h h1 h2 h3 : IH} {x : IV} {j k : Int} {z : Option (Out IV × IH)} (e : o env h = some (.ok x, h1)) (e1 : a env h1 = some (.ok (.int j), h2)) (e2 : b env h2 = some (.ok (.int k), h3)) (e3 : slM x (some j) (some k) h3 = z) : Sl o (SoO a) (SoO b) env h = z := by
  have q1 : SoO a env h1 = some (.ok (some j), h2) := by unfold SoO; exact (bind_ok e1).trans rfl
  have q2 : SoO b env h2 = some (.ok (some k), h3) := by unfold SoO; exact (bind_ok e2).trans rfl
  unfold Sl; exact (bind_ok e).trans ((bind_ok q1).trans ((bind_ok q2).trans e3))
theorem cutI_map {ns : List Int} {lo hi : Option Int} : ∃ vs : List Int, cutI (ns.map IV.int) lo hi = vs.map .int ∧ vs.length ≤ ns.length ∧ ∀ k : Nat, lo = some (k : Int) → vs ≠ [] → k < ns.length := by
  refine ⟨(ns.drop (HT.sIx (ns.map IV.int).length 0 lo)).take (HT.sIx (ns.map IV.int).length (ns.map IV.int).length hi - HT.sIx (ns.map IV.int).length 0 lo), ?_, ?_, ?_⟩
  · unfold cutI; rw [List.map_take, List.map_drop]
  · simp only [List.length_take, List.length_drop]; omega
  · rintro k rfl hne
    rw [HT.sIx_nat, List.length_map] at hne
    rcases Nat.lt_or_ge k ns.length with c | c
    · exact c
    · exfalso; apply hne
      rw [Nat.min_eq_right c]; simp
theorem cells_ok {h : IH} {ns : List Int} {x : IV} (hn : ns.length ≤ 63) (hx : x = .fl (ns.map .int) ∨ x = .kl (ns.map .int)) : Ok (F__law_cells [x, .int 3]) h fun v h' => ∃ (m : Nat) (cs : List Int), v = .ref m ∧ h'[m]? = some (.lst (cs.map .int)) ∧ 0 < cs.length ∧ cs.length ≤ 3 := by
  have hsl : ∀ lo hi (h : IH), (cutI (ns.map IV.int) lo hi).length ≤ 100000 → slM x lo hi h = some (.ok (.ref h.length), h ++ [.lst (cutI (ns.map IV.int) lo hi)]) := by
    intro lo hi h e
    rcases hx with rfl | rfl <;> exact mkL_ok e
  have len_cut : ∀ lo hi, (cutI (ns.map IV.int) lo hi).length ≤ 63 := fun lo hi => by
    obtain ⟨vs, e, l, _⟩ := cutI_map (ns := ns) (lo := lo) (hi := hi)
    rw [e, List.length_map]; omega
  have c3 : cutI (ns.map IV.int) none (some 3) = (ns.take 3).map .int := by
    have := cutI_to (xs := ns.map IV.int) (k := 3)
    rw [List.map_take]; exact this
  have s1 := hsl none (some 3) h (by have := len_cut none (some 3); omega)
  rw [c3] at s1
  have l1 := list_lst (h := h ++ [.lst ((ns.take 3).map .int)]) (n := h.length) (xs := (ns.take 3).map .int) push_len (by simp; omega)
  -- the first cells
  have first : ∃ (n1 : Nat) (cs : List Int) (h1 : IH), OrV (CallB listM (Cons (Sl (Var 0) NoO (SoO (Var 1))) Nil)) (Lst (Cons (Cst (.int 0)) Nil)) [some x, some (.int 3), none, none, none, none] h = some (.ok (.ref n1), h1) ∧ h1[n1]? = some (.lst (cs.map .int)) ∧ 0 < cs.length ∧ cs.length ≤ 3 ∧ (3 < ns.length → cs.length = 3) := by
    have e1 := callB_ok (g := listM) (one_ok (sl_to (env := [some x, some (.int 3), none, none, none, none]) (o := Var 0) (a := Var 1) (x := x) (j := 3) rfl rfl s1)) l1
    have t1 := tru_lst (h := (h ++ [.lst ((ns.take 3).map .int)]) ++ [.lst ((ns.take 3).map .int)]) (n := (h ++ [Iv.IO.lst ((ns.take 3).map IV.int)]).length) (xs := (ns.take 3).map .int) push_len
    cases ns with
    | nil => exact ⟨_, [0], _, orV_ff e1 t1 (lst_ok2 (xs := [.int 0]) rfl (mkL_ok (by show 1 ≤ 100000; omega))), push_len, by simp, by simp, by simp⟩
    | cons n ns => exact ⟨_, (n :: ns).take 3, _, orV_tt e1 t1, push_len, by simp, by simp; omega, by simp; omega⟩
  obtain ⟨n1, cs, h1, q1, f1, f2, f3, f4⟩ := first
  obtain ⟨vs, ev, lv, bv⟩ := cutI_map (ns := ns) (lo := some 3) (hi := some 63)
  have s2 := hsl (some 3) (some 63) h1 (by have := len_cut (some 3) (some 63); omega)
  rw [ev] at s2
  have n1l := (List.getElem?_eq_some_iff.mp f1).1
  obtain ⟨f, h2, q2, env2, rfl, o3, o4, o5, cs2, rfl, b1, b2, b3⟩ := forS_ok (src := IterA enumM (Cons (Sl (Var 0) (SoO (Var 1)) (SoO (Cst (.int 63)))) Nil)) (s := SEnum (SLive h1.length)) (t := TgUn 2 (TgCons (TgN 3) (TgCons (TgN 4) TgNil)))
    (b := (SeqS (AsgS (Bin modI (CallB intM (Cons (Var 3) Nil)) (Var 1)) (TgN 5))
    (AsgS (Bin addI (Bin ixM (Var 2) (Var 5)) (Bin mulI (Var 4) (Bin addI (Var 3) (Cst (.int 2))))) (TgSub (Var 2) (Var 5)))))
    (n := vs.length) (k := LN) (env := [some x, some (.int 3), some (.ref n1), none, none, none]) (h := h1) (h1 := h1 ++ [.lst (vs.map .int)])
    (fun i env h' => ∃ (o3 o4 o5 : Option IV) (cs2 : List Int), env = [some x, some (.int 3), some (.ref n1), o3, o4, o5] ∧ cs2.length = cs.length ∧ h'[n1]? = some (.lst (cs2.map .int)) ∧ h'[h1.length]? = some (.lst (vs.map .int)))
    (iterA_ok (one_ok (sl_both (x := x) (j := 3) (k := 63) rfl rfl rfl s2)) (enum_lst push_len))
    (LN_ok (by omega))
    ⟨none, none, none, cs, rfl, rfl, by rw [List.getElem?_append_left n1l]; exact f1, push_len⟩
    (by
      rintro i env h' hi ⟨o3, o4, o5, cs2, rfl, b1, b2, b3⟩
      have hc : cs.length = 3 := f4 (bv 3 rfl (by intro e; rw [e] at hi; simp at hi))
      have e0 : (vs.map IV.int)[i]? = some (.int vs[i]) := by simp [hi]
      have m0 : 0 ≤ (i : Int) % 3 := Int.emod_nonneg _ (by omega)
      have m1 : (i : Int) % 3 < 3 := Int.emod_lt_of_pos _ (by omega)
      have lt3 : (i : Int) % 3 < ((cs2.map IV.int).length : Nat) := by rw [List.length_map]; omega
      have hj : ((i : Int) % 3).toNat < cs2.length := by omega
      have ea : atI (cs2.map IV.int) ((i : Int) % 3) = some (.int cs2[((i : Int) % 3).toNat]) := by
        rw [atI_nn m0 lt3]; simp [hj]
      have mo : mulOk vs[i] ((i : Int) + 2) = true := mulOk_r (by omega) (by omega)
      have st := set_lst (v := .int (cs2[((i : Int) % 3).toNat] + vs[i] * ((i : Int) + 2))) b2 m0 lt3
      have hne : n1 ≠ h1.length := by omega
      refine ⟨.tup [.int i, .int vs[i]], by rw [senum_lst b3, e0]; rfl, _, h'.set n1 (.lst ((cs2.map IV.int).set ((i : Int) % 3).toNat (.int (cs2[((i : Int) % 3).toNat] + vs[i] * ((i : Int) + 2))))), (bind_ok (x := [some x, some (.int 3), some (.ref n1), some (.int i), some (.int vs[i]), o5]) (h1 := h') rfl).trans ((seq_nx (env2 := [some x, some (.int 3), some (.ref n1), some (.int i), some (.int vs[i]), some (.int ((i : Int) % 3))]) (h1 := h') (asg_ok (bin_ok (x := .int i) (y := .int 3) (h1 := h') (callB_ok (one_ok (x := .int i) rfl) rfl) rfl (modI_ok (by omega))))).trans
        (asgT_ok (h1 := h') (x := .int (cs2[((i : Int) % 3).toNat] + vs[i] * ((i : Int) + 2))) (bin_ok (x := .int cs2[((i : Int) % 3).toNat]) (y := .int (vs[i] * ((i : Int) + 2))) (h1 := h') (h2 := h') (bin_ok (x := .ref n1) (y := .int ((i : Int) % 3)) rfl rfl (ix_lst b2 ea)) (bin_ok (x := .int vs[i]) (y := .int ((i : Int) + 2)) (h1 := h') (h2 := h') rfl (bin_ok (x := .int i) (y := .int 2) rfl rfl rfl) (by rw [mulI_int mo]; rfl)) rfl) (tgSub_ok (x := .ref n1) (y := .int ((i : Int) % 3)) rfl rfl st))), _, .inl rfl, _, _, _, cs2.set ((i : Int) % 3).toNat (cs2[((i : Int) % 3).toNat] + vs[i] * ((i : Int) + 2)), rfl, by rw [List.length_set]; exact b1, ?_, ?_⟩
      · rw [List.getElem?_set_self (List.getElem?_eq_some_iff.mp b2).1, List.map_set]
      · rw [List.getElem?_set_ne hne]; exact b3)
    (by
      rintro env h' ⟨o3, o4, o5, cs2, rfl, b1, b2, b3⟩
      rw [senum_lst b3, List.getElem?_eq_none (by rw [List.length_map]; omega)]; rfl)
  exact ⟨.ref n1, h2, fn_rt ((seq_nx (asg_ok q1)).trans ((seq_nx q2).trans (ret_ok (x := .ref n1) rfl))), n1, cs2, rfl, b2, by omega, by omega⟩
end K02
set_option autoImplicit true
set_option Elab.async false
set_option linter.all false
set_option maxRecDepth 100000
set_option maxHeartbeats 600000
namespace K02
open PySem L2 Iv
def atomI : IV → Bool
  | .non => true
  | .bl _ => true
  | .int _ => true
  | .str _ => true
  | _ => false
/-- plain data at most k deep -/
def Pd : Nat → IV → Prop
  | 0, _ => False
  | k + 1, .tup ys => ys.length < 100000 ∧ ∀ y ∈ ys, Pd k y
  | _ + 1, y => atomI y = true
mutual
/-- y, perhaps with lists (all at lo or above) for some tuples -/
inductive LR (lo : Nat) (h : IH) : IV → IV → Prop
  | atom {y : IV} : atomI y = true → LR lo h y y
  | ref {n : Nat} {xs ys : List IV} : lo ≤ n → h[n]? = some (.lst xs) → LRs lo h xs ys → LR lo h (.ref n) (.tup ys)
  | tup {xs ys : List IV} : LRs lo h xs ys → LR lo h (.tup xs) (.tup ys)
inductive LRs (lo : Nat) (h : IH) : List IV → List IV → Prop
  | nil : LRs lo h [] []
  | cons {x y : IV} {xs ys : List IV} : LR lo h x y → LRs lo h xs ys → LRs lo h (x :: xs) (y :: ys)
end
mutual
theorem LR.mono {lo lo' : Nat} {h h' : IH} (l : lo' ≤ lo) (g : ∀ n o, lo ≤ n → h[n]? = some o → h'[n]? = some o) : ∀ {x y : IV}, LR lo h x y → LR lo' h' x y
  | _, _, .atom a => .atom a
  | _, _, .ref a b c => .ref (by omega) (g _ _ a b) (LRs.mono l g c)
  | _, _, .tup c => .tup (LRs.mono l g c)
theorem LRs.mono {lo lo' : Nat} {h h' : IH} (l : lo' ≤ lo) (g : ∀ n o, lo ≤ n → h[n]? = some o → h'[n]? = some o) : ∀ {xs ys : List IV}, LRs lo h xs ys → LRs lo' h' xs ys
  | _, _, .nil => .nil
  | _, _, .cons a b => .cons (LR.mono l g a) (LRs.mono l g b)
end
theorem LRs.len {lo : Nat} {h : IH} : ∀ {xs ys : List IV}, LRs lo h xs ys → xs.length = ys.length
  | _, _, .nil => rfl
  | _, _, .cons _ b => by simp [LRs.len b]
theorem LRs.get {lo : Nat} {h : IH} : ∀ {xs ys : List IV}, LRs lo h xs ys → ∀ i (h1 : i < xs.length) (h2 : i < ys.length), LR lo h xs[i] ys[i]
  | _, _, .nil, i, h1, _ => by simp at h1
  | _, _, .cons a b, 0, _, _ => a
  | _, _, .cons a b, i + 1, h1, h2 => LRs.get b i (by simpa using h1) (by simpa using h2)
theorem LRs.snoc {lo : Nat} {h : IH} {x y : IV} (a : LR lo h x y) : ∀ {xs ys : List IV}, LRs lo h xs ys → LRs lo h (xs ++ [x]) (ys ++ [y])
  | _, _, .nil => .cons a .nil
  | _, _, .cons b c => .cons b (LRs.snoc a c)
mutual
theorem LR.self {lo : Nat} {h : IH} : ∀ (k : Nat) (y : IV), Pd k y → LR lo h y y
  | 0, y, p => p.elim
  | k + 1, .tup ys, p => .tup (LRs.self k ys p.2)
  | k + 1, .non, p => .atom rfl
  | k + 1, .bl _, p => .atom rfl
  | k + 1, .int _, p => .atom rfl
  | k + 1, .str _, p => .atom rfl
  | k + 1, .fl _, p => by cases p
  | k + 1, .kl _, p => by cases p
  | k + 1, .exo, p => by cases p
  | k + 1, .ref _, p => by cases p
theorem LRs.self {lo : Nat} {h : IH} (k : Nat) : ∀ (ys : List IV), (∀ y ∈ ys, Pd k y) → LRs lo h ys ys
  | [], _ => .nil
  | y :: ys, p => .cons (LR.self k y (p y (by simp))) (LRs.self k ys fun z hz => p z (by simp [hz]))
end
theorem isi_ref {env : Iv.Env} {h h1 : IH} {n : Nat} {xs : List IV} {m : Iv.Env → M IV} (e : m env h = some (.ok (.ref n), h1)) (e1 : h1[n]? = some (.lst xs)) : Isi [.lst, .tup] m env h = some (.ok (.bl true), h1) := by
  unfold Isi
  refine (bind_ok e).trans ?_
  have : tyI h1 (.ref n) = some .lst := by
    show (match h1[n]? with
    | some (.lst _) => some Ty.lst
    | some (.dic _) => some .dic
    | some (.fdc _) => none
    | none => none) = _
    simp only [e1]
  simp only [this]; rfl
theorem isi_tup {env : Iv.Env} {h h1 : IH} {xs : List IV} {m : Iv.Env → M IV} (e : m env h = some (.ok (.tup xs), h1)) : Isi [.lst, .tup] m env h = some (.ok (.bl true), h1) := by
  unfold Isi
  exact (bind_ok e).trans rfl
theorem isi_atom {env : Iv.Env} {h h1 : IH} {x : IV} {m : Iv.Env → M IV} (e : m env h = some (.ok x, h1)) (a : atomI x = true) : Isi [.lst, .tup] m env h = some (.ok (.bl false), h1) := by
  unfold Isi
  refine (bind_ok e).trans ?_
  cases x <;> first | rfl | cases a
theorem tru_bl {env : Iv.Env} {h h1 : IH} {b : Bool} {m : Iv.Env → M IV} (e : m env h = some (.ok (.bl b), h1)) : Tru m env h = some (.ok b, h1) := tru_ok e rfl
theorem gr_setd {h h' : IH} {o : Iv.IO} (g : Gr h h') : Gr h (h'.set h.length o) := gr_set g (Nat.le_refl _)
/-- one step of tupled over what G makes tuples of -/
theorem tupled_ok : ∀ (k : Nat) (x y : IV) (h : IH), Pd k y → LR 0 h x y → Ok (F_tupled k [x]) h fun v h' => v = y ∧ Gr h h'
  | 0, x, y, h, p, _ => p.elim
  | k + 1, x, y, h, p, r => by
    have go : ∀ (xs ys : List IV) (s : Src), y = .tup ys → LRs 0 h xs ys → srcI x h = some (.ok s, h) → (∀ h' i, Gr h h' → s h' i = some xs[i]?) → Isi [.lst, .tup] (Var 0) [some x, none] h = some (.ok (.bl true), h) → Ok (F_tupled (k + 1) [x]) h fun v h' => v = y ∧ Gr h h' := by
      intro xs ys s ey rs es hs ei
      subst ey
      have p1 : ys.length < 100000 := p.1
      have p2 : ∀ y ∈ ys, Pd k y := p.2
      have ln := rs.len
      obtain ⟨v, h2, q2, rfl, acc, rfl, b2, b3⟩ := lcE_ok (k := LN) (n := ys.length) (src := Iter (Var 0)) (s := s) (h := h) (h1 := h) (p := .n 1) (vs := [1]) (c := YesT) (el := CallF 1 (F_tupled k) (Cons (Var 1) Nil)) (env := [some x, none])
        (fun i acc h' => acc = ys.take i ∧ h'[h.length]? = some (.lst acc) ∧ Gr h h')
        (iter_ok (x := x) rfl es) (LN_ok p1) ⟨rfl, push_len, Gr.push _ _⟩
        (by
          rintro i acc h' hi ⟨rfl, b2, b3⟩
          have hi2 : i < xs.length := by omega
          obtain ⟨v, h3, q3, rfl, g3⟩ := tupled_ok k xs[i] ys[i] h' (p2 _ (List.getElem_mem hi)) (LR.mono (Nat.le_refl _) (fun n o _ e => b3 n o e) (rs.get i hi2 hi))
          refine ⟨xs[i], _, by rw [hs h' i b3, List.getElem?_eq_getElem hi2], rfl, true, h', rfl, ?_⟩
          show Ok _ _ _
          have b2' := g3 _ _ b2
          refine ⟨ys[i], h3, callF_ok (one_ok (x := xs[i]) rfl) rfl q3, b2', by rw [List.length_take]; omega, ?_, ?_, gr_setd (b3.trans g3)⟩
          · rw [List.take_succ, List.getElem?_eq_getElem hi]; rfl
          · rw [List.getElem?_set_self (List.getElem?_eq_some_iff.mp b2').1])
        (by
          rintro acc h' ⟨rfl, b2, b3⟩
          rw [hs h' _ b3, List.getElem?_eq_none (by omega)])
      rw [List.take_length] at b2
      exact ⟨.tup ys, h2, fn_rt (seq_rt (ifS_tt (tru_bl ei) (ret_ok (callB_ok (one_ok q2) (tuple_lst b2))))), rfl, b3⟩
    cases r with
    | atom a => exact ⟨x, h, fn_rt ((seq_nx (ifS_ff (tru_bl (isi_atom (x := x) rfl a)) rfl)).trans (ret_ok (x := x) rfl)), rfl, Gr.refl h⟩
    | @ref n xs ys l e rs => exact go xs ys (SLive n) rfl rs (src_lst e) (fun h' i g => slive (g _ _ e) i) (isi_ref rfl e)
    | @tup xs ys rs => exact go xs ys (SItems xs) rfl rs rfl (fun h' i g => rfl) (isi_tup rfl)
end K02
set_option autoImplicit true
set_option Elab.async false
set_option linter.all false
set_option maxRecDepth 100000
set_option maxHeartbeats 600000
namespace K02
open PySem L2 Iv
theorem Gr.le {h h' : IH} (g : Gr h h') : h.length ≤ h'.length := by
  rcases Nat.lt_or_ge h'.length h.length with c | c
  · exfalso
    have hl : h.length - 1 < h.length := by omega
    have q := g (h.length - 1) h[h.length - 1] (List.getElem?_eq_getElem hl)
    have := (List.getElem?_eq_some_iff.mp q).1
    omega
  · exact c
theorem lists_ok : ∀ (k : Nat) (y : IV) (h : IH), Pd k y → Ok (F__law_lists k [y]) h fun v h' => LR h.length h' v y ∧ Gr h h'
  | 0, y, h, p => p.elim
  | k + 1, y, h, p => by
    have at_ : atomI y = true → Ok (F__law_lists (k + 1) [y]) h fun v h' => LR h.length h' v y ∧ Gr h h' := fun a =>
      ⟨y, h, fn_rt (ret_ok (ifE_ff (tru_bl (isi_atom (x := y) rfl a)) rfl)), .atom a, Gr.refl h⟩
    cases y with
    | tup ys =>
      have p1 : ys.length < 100000 := p.1
      have p2 : ∀ y ∈ ys, Pd k y := p.2
      obtain ⟨v, h2, q2, rfl, acc, b1, b2, b3⟩ := lcE_ok (k := LN) (n := ys.length) (src := Iter (Var 0)) (s := SItems ys) (h := h) (h1 := h) (p := .n 1) (vs := [1]) (c := YesT) (el := CallF 1 (F__law_lists k) (Cons (Var 1) Nil)) (env := [some (.tup ys), none])
        (fun i acc h' => LRs (h.length + 1) h' acc (ys.take i) ∧ h'[h.length]? = some (.lst acc) ∧ Gr h h')
        (iter_ok (x := .tup ys) rfl rfl) (LN_ok p1) ⟨.nil, push_len, Gr.push _ _⟩
        (by
          rintro i acc h' hi ⟨b1, b2, b3⟩
          obtain ⟨v, h3, q3, l3, g3⟩ := lists_ok k ys[i] h' (p2 _ (List.getElem_mem hi))
          have hl := (List.getElem?_eq_some_iff.mp b2).1
          have b2' := g3 _ _ b2
          have ln := b1.len
          rw [List.length_take] at ln
          have keep : ∀ n o, h.length + 1 ≤ n → h3[n]? = some o → (h3.set h.length (.lst (acc ++ [v])))[n]? = some o := fun n o l e => by
            rw [List.getElem?_set_ne (by omega)]; exact e
          refine ⟨ys[i], _, by show some ys[i]? = _; rw [List.getElem?_eq_getElem hi], rfl, true, h', rfl, ?_⟩
          show Ok _ _ _
          refine ⟨v, h3, callF_ok (one_ok (x := ys[i]) rfl) rfl q3, b2', by omega, ?_, ?_, gr_setd (b3.trans g3)⟩
          · rw [List.take_succ, List.getElem?_eq_getElem hi]
            exact LRs.snoc (LR.mono (by omega) (fun n o l e => keep n o (by omega) e) l3) (LRs.mono (Nat.le_refl _) (fun n o l e => keep n o l (g3 n o e)) b1)
          · rw [List.getElem?_set_self (List.getElem?_eq_some_iff.mp b2').1])
        (by
          rintro acc h' ⟨b1, b2, b3⟩
          show some ys[ys.length]? = _
          rw [List.getElem?_eq_none (Nat.le_refl _)])
      rw [List.take_length] at b1
      exact ⟨.ref h.length, h2, fn_rt (ret_ok (ifE_tt (tru_bl (isi_tup rfl)) q2)), .ref (Nat.le_refl _) b2 (LRs.mono (by omega) (fun n o _ e => e) b1), b3⟩
    | non => exact at_ rfl
    | bl _ => exact at_ rfl
    | int _ => exact at_ rfl
    | str _ => exact at_ rfl
    | fl _ => cases p
    | kl _ => cases p
    | exo => cases p
    | ref _ => cases p
/-- tupled (lists y) = y -/
theorem tupled_lists {k : Nat} {y : IV} {h : IH} (p : Pd k y) : Ok (F__law_lists k [y]) h fun v h' => Gr h h' ∧ ∀ h2, Gr h' h2 → Ok (F_tupled k [v]) h2 fun w h3 => w = y ∧ Gr h2 h3 :=
  (lists_ok k y h p).mono fun v h' ⟨l, g⟩ => ⟨g, fun h2 g2 => tupled_ok k v y h2 p (LR.mono (Nat.zero_le _) (fun n o _ e => g2 n o e) l)⟩
theorem tupled_self {k : Nat} {y : IV} {h : IH} (p : Pd k y) : Ok (F_tupled k [y]) h fun w h3 => w = y ∧ Gr h h3 := tupled_ok k y y h p (LR.self k y p)
theorem sub_len {l m : List Str} (n : l.Nodup) (s : ∀ x ∈ l, x ∈ m) : l.length ≤ m.length := by
  induction l generalizing m with
  | nil => simp
  | cons a l ih =>
    rw [List.nodup_cons] at n
    have ha := s a (by simp)
    have := ih (m := m.erase a) n.2 fun x hx => by
      have hne : x ≠ a := by rintro rfl; exact n.1 hx
      exact (List.mem_erase_of_ne hne).mpr (s x (by simp [hx]))
    rw [List.length_erase_of_mem ha] at this
    have := List.length_pos_of_mem ha
    simp only [List.length_cons]; omega
/-- a block is plain -/
theorem blk_pd {v : IV} {many k : Nat} (B : Blk v many) (hm : many < 1000) : Pd (k + 5) v := by
  obtain ⟨q, rows, live, rfl, pr, g, nd, _, _, ql, ll⟩ := B
  have rl : rows.length = q.length := pr.length_eq
  have strL : ∀ l : List Str, l.length < 100000 → ∀ j, Pd (j + 2) (.tup (l.map .str)) := fun l hl j => ⟨by rw [List.length_map]; exact hl, fun y hy => by
    obtain ⟨s, _, rfl⟩ := List.mem_map.mp hy; exact rfl⟩
  have rd : ∀ r ∈ q, r.reads.length < 100000 := fun r hr => by
    obtain ⟨i, hi, e⟩ := List.getElem_of_mem hr
    obtain ⟨n1, n2⟩ := g i r (by rw [List.getElem?_eq_getElem hi, e])
    have sub : r.reads.length ≤ ((q.take i).map Row.name).length := sub_len n1 n2
    rw [List.length_map, List.length_take] at sub
    omega
  refine ⟨by show 2 < 100000; omega, fun y hy => ?_⟩
  simp only [List.mem_cons, List.mem_nil_iff, or_false] at hy
  rcases hy with rfl | rfl
  · refine ⟨by rw [List.length_map]; omega, fun y hy => ?_⟩
    obtain ⟨r, hr, rfl⟩ := List.mem_map.mp hy
    refine ⟨by show 3 < 100000; omega, fun y hy => ?_⟩
    simp only [List.mem_cons, List.mem_nil_iff, or_false] at hy
    rcases hy with rfl | rfl | rfl
    · exact rfl
    · exact strL _ (rd r (pr.mem_iff.mp hr)) k
    · exact rfl
  · exact strL _ (by omega) (k + 2)
end K02
set_option autoImplicit true
set_option Elab.async false
set_option linter.all false
set_option maxRecDepth 100000
set_option maxHeartbeats 600000
namespace K02
open PySem L2 Iv
theorem same_int (k : Nat) (i : Int) (h : IH) : F__law_same (k + 1) [.int i, .int i] h = some (.ok (.bl true), h) := by
  have e : F__law_same (k + 1) [.int i, .int i] h = some (.ok (.bl (decide (i = i))), h) := rfl
  rw [e, decide_eq_true rfl]
theorem ne_bl (b : Bool) (h : IH) : neI (.bl b) (.bl b) h = some (.ok (.bl false), h) := by cases b <;> rfl
theorem isi_l {env : Iv.Env} {h h1 : IH} {n : Nat} {xs : List IV} {m : Iv.Env → M IV} (e : m env h = some (.ok (.ref n), h1)) (e1 : h1[n]? = some (.lst xs)) : Isi [.lst] m env h = some (.ok (.bl true), h1) ∧ Isi [.tup] m env h = some (.ok (.bl false), h1) := by
  have : tyI h1 (.ref n) = some .lst := by
    show (match h1[n]? with
    | some (.lst _) => some Ty.lst
    | some (.dic _) => some .dic
    | some (.fdc _) => none
    | none => none) = _
    simp only [e1]
  constructor
  · unfold Isi
    refine (bind_ok e).trans ?_
    simp only [this]; rfl
  · unfold Isi
    refine (bind_ok e).trans ?_
    simp only [this]; rfl
theorem or_ff {c d : Iv.Env → M Bool} {env : Iv.Env} {h h1 : IH} {z : Option (Out Bool × IH)} (e : c env h = some (.ok false, h1)) (e2 : d env h1 = z) : OrT c d env h = z := by
  unfold OrT; exact (bind_ok e).trans e2
theorem andV_tt {m n : Iv.Env → M IV} {env : Iv.Env} {h h1 : IH} {x : IV} {z : Option (Out IV × IH)} (e : m env h = some (.ok x, h1)) (e2 : truM x h1 = some (.ok true, h1)) (e3 : n env h1 = z) : AndV m n env h = z := by
  unfold AndV; exact (bind_ok e).trans ((bind_ok e2).trans (by rw [if_pos rfl]; exact e3))
theorem zip_lst {h : IH} {n m : Nat} {xs ys : List IV} (e : h[n]? = some (.lst xs)) (e2 : h[m]? = some (.lst ys)) : zipM [.ref n, .ref m] h = some (.ok (SZip (SLive n) (SLive m)), h) := by
  show (match h[n]?, h[m]? with
    | some (.lst _), some (.lst _) => some (Out.ok (SZip (SLive n) (SLive m)), h)
    | _, _ => none) = _
  simp only [e, e2]
theorem same_ints {k a b : Nat} {ns : List Int} {h : IH} (ea : h[a]? = some (.lst (ns.map .int))) (eb : h[b]? = some (.lst (ns.map .int))) (hl : ns.length < 100000) : Ok (F__law_same (k + 2) [.ref a, .ref b]) h fun v h' => v = .bl true ∧ Gr h h' := by
  obtain ⟨v, h2, q2, rfl, acc, rfl, b2, b3⟩ := lcE_ok (k := LN) (n := ns.length) (src := IterA zipM (Cons (Var 0) (Cons (Var 1) Nil))) (s := SZip (SLive a) (SLive b)) (h := h) (h1 := h) (p := .t [2, 3]) (vs := [2, 3]) (c := YesT) (el := CallF 2 (F__law_same (k + 1)) (Cons (Var 2) (Cons (Var 3) Nil))) (env := [some (.ref a), some (.ref b), none, none])
    (fun i acc h' => acc = (List.replicate i true).map .bl ∧ h'[h.length]? = some (.lst acc) ∧ Gr h h')
    (iterA_ok (two_ok (x := .ref a) (y := .ref b) rfl rfl) (zip_lst ea eb)) (LN_ok hl) ⟨rfl, push_len, Gr.push _ _⟩
    (by
      rintro i acc h' hi ⟨rfl, b2, b3⟩
      have e0 : (ns.map IV.int)[i]? = some (.int ns[i]) := by simp [hi]
      refine ⟨.tup [.int ns[i], .int ns[i]], _, ?_, rfl, true, h', rfl, ?_⟩
      · unfold SZip
        rw [slive (b3 _ _ ea), slive (b3 _ _ eb), e0]
      · show Ok _ _ _
        refine ⟨.bl true, h', callF_ok (two_ok (x := .int ns[i]) (y := .int ns[i]) rfl rfl) rfl (same_int k ns[i] h'), b2, by simp; omega, ?_, ?_, gr_setd b3⟩
        · rw [List.replicate_succ', List.map_append]; rfl
        · rw [List.getElem?_set_self (List.getElem?_eq_some_iff.mp b2).1])
    (by
      rintro acc h' ⟨rfl, b2, b3⟩
      unfold SZip
      rw [slive (b3 _ _ ea), slive (b3 _ _ eb), List.getElem?_eq_none (by rw [List.length_map]; omega)])
  have hall := all_lst b2
  have e1 : ((List.replicate ns.length true).all id) = true := by simp
  rw [e1] at hall
  have l0 := isi_l (m := Var 0) (env := [some (.ref a), some (.ref b), none, none]) (h := h) rfl ea
  have l1 := isi_l (m := Var 1) (env := [some (.ref a), some (.ref b), none, none]) (h := h) rfl eb
  have ql : Bin eqI (CallB lenM (Cons (Var 0) Nil)) (CallB lenM (Cons (Var 1) Nil)) [some (.ref a), some (.ref b), none, none] h = some (.ok (.bl true), h) := by
    refine (bin_ok (callB_ok (one_ok (x := .ref a) rfl) (len_lst ea)) (callB_ok (one_ok (x := .ref b) rfl) (len_lst eb)) eqI_int).trans ?_
    rw [decide_eq_true rfl]
  refine ⟨.bl true, h2, fn_rt (seq_rt (ifS_tt (tru_bl (isi_ref (n := b) rfl eb)) ((seq_nx (ifS_ff (or_ff (tst_ok (bin_ok l0.1 l1.1 (ne_bl true h))) (tst_ok (bin_ok l0.2 l1.2 (ne_bl false h)))) rfl)).trans (ret_ok (andV_tt ql rfl (callB_ok (one_ok q2) hall)))))), rfl, b3⟩
end K02
set_option autoImplicit true
set_option Elab.async false
set_option linter.all false
set_option maxRecDepth 100000
set_option maxHeartbeats 600000
namespace K02
open PySem L2 Iv
theorem dcL_ok {s : Src} {p : Pat} {c : Iv.Env → M Bool} {kx el : Iv.Env → M IV} {d : Nat} {env : Iv.Env} {n : Nat} (J : Nat → List (Key × IV) → IH → Prop)
    (hs : ∀ i kvs h, i < n → J i kvs h → ∃ x env2 y z kk h1 h2 h3, s h i = some (some x) ∧ p.set x env = some env2 ∧ c env2 h = some (.ok true, h1) ∧ kx env2 h1 = some (.ok y, h2) ∧ el env2 h2 = some (.ok z, h3) ∧ keyI y = some kk ∧ h3[d]? = some (.dic kvs) ∧ kvs.length < 100000 ∧ J (i + 1) (putI kvs kk z) (h3.set d (.dic (putI kvs kk z))))
    (he : ∀ kvs h, J n kvs h → s h n = some none) : ∀ (k i : Nat) (kvs : List (Key × IV)) (h : IH), i ≤ n → n - i < k → J i kvs h → Ok (DcL s p c kx el d env k i) h fun _ h' => ∃ kvs', J n kvs' h'
  | 0, i, kvs, h, a1, a2, a3 => by omega
  | k + 1, i, kvs, h, a1, a2, a3 => by
    by_cases ci : i < n
    · obtain ⟨x, env2, y, z, kk, h1, h2, h3, e1, e2, e3, e4, e5, e6, e7, e8, e9⟩ := hs i kvs h ci a3
      obtain ⟨u, h4, e10, e11⟩ := dcL_ok J hs he k (i + 1) _ _ (by omega) (by omega) e9
      refine ⟨u, h4, ?_, e11⟩
      unfold DcL
      simp only [e1, e2]
      rw [bind_ok e3, if_pos rfl]
      refine (bind_ok e4).trans ((bind_ok e5).trans ?_)
      simp only [e6, e7]
      rw [if_pos (lt_lim e8)]
      exact e10
    · have ei : i = n := by omega
      subst ei
      refine ⟨(), h, ?_, kvs, a3⟩
      unfold DcL
      simp only [he kvs h a3]
theorem dcE_ok {src : Iv.Env → M Src} {s : Src} {p : Pat} {c : Iv.Env → M Bool} {kx el : Iv.Env → M IV} {vs : List Nat} {env : Iv.Env} {n k : Nat} {h h1 : IH} (J : Nat → List (Key × IV) → IH → Prop) (e0 : src env h = some (.ok s, h1)) (hk : n < k)
    (h0 : J 0 [] (h1 ++ [.dic []]))
    (hs : ∀ i kvs h, i < n → J i kvs h → ∃ x env2 y z kk h2 h3 h4, s h i = some (some x) ∧ p.set x (wipeE env vs) = some env2 ∧ c env2 h = some (.ok true, h2) ∧ kx env2 h2 = some (.ok y, h3) ∧ el env2 h3 = some (.ok z, h4) ∧ keyI y = some kk ∧ h4[h1.length]? = some (.dic kvs) ∧ kvs.length < 100000 ∧ J (i + 1) (putI kvs kk z) (h4.set h1.length (.dic (putI kvs kk z))))
    (he : ∀ kvs h, J n kvs h → s h n = some none) : Ok (DcE k src p c kx el vs env) h fun v h' => v = .ref h1.length ∧ ∃ kvs', J n kvs' h' := by
  unfold DcE
  obtain ⟨x, h', e, p⟩ := dcL_ok (env := wipeE env vs) J hs he k 0 [] _ (by omega) (by omega) h0
  refine ⟨_, h', ?_, rfl, p⟩
  refine (bind_ok e0).trans ?_
  simp only [e]
theorem any_key {kvs : List (Key × IV)} {k : Key} : (kvs.any fun kv => decide (kv.1 = k)) = true ↔ k ∈ kvs.map (·.1) := by
  rw [List.any_eq_true]
  constructor
  · rintro ⟨kv, h, e⟩; exact List.mem_map.mpr ⟨kv, h, of_decide_eq_true e⟩
  · intro m
    obtain ⟨kv, h, e⟩ := List.mem_map.mp m
    exact ⟨kv, h, decide_eq_true e⟩
theorem put_in {kvs : List (Key × IV)} {k : Key} {v : IV} (c : k ∈ kvs.map (·.1)) : (putI kvs k v).map (·.1) = kvs.map (·.1) := by
  unfold putI
  rw [if_pos (any_key.mpr c), List.map_map]
  apply List.map_congr_left
  intro kv _
  show (if kv.1 = k then (kv.1, v) else kv).1 = kv.1
  split <;> rfl
theorem put_out {kvs : List (Key × IV)} {k : Key} {v : IV} (c : ¬ k ∈ kvs.map (·.1)) : (putI kvs k v).map (·.1) = kvs.map (·.1) ++ [k] := by
  unfold putI
  rw [if_neg (fun q => c (any_key.mp q)), List.map_append]; rfl
theorem val_put (kvs : List (Key × IV)) (k k' : Key) (v : IV) : valI (putI kvs k v) k' = if k' = k then some v else valI kvs k' := by
  unfold putI
  by_cases c : (kvs.any fun kv => decide (kv.1 = k)) = true
  · rw [if_pos c]
    unfold valI
    rw [List.find?_map]
    have e : ((fun kv : Key × IV => decide (kv.1 = k')) ∘ fun kv : Key × IV => if kv.1 = k then (kv.1, v) else kv) = fun kv => decide (kv.1 = k') := by
      funext kv
      show decide ((if kv.1 = k then (kv.1, v) else kv).1 = k') = _
      split <;> rfl
    rw [e]
    cases q : kvs.find? fun kv => decide (kv.1 = k') with
    | none =>
      have hn : k' ≠ k := by
        rintro rfl
        obtain ⟨kv, h, e⟩ := List.any_eq_true.mp c
        have := List.find?_eq_none.mp q kv h
        exact this e
      rw [if_neg hn]; rfl
    | some kv =>
      have e1 : kv.1 = k' := of_decide_eq_true (List.find?_some (p := fun kv : Key × IV => decide (kv.1 = k')) q)
      show some (if kv.1 = k then (kv.1, v) else kv).2 = _
      rw [e1]
      by_cases d : k' = k
      · rw [if_pos d, if_pos d]
      · rw [if_neg d, if_neg d]; rfl
  · rw [if_neg c]
    unfold valI
    rw [List.find?_append]
    by_cases d : k' = k
    · subst d
      rw [if_pos rfl]
      have : (kvs.find? fun kv => decide (kv.1 = k')) = none := by
        rw [List.find?_eq_none]
        intro kv h e
        exact c (List.any_eq_true.mpr ⟨kv, h, e⟩)
      rw [this]
      simp
    · rw [if_neg d]
      have : ([(k, v)] : List (Key × IV)).find? (fun kv => decide (kv.1 = k')) = none := by
        rw [List.find?_eq_none]
        intro kv h e
        rw [List.mem_singleton.mp h] at e
        exact d (of_decide_eq_true e).symm
      rw [this, Option.or_none]
theorem set_dic {h : IH} {n : Nat} {kvs : List (Key × IV)} {k : Key} {y v : IV} (e : h[n]? = some (.dic kvs)) (e1 : keyI y = some k) (e2 : kvs.length < 100000) : setM (.ref n) y v h = some (.ok (), h.set n (.dic (putI kvs k v))) := by
  unfold setM
  simp only [e, e1]
  rw [if_pos (lt_lim e2)]
theorem inV_strs (s : Str) : ∀ p : List Str, inV (toV (.str s)) ((p.map IV.str).map toV) = decide (s ∈ p)
  | [] => rfl
  | a :: p => by
    show (eqV (V.str a) (V.str s) || inV (toV (.str s)) ((p.map IV.str).map toV)) = _
    rw [inV_strs s p]
    show ((a == s) || decide (s ∈ p)) = _
    rw [Bool.eq_iff_iff]
    simp
    constructor
    · rintro (rfl | h)
      · exact .inl rfl
      · exact .inr h
    · rintro (rfl | h)
      · exact .inl rfl
      · exact .inr h
theorem nin_tup {s : Str} {p : List Str} {h : IH} : inM true (.str s) (.tup (p.map .str)) h = some (.ok (.bl (!decide (s ∈ p))), h) := by
  have f : (p.map IV.str).all flatI = true := by
    rw [List.all_eq_true]
    intro x hx
    obtain ⟨a, _, rfl⟩ := List.mem_map.mp hx
    rfl
  show (if flatI (.str s) = true ∧ (p.map IV.str).all flatI = true then some (Out.ok (IV.bl (if true = true then !inV (toV (.str s)) ((p.map IV.str).map toV) else inV (toV (.str s)) ((p.map IV.str).map toV))), h) else none) = _
  rw [if_pos ⟨rfl, f⟩, if_pos rfl, inV_strs]
theorem in_tup {s : Str} {p : List Str} {h : IH} : inM false (.str s) (.tup (p.map .str)) h = some (.ok (.bl (decide (s ∈ p))), h) := by
  have f : (p.map IV.str).all flatI = true := by
    rw [List.all_eq_true]
    intro x hx
    obtain ⟨a, _, rfl⟩ := List.mem_map.mp hx
    rfl
  show (if flatI (.str s) = true ∧ (p.map IV.str).all flatI = true then some (Out.ok (IV.bl (if false = true then !inV (toV (.str s)) ((p.map IV.str).map toV) else inV (toV (.str s)) ((p.map IV.str).map toV))), h) else none) = _
  rw [if_pos ⟨rfl, f⟩, if_neg (by decide), inV_strs]
theorem canAll : ∀ ss : List Str, (∀ s ∈ ss, PyData.strOk s = true) → PyData.canLayAll0 (ss.map PyData.str) = true
  | [], _ => by simp [PyData.canLayAll0]
  | s :: ss, o => by
    have := canAll ss fun x hx => o x (by simp [hx])
    simp [PyData.canLayAll0, PyData.canLay0, this, o s (by simp)]
theorem shaped_strs {ss : List Str} (o : ∀ s ∈ ss, PyData.strOk s = true) : SeqAt.shaped (.list (ss.map PyData.str)) = true := by
  unfold SeqAt.shaped
  simp [PyData.canLay0, canAll ss o, PyData.depth, depth_strs]
theorem eqv_nil (ss : List Str) : PyData.eqv (.list (ss.map PyData.str)) (.list []) = ss.isEmpty := by
  cases ss <;> simp [PyData.eqv, PyData.eqvAll]
theorem eqI_strs_nil {h : IH} {a b : Nat} {ss : List Str} (o : ∀ s ∈ ss, PyData.strOk s = true) (e : h[a]? = some (.lst (ss.map .str))) (e2 : h[b]? = some (.lst [])) : eqI (.ref a) (.ref b) h = some (.ok (.bl ss.isEmpty), h) := by
  have q1 : encH h 66 (.ref a) = some (.list (ss.map .str)) := by
    show (match h[a]? with
    | some (.lst xs) => (xs.mapM (encH h 65)).map PyData.list
    | _ => none) = _
    simp only [e]
    rw [enc_strs 64]; rfl
  have q2 : encH h 66 (.ref b) = some (.list []) := by
    show (match h[b]? with
    | some (.lst xs) => (xs.mapM (encH h 65)).map PyData.list
    | _ => none) = _
    simp only [e2]; rfl
  show (eqG h (.ref a) (.ref b)).map _ = _
  unfold eqG
  rw [q1, q2]
  simp only
  rw [if_pos ⟨shaped_strs o, shaped_strs (ss := []) (by simp)⟩, eqv_nil]; rfl
theorem neI_strs_nil {h : IH} {a b : Nat} {ss : List Str} (o : ∀ s ∈ ss, PyData.strOk s = true) (e : h[a]? = some (.lst (ss.map .str))) (e2 : h[b]? = some (.lst [])) : neI (.ref a) (.ref b) h = some (.ok (.bl (!ss.isEmpty)), h) := by
  have q1 : encH h 66 (.ref a) = some (.list (ss.map .str)) := by
    show (match h[a]? with
    | some (.lst xs) => (xs.mapM (encH h 65)).map PyData.list
    | _ => none) = _
    simp only [e]
    rw [enc_strs 64]; rfl
  have q2 : encH h 66 (.ref b) = some (.list []) := by
    show (match h[b]? with
    | some (.lst xs) => (xs.mapM (encH h 65)).map PyData.list
    | _ => none) = _
    simp only [e2]; rfl
  show (eqG h (.ref a) (.ref b)).map _ = _
  unfold eqG
  rw [q1, q2]
  simp only
  rw [if_pos ⟨shaped_strs o, shaped_strs (ss := []) (by simp)⟩, eqv_nil]; rfl

/-- a comprehension whose parts only make new objects -/
theorem lcE_gr {src : Iv.Env → M Src} {s : Src} {p : Pat} {c : Iv.Env → M Bool} {el : Iv.Env → M IV} {vs : List Nat} {env : Iv.Env} {k : Nat} {h h1 : IH} (xs : List IV) (f : IV → Bool) (g : IV → IV) (e0 : src env h = some (.ok s, h1)) (hk : xs.length < k) (hl : xs.length < 100000)
    (hs : ∀ h' i, Gr h1 h' → s h' i = some xs[i]?)
    (ht : ∀ x ∈ xs, ∃ env2, p.set x (wipeE env vs) = some env2 ∧ ∀ h', Gr h1 h' → Ok (c env2) h' fun b h2 => b = f x ∧ Gr h' h2 ∧ (b = true → Ok (el env2) h2 fun y h3 => y = g x ∧ Gr h2 h3)) :
    Ok (LcE k src p c el vs env) h fun v h' => v = .ref h1.length ∧ h'[h1.length]? = some (.lst ((xs.filter f).map g)) ∧ Gr h1 h' := by
  obtain ⟨v, h2, q2, rfl, acc, rfl, b2, b3⟩ := lcE_ok (k := k) (n := xs.length) (src := src) (s := s) (h := h) (h1 := h1) (p := p) (vs := vs) (c := c) (el := el) (env := env)
    (fun i acc h' => acc = ((xs.take i).filter f).map g ∧ h'[h1.length]? = some (.lst acc) ∧ Gr h1 h')
    e0 hk ⟨rfl, push_len, Gr.push _ _⟩
    (by
      rintro i acc h' hi ⟨rfl, b2, b3⟩
      obtain ⟨env2, e1, e2⟩ := ht xs[i] (List.getElem_mem hi)
      obtain ⟨b, h3, q3, eb, g3, r3⟩ := e2 h' b3
      have step : (xs.take (i + 1)).filter f = (xs.take i).filter f ++ (if f xs[i] = true then [xs[i]] else []) := by
        rw [List.take_succ, List.getElem?_eq_getElem hi, List.filter_append]
        show _ ++ List.filter f [xs[i]] = _
        congr 1
        rw [List.filter_cons, List.filter_nil]
      refine ⟨xs[i], env2, by rw [hs h' i b3, List.getElem?_eq_getElem hi], e1, b, h3, q3, ?_⟩
      have b2' := g3 _ _ b2
      show if b = true then _ else _
      by_cases fb : f xs[i] = true
      · rw [eb, if_pos fb]
        obtain ⟨y, h4, q4, rfl, g4⟩ := r3 (eb.trans fb)
        have b4 := g4 _ _ b2'
        refine ⟨_, h4, q4, b4, ?_, ?_, ?_, gr_setd ((b3.trans g3).trans g4)⟩
        · rw [List.length_map]
          have := List.length_filter_le f (xs.take i)
          rw [List.length_take] at this; omega
        · rw [step, if_pos fb, List.map_append]; rfl
        · rw [List.getElem?_set_self (List.getElem?_eq_some_iff.mp b4).1]
      · rw [eb, if_neg fb]
        refine ⟨?_, b2', b3.trans g3⟩
        rw [step, if_neg fb, List.append_nil])
    (by
      rintro acc h' ⟨rfl, b2, b3⟩
      rw [hs h' _ b3, List.getElem?_eq_none (Nat.le_refl _)])
  rw [List.take_length] at b2
  exact ⟨_, h2, q2, rfl, b2, b3⟩
/-- an order of rows -/
structure Ord (rows : List Row) (o : List Str) : Prop where
  perm : o.Perm (rows.map Row.name)
  reads : ∀ r ∈ rows, ∀ i : Nat, o[i]? = some r.name → ∀ s ∈ r.reads, s ∈ o.take i
def freeB (o : List Str) (r : Row) : Bool := !decide (r.name ∈ o) && r.reads.all fun s => decide (s ∈ o)
theorem free_ne {q : List Row} {o : List Str} (g : Goods q) (n : (q.map Row.name).Nodup) (l : o.length < q.length) : ∃ r ∈ q, freeB o r = true := by
  have ex : ∃ r ∈ q, r.name ∉ o := by
    apply Classical.byContradiction
    intro c
    have : (q.map Row.name).length ≤ o.length := sub_len n fun x hx => by
      obtain ⟨r, hr, rfl⟩ := List.mem_map.mp hx
      exact Classical.byContradiction fun m => c ⟨r, hr, m⟩
    rw [List.length_map] at this; omega
  have hi : q.findIdx (fun r => decide (r.name ∉ o)) < q.length := by
    rw [List.findIdx_lt_length]
    obtain ⟨r, hr, e⟩ := ex
    exact ⟨r, hr, decide_eq_true e⟩
  have h1 := List.findIdx_getElem (xs := q) (p := fun r => decide (r.name ∉ o)) (w := hi)
  refine ⟨q[q.findIdx fun r => decide (r.name ∉ o)], List.getElem_mem hi, ?_⟩
  unfold freeB
  rw [Bool.and_eq_true]
  refine ⟨by simpa using h1, ?_⟩
  rw [List.all_eq_true]
  intro s hs
  have := (g _ _ (List.getElem?_eq_getElem hi)).2 s hs
  obtain ⟨r, hr, rfl⟩ := List.mem_map.mp this
  obtain ⟨j, hj, e⟩ := List.getElem_of_mem hr
  rw [List.length_take] at hj
  rw [List.getElem_take] at e
  have nj := List.not_of_lt_findIdx (xs := q) (p := fun r => decide (r.name ∉ o)) (i := j) (by omega)
  rw [e] at nj
  simpa using nj
theorem sub_len2 {q : List Row} (g : Goods q) {r : Row} (hr : r ∈ q) : r.reads.length ≤ q.length := by
  obtain ⟨i, hi, e⟩ := List.getElem_of_mem hr
  obtain ⟨n1, n2⟩ := g i r (by rw [List.getElem?_eq_getElem hi, e])
  have sub : r.reads.length ≤ ((q.take i).map Row.name).length := sub_len n1 n2
  rw [List.length_map, List.length_take] at sub
  omega
theorem Blk.rd {v : IV} {many : Nat} (B : Blk v many) {r : Row} (hr : r ∈ B.rows) : r.reads.Nodup ∧ r.reads.length ≤ many ∧ ∀ s ∈ r.reads, s ∈ B.rows.map Row.name := by
  have hq := B.perm.mem_iff.mp hr
  obtain ⟨i, hi, e⟩ := List.getElem_of_mem hq
  obtain ⟨n1, n2⟩ := B.good i r (by rw [List.getElem?_eq_getElem hi, e])
  refine ⟨n1, by rw [← B.len]; exact sub_len2 B.good hq, fun s hs => ?_⟩
  have := n2 s hs
  obtain ⟨z, hz, rfl⟩ := List.mem_map.mp this
  exact List.mem_map.mpr ⟨z, B.perm.mem_iff.mpr (List.mem_of_mem_take hz), rfl⟩
theorem Blk.nd {v : IV} {many : Nat} (B : Blk v many) : (B.rows.map Row.name).Nodup := (B.perm.map Row.name).symm.nodup B.nodup
theorem Blk.ln {v : IV} {many : Nat} (B : Blk v many) : B.rows.length = many := B.perm.length_eq.trans B.len
def rowI (r : IV) (i : Nat) : IV := match r with
  | .tup xs => xs.getD i .non
  | _ => .non
theorem name_inj : ∀ {q : List Row} {a b : Row}, (q.map Row.name).Nodup → a ∈ q → b ∈ q → a.name = b.name → a = b
  | [], a, b, _, h, _, _ => by simp at h
  | r :: q, a, b, n, ha, hb, e => by
    rw [List.map_cons, List.nodup_cons] at n
    rcases List.mem_cons.mp ha with ea | ma
    · rcases List.mem_cons.mp hb with eb | mb
      · rw [ea, eb]
      · exact absurd (List.mem_map.mpr ⟨b, mb, by rw [← e, ea]⟩) n.1
    · rcases List.mem_cons.mp hb with eb | mb
      · exact absurd (List.mem_map.mpr ⟨a, ma, by rw [e, eb]⟩) n.1
      · exact name_inj n.2 ma mb e
theorem ix_eq {v : IV} {xs : List IV} {i : Int} {x : IV} {h : IH} (ev : v = .tup xs) (e : atI xs i = some x) : ixM v (.int i) h = some (.ok x, h) := by subst ev; exact ix_tup e
def strIn (o : List Str) : IV → Bool
  | .str s => decide (s ∈ o)
  | _ => false
def freeI (o : List Str) : IV → Bool
  | .tup [.str n, .tup rs, _] => !decide (n ∈ o) && rs.all (strIn o)
  | _ => false
theorem freeI_v (o : List Str) (r : Row) : freeI o r.v = freeB o r := by
  show (!decide (r.name ∈ o) && (r.reads.map IV.str).all (strIn o)) = _
  rw [List.all_map]; rfl
theorem or_tt {c d : Iv.Env → M Bool} {env : Iv.Env} {h h1 : IH} (e : c env h = some (.ok true, h1)) : OrT c d env h = some (.ok true, h1) := by
  unfold OrT; exact (bind_ok e).trans rfl
theorem ix_fdc {h : IH} {n : Nat} {kvs : List (Key × IV)} {y x : IV} {k : Key} (e : h[n]? = some (.fdc kvs)) (e1 : keyI y = some k) (e2 : valI kvs k = some x) : ixM (.ref n) y h = some (.ok x, h) := by
  show (match h[n]? with
    | some (.lst xs) => ixS h xs y
    | some (.dic _) => ixD h n y
    | some (.fdc _) => ixD h n y
    | none => none) = _
  simp only [e]
  unfold ixD
  simp only [e, e1, e2]
theorem src_fdc {h : IH} {n : Nat} {kvs : List (Key × IV)} (e : h[n]? = some (.fdc kvs)) : srcI (.ref n) h = some (.ok (SKeys n), h) := by
  show (match h[n]? with
    | some (.lst _) => some (Out.ok (SLive n), h)
    | some (.fdc _) => some (.ok (SKeys n), h)
    | _ => none) = _
  simp only [e]
def kIV : Key → IV
  | .inl i => .int i
  | .inr s => .str s
theorem skeys {h : IH} {n : Nat} {kvs : List (Key × IV)} {ns : List Str} (e : h[n]? = some (.fdc kvs)) (k : kvs.map (·.1) = ns.map .inr) (i : Nat) : SKeys n h i = some (ns[i]?.map .str) := by
  unfold SKeys
  simp only [e]
  have : keysI kvs = ns.map .str := by
    have e : keysI kvs = (kvs.map (·.1)).map kIV := by
      unfold keysI
      rw [List.map_map]
      apply List.map_congr_left
      rintro ⟨k, v⟩ _
      cases k <;> rfl
    rw [e, k, List.map_map]; rfl
  rw [this, List.getElem?_map]
theorem lock_ok {α : Type} {m : Iv.Env → M α} {env : Iv.Env} {h : IH} {i n : Nat} {kvs : List (Key × IV)} {P : α → IH → Prop} (e0 : env[i]? = some (some (.ref n))) (e1 : h[n]? = some (.dic kvs)) (q : Ok (m env) (h.set n (.fdc kvs)) fun f h2 => h2[n]? = some (.fdc kvs) ∧ P f (h2.set n (.dic kvs))) : Ok (lockM i m env) h P := by
  obtain ⟨f, h2, e, e2, p⟩ := q
  refine ⟨f, h2.set n (.dic kvs), ?_, p⟩
  unfold lockM
  simp only [e0, e1, e, e2]
theorem lock_at {h h2 : IH} {n : Nat} {kvs : List (Key × IV)} (e1 : h[n]? = some (.dic kvs)) (g : Gr (h.set n (.fdc kvs)) h2) : h2[n]? = some (.fdc kvs) := g n _ (List.getElem?_set_self (List.getElem?_eq_some_iff.mp e1).1)
theorem lock_gr {h h2 : IH} {n : Nat} {kvs : List (Key × IV)} (e1 : h[n]? = some (.dic kvs)) (g : Gr (h.set n (.fdc kvs)) h2) : Gr h (h2.set n (.dic kvs)) := fun m p e => by
  by_cases c : m = n
  · subst c
    rw [e1] at e
    rw [List.getElem?_set_self (List.getElem?_eq_some_iff.mp (lock_at e1 g)).1, ← e]
  · rw [List.getElem?_set_ne (Ne.symm c)]
    exact g m p (by rw [List.getElem?_set_ne (Ne.symm c)]; exact e)
/-- dicts by names -/
def kvN {α : Type} (key : α → Str) (val : α → IV) (l : List α) : List (Key × IV) := l.map fun a => (.inr (key a), val a)
theorem kvN_keys {α : Type} {key : α → Str} {val : α → IV} {l : List α} : (kvN key val l).map (·.1) = (l.map key).map .inr := by
  unfold kvN; rw [List.map_map, List.map_map]; rfl
theorem kvN_put {α : Type} {key : α → Str} {val : α → IV} {l : List α} {a : α} (n : key a ∉ l.map key) : putI (kvN key val l) (.inr (key a)) (val a) = kvN key val (l ++ [a]) := by
  unfold putI
  rw [if_neg]
  · unfold kvN; rw [List.map_append]; rfl
  · intro q
    have := any_key.mp q
    rw [kvN_keys] at this
    obtain ⟨s, hs, e⟩ := List.mem_map.mp this
    have : s = key a := Sum.inr.inj e
    exact n (this ▸ hs)
theorem kvN_val {α : Type} {key : α → Str} {val : α → IV} : ∀ {l : List α} {a : α}, (l.map key).Nodup → a ∈ l → valI (kvN key val l) (.inr (key a)) = some (val a)
  | [], a, _, h => by simp at h
  | b :: l, a, n, h => by
    rw [List.map_cons, List.nodup_cons] at n
    unfold valI kvN
    rw [List.map_cons, List.find?_cons]
    by_cases c : key b = key a
    · have e : decide (((Sum.inr (key b) : Key), val b).1 = (.inr (key a) : Key)) = true := decide_eq_true (by show (Sum.inr (key b) : Key) = _; rw [c])
      rw [e]
      rcases List.mem_cons.mp h with rfl | m
      · rfl
      · exact absurd (c ▸ List.mem_map.mpr ⟨a, m, rfl⟩) n.1
    · have e : decide (((Sum.inr (key b) : Key), val b).1 = (.inr (key a) : Key)) = false := decide_eq_false (by
        show ¬ (Sum.inr (key b) : Key) = _
        intro q; exact c (Sum.inr.inj q))
      rw [e]
      rcases List.mem_cons.mp h with rfl | m
      · exact absurd rfl c
      · exact kvN_val n.2 m
/-- a dict by names, of values that are there -/
theorem dcE_names {α : Type} {src : Iv.Env → M Src} {s : Src} {p : Pat} {kx el : Iv.Env → M IV} {vs : List Nat} {env : Iv.Env} {k : Nat} {h h1 : IH} {item : Nat → α → IV} {key : α → Str} {val : α → IV} (l : List α) (e0 : src env h = some (.ok s, h1)) (hk : l.length < k) (hl : l.length < 100000) (nd : (l.map key).Nodup)
    (hs : ∀ kvs i, s (h1 ++ [.dic kvs]) i = some (l[i]?.map (item i)))
    (ht : ∀ (i : Nat) (a : α), l[i]? = some a → ∃ env2, p.set (item i a) (wipeE env vs) = some env2 ∧ ∀ kvs, kx env2 (h1 ++ [.dic kvs]) = some (.ok (.str (key a)), h1 ++ [.dic kvs]) ∧ el env2 (h1 ++ [.dic kvs]) = some (.ok (val a), h1 ++ [.dic kvs])) :
    DcE k src p YesT kx el vs env h = some (.ok (.ref h1.length), h1 ++ [.dic (kvN key val l)]) := by
  obtain ⟨v, h2, q1, rfl, kvs, rfl, rfl⟩ := dcE_ok (k := k) (n := l.length) (src := src) (s := s) (h := h) (h1 := h1) (p := p) (vs := vs) (c := YesT) (kx := kx) (el := el) (env := env)
    (fun i kvs h' => kvs = kvN key val (l.take i) ∧ h' = h1 ++ [.dic kvs])
    e0 hk ⟨rfl, rfl⟩
    (by
      rintro i kvs h' hi ⟨rfl, rfl⟩
      obtain ⟨env2, e1, e2⟩ := ht i l[i] (List.getElem?_eq_getElem hi)
      have := e2 (kvN key val (l.take i))
      refine ⟨_, env2, _, _, .inr (key l[i]), _, _, _, by rw [hs, List.getElem?_eq_getElem hi]; rfl, e1, rfl, this.1, this.2, rfl, push_len, by unfold kvN; rw [List.length_map, List.length_take]; omega, ?_, ?_⟩
      · rw [kvN_put, List.take_succ, List.getElem?_eq_getElem hi]; rfl
        intro m
        obtain ⟨r, hr, e⟩ := List.mem_map.mp m
        obtain ⟨j, hj, e2⟩ := List.getElem_of_mem hr
        rw [List.length_take] at hj
        rw [List.getElem_take] at e2
        have q := List.pairwise_iff_getElem.mp nd j i (by rw [List.length_map]; omega) (by rw [List.length_map]; omega) (by omega)
        exact q (by simp [e2, e])
      · simp)
    (by
      rintro kvs h' ⟨rfl, rfl⟩
      rw [hs, List.getElem?_eq_none (Nat.le_refl _)]; rfl)
  rw [List.take_length] at q1
  exact q1
def rdV (r : Row) : IV := .tup (r.reads.map .str)
theorem reads_ok {h : IH} {rows : List Row} (nd : (rows.map Row.name).Nodup) (hl : rows.length ≤ 8) : F_reads_by_name [.tup (rows.map Row.v)] h = some (.ok (.ref h.length), h ++ [.dic (kvN Row.name rdV rows)]) :=
  fn_rt (ret_ok (dcE_names (item := fun _ r => Row.v r) rows (iter_ok (x := .tup (rows.map Row.v)) rfl rfl) (LN_ok (by omega)) (by omega) nd (fun kvs i => by show some (rows.map Row.v)[i]? = _; rw [List.getElem?_map])
    (fun i r _ => ⟨_, rfl, fun kvs => ⟨bin_ok (x := r.v) (y := .int 0) rfl rfl (ix_tup rfl), bin_ok (x := r.v) (y := .int 1) rfl rfl (ix_tup rfl)⟩⟩)))
theorem valI_put {kvs : List (Key × IV)} {k k' : Key} {v : IV} : valI (putI kvs k v) k' = if k' = k then some v else valI kvs k' := val_put kvs k k' v
theorem chain_ok {g g' : IV → IV → M IV} {ma mb mc : Iv.Env → M IV} {env : Iv.Env} {h h1 h2 h3 h4 : IH} {x y w : IV} {z : Option (Out IV × IH)} (e1 : ma env h = some (.ok x, h1)) (e2 : mb env h1 = some (.ok y, h2)) (e3 : g x y h2 = some (.ok (.bl true), h3)) (e4 : mc env h3 = some (.ok w, h4)) (e5 : g' y w h4 = z) : Chain g g' ma mb mc env h = z := by
  unfold Chain
  refine (bind_ok e1).trans ((bind_ok e2).trans ((bind_ok e3).trans ?_))
  show (M.bind (M.pure true) fun k => if k = true then M.bind (mc env) fun w => g' y w else M.pure (.bl false)) h3 = z
  refine (bind_ok (x := true) (h1 := h3) rfl).trans ?_
  rw [if_pos rfl]
  exact (bind_ok e4).trans e5
theorem chain_ff {g g' : IV → IV → M IV} {ma mb mc : Iv.Env → M IV} {env : Iv.Env} {h h1 h2 h3 : IH} {x y : IV} (e1 : ma env h = some (.ok x, h1)) (e2 : mb env h1 = some (.ok y, h2)) (e3 : g x y h2 = some (.ok (.bl false), h3)) : Chain g g' ma mb mc env h = some (.ok (.bl false), h3) := by
  unfold Chain
  refine (bind_ok e1).trans ((bind_ok e2).trans ((bind_ok e3).trans ?_))
  exact (bind_ok (x := false) (h1 := h3) rfl).trans rfl
theorem le_int {i j : Int} {h : IH} : leI (.int i) (.int j) h = some (.ok (.bl (decide (i ≤ j))), h) := rfl
theorem in_dic {h : IH} {n : Nat} {kvs : List (Key × IV)} {s : Str} (e : h[n]? = some (.dic kvs)) : inM false (.str s) (.ref n) h = some (.ok (.bl (valI kvs (.inr s)).isSome), h) := by
  unfold inM
  have : seqI h (.ref n) = none := by
    show (match h[n]? with
      | some (.lst xs) => some xs
      | _ => none) = _
    simp only [e]
  simp only [this, e]
  rfl
theorem nin_dic {h : IH} {n : Nat} {kvs : List (Key × IV)} {s : Str} (e : h[n]? = some (.dic kvs)) : inM true (.str s) (.ref n) h = some (.ok (.bl (!(valI kvs (.inr s)).isSome)), h) := by
  unfold inM
  have : seqI h (.ref n) = none := by
    show (match h[n]? with
      | some (.lst xs) => some xs
      | _ => none) = _
    simp only [e]
  simp only [this, e]
  rfl
theorem len_dic {h : IH} {n : Nat} {kvs : List (Key × IV)} (e : h[n]? = some (.dic kvs)) : lenM [.ref n] h = some (.ok (.int kvs.length), h) := by
  show len1 h (.ref n) = _
  unfold len1
  simp only [e]
theorem andV_ok {m n : Iv.Env → M IV} {env : Iv.Env} {h h1 : IH} {z : Option (Out IV × IH)} (e : m env h = some (.ok (.bl true), h1)) (e3 : n env h1 = z) : AndV m n env h = z := andV_tt e rfl e3
/-- the reads of the row of a name -/
def rdO (rows : List Row) (s : Str) : List Str := match rows.find? fun r => decide (r.name = s) with
  | some r => r.reads
  | none => []
theorem rdO_at : ∀ {rows : List Row} {r : Row}, (rows.map Row.name).Nodup → r ∈ rows → rdO rows r.name = r.reads
  | [], r, _, h => by simp at h
  | a :: q, r, n, h => by
    rw [List.map_cons, List.nodup_cons] at n
    unfold rdO
    rw [List.find?_cons]
    rcases List.mem_cons.mp h with rfl | m
    · rw [decide_eq_true rfl]
    · have ne : a.name ≠ r.name := fun e => n.1 (e ▸ List.mem_map.mpr ⟨r, m, rfl⟩)
      rw [decide_eq_false ne]
      exact rdO_at n.2 m
theorem and_ok {c d : Iv.Env → M Bool} {env : Iv.Env} {h : IH} {a b : Bool} (e : c env h = some (.ok a, h)) (e2 : a = true → d env h = some (.ok b, h)) : AndT c d env h = some (.ok (a && b), h) := by
  cases a with
  | true => exact and_tt e (e2 rfl)
  | false => exact and_ff e
theorem callD_pure {F : List IV → M IV} {a : Iv.Env → M (List IV)} {env : Iv.Env} {h h1 : IH} {xs : List IV} {y : IV} {n : Nat} (e1 : a env h = some (.ok xs, h1)) (ps : pureIs xs = true) (ln : xs.length = n) (e2 : ∃ h', F xs [] = some (.ok y, h')) (e3 : pureI y = true) : CallD n F a env h = some (.ok y, h1) := by
  obtain ⟨h', e2⟩ := e2
  unfold CallD
  refine (bind_ok e1).trans ?_
  show (if pureIs xs = true then _ else _) = _
  rw [if_pos ps, if_pos ⟨ln, ps⟩]
  simp only [e2]
  rw [if_pos e3]
theorem callD_ref {F : List IV → M IV} {a : Iv.Env → M (List IV)} {env : Iv.Env} {h h1 h2 : IH} {xs : List IV} {y : IV} {n : Nat} (e1 : a env h = some (.ok xs, h1)) (ps : ¬ pureIs xs = true) (ln : xs.length = n) (e2 : F xs h1 = some (.ok y, h2)) : CallD n F a env h = some (.ok y, h2) := by
  unfold CallD
  refine (bind_ok e1).trans ?_
  show (if pureIs xs = true then _ else _) = _
  rw [if_neg ps, if_pos ln]
  exact noex_ok e2
theorem pure_strs : ∀ ss : List Str, pureIs (ss.map .str) = true
  | [] => rfl
  | s :: ss => by
    show (pureI (.str s) && pureIs (ss.map .str)) = true
    rw [pure_strs ss]; rfl
theorem callP_ok {F : List IV → M IV} {a : Iv.Env → M (List IV)} {env : Iv.Env} {h h1 : IH} {xs : List IV} {y : IV} {n : Nat} (e1 : a env h = some (.ok xs, h1)) (ps : pureIs xs = true) (ln : xs.length = n) (e2 : ∃ h', F xs [] = some (.ok y, h')) (e3 : pureI y = true) : CallP n F a env h = some (.ok y, h1) := by
  obtain ⟨h', e2⟩ := e2
  unfold CallP
  refine (bind_ok e1).trans ?_
  show (if xs.length = n ∧ pureIs xs = true then _ else _) = _
  rw [if_pos ⟨ln, ps⟩]
  simp only [e2]
  rw [if_pos e3]
theorem pd_strs {l : List Str} (hl : l.length < 100000) (j : Nat) : Pd (j + 2) (.tup (l.map .str)) := ⟨by rw [List.length_map]; exact hl, fun y hy => by
    obtain ⟨s, _, rfl⟩ := List.mem_map.mp hy; exact rfl⟩
end K02
set_option autoImplicit true
set_option Elab.async false
set_option linter.all false
set_option maxRecDepth 100000
set_option maxHeartbeats 600000
namespace K02
open PySem L2 Iv
mutual
/-- y, with lists (all at lo or above) for all tuples -/
inductive LL (lo : Nat) (h : IH) : IV → IV → Prop
  | atom {y : IV} : atomI y = true → LL lo h y y
  | ref {n : Nat} {xs ys : List IV} : lo ≤ n → h[n]? = some (.lst xs) → LLs lo h xs ys → LL lo h (.ref n) (.tup ys)
inductive LLs (lo : Nat) (h : IH) : List IV → List IV → Prop
  | nil : LLs lo h [] []
  | cons {x y : IV} {xs ys : List IV} : LL lo h x y → LLs lo h xs ys → LLs lo h (x :: xs) (y :: ys)
end
mutual
theorem LL.mono {lo lo' : Nat} {h h' : IH} (l : lo' ≤ lo) (g : ∀ n o, lo ≤ n → h[n]? = some o → h'[n]? = some o) : ∀ {x y : IV}, LL lo h x y → LL lo' h' x y
  | _, _, .atom a => .atom a
  | _, _, .ref a b c => .ref (by omega) (g _ _ a b) (LLs.mono l g c)
theorem LLs.mono {lo lo' : Nat} {h h' : IH} (l : lo' ≤ lo) (g : ∀ n o, lo ≤ n → h[n]? = some o → h'[n]? = some o) : ∀ {xs ys : List IV}, LLs lo h xs ys → LLs lo' h' xs ys
  | _, _, .nil => .nil
  | _, _, .cons a b => .cons (LL.mono l g a) (LLs.mono l g b)
end
theorem LLs.len {lo : Nat} {h : IH} : ∀ {xs ys : List IV}, LLs lo h xs ys → xs.length = ys.length
  | _, _, .nil => rfl
  | _, _, .cons _ b => by simp [LLs.len b]
theorem LLs.get {lo : Nat} {h : IH} : ∀ {xs ys : List IV}, LLs lo h xs ys → ∀ i (h1 : i < xs.length) (h2 : i < ys.length), LL lo h xs[i] ys[i]
  | _, _, .nil, i, h1, _ => by simp at h1
  | _, _, .cons a b, 0, _, _ => a
  | _, _, .cons a b, i + 1, h1, h2 => LLs.get b i (by simpa using h1) (by simpa using h2)
theorem LLs.snoc {lo : Nat} {h : IH} {x y : IV} (a : LL lo h x y) : ∀ {xs ys : List IV}, LLs lo h xs ys → LLs lo h (xs ++ [x]) (ys ++ [y])
  | _, _, .nil => .cons a .nil
  | _, _, .cons b c => .cons b (LLs.snoc a c)
mutual
theorem LL.lr {lo : Nat} {h : IH} : ∀ {x y : IV}, LL lo h x y → LR lo h x y
  | _, _, .atom a => .atom a
  | _, _, .ref a b c => .ref a b (LLs.lr c)
theorem LLs.lr {lo : Nat} {h : IH} : ∀ {xs ys : List IV}, LLs lo h xs ys → LRs lo h xs ys
  | _, _, .nil => .nil
  | _, _, .cons a b => .cons (LL.lr a) (LLs.lr b)
end
theorem lists_ll : ∀ (k : Nat) (y : IV) (h : IH), Pd k y → Ok (F__law_lists k [y]) h fun v h' => LL h.length h' v y ∧ Gr h h'
  | 0, y, h, p => p.elim
  | k + 1, y, h, p => by
    have at_ : atomI y = true → Ok (F__law_lists (k + 1) [y]) h fun v h' => LL h.length h' v y ∧ Gr h h' := fun a =>
      ⟨y, h, fn_rt (ret_ok (ifE_ff (tru_bl (isi_atom (x := y) rfl a)) rfl)), .atom a, Gr.refl h⟩
    cases y with
    | tup ys =>
      have p1 : ys.length < 100000 := p.1
      have p2 : ∀ y ∈ ys, Pd k y := p.2
      obtain ⟨v, h2, q2, rfl, acc, b1, b2, b3⟩ := lcE_ok (k := LN) (n := ys.length) (src := Iter (Var 0)) (s := SItems ys) (h := h) (h1 := h) (p := .n 1) (vs := [1]) (c := YesT) (el := CallF 1 (F__law_lists k) (Cons (Var 1) Nil)) (env := [some (.tup ys), none])
        (fun i acc h' => LLs (h.length + 1) h' acc (ys.take i) ∧ h'[h.length]? = some (.lst acc) ∧ Gr h h')
        (iter_ok (x := .tup ys) rfl rfl) (LN_ok p1) ⟨.nil, push_len, Gr.push _ _⟩
        (by
          rintro i acc h' hi ⟨b1, b2, b3⟩
          obtain ⟨v, h3, q3, l3, g3⟩ := lists_ll k ys[i] h' (p2 _ (List.getElem_mem hi))
          have hl := (List.getElem?_eq_some_iff.mp b2).1
          have b2' := g3 _ _ b2
          have ln := b1.len
          rw [List.length_take] at ln
          have keep : ∀ n o, h.length + 1 ≤ n → h3[n]? = some o → (h3.set h.length (.lst (acc ++ [v])))[n]? = some o := fun n o l e => by
            rw [List.getElem?_set_ne (by omega)]; exact e
          refine ⟨ys[i], _, by show some ys[i]? = _; rw [List.getElem?_eq_getElem hi], rfl, true, h', rfl, ?_⟩
          show Ok _ _ _
          refine ⟨v, h3, callF_ok (one_ok (x := ys[i]) rfl) rfl q3, b2', by omega, ?_, ?_, gr_setd (b3.trans g3)⟩
          · rw [List.take_succ, List.getElem?_eq_getElem hi]
            exact LLs.snoc (LL.mono (by omega) (fun n o l e => keep n o (by omega) e) l3) (LLs.mono (Nat.le_refl _) (fun n o l e => keep n o l (g3 n o e)) b1)
          · rw [List.getElem?_set_self (List.getElem?_eq_some_iff.mp b2').1])
        (by
          rintro acc h' ⟨b1, b2, b3⟩
          show some ys[ys.length]? = _
          rw [List.getElem?_eq_none (Nat.le_refl _)])
      rw [List.take_length] at b1
      exact ⟨.ref h.length, h2, fn_rt (ret_ok (ifE_tt (tru_bl (isi_tup rfl)) q2)), .ref (Nat.le_refl _) b2 (LLs.mono (by omega) (fun n o _ e => e) b1), b3⟩
    | non => exact at_ rfl
    | bl _ => exact at_ rfl
    | int _ => exact at_ rfl
    | str _ => exact at_ rfl
    | fl _ => cases p
    | kl _ => cases p
    | exo => cases p
    | ref _ => cases p
/-- two that are the same for the law -/
def SM : Nat → IH → IV → IV → Prop
  | 0, _, _, _ => False
  | k + 1, h, x, y => (atomI y = true ∧ x = y) ∨ ∃ xs ys : List IV, xs.length = ys.length ∧ ys.length < 100000 ∧ (∀ i (h1 : i < xs.length) (h2 : i < ys.length), SM k h xs[i] ys[i]) ∧ ((x = .tup xs ∧ y = .tup ys) ∨ ∃ n m, x = .ref n ∧ y = .ref m ∧ h[n]? = some (.lst xs) ∧ h[m]? = some (.lst ys))
theorem SM.mono {h h' : IH} (g : Gr h h') : ∀ {k : Nat} {x y : IV}, SM k h x y → SM k h' x y
  | 0, _, _, p => p.elim
  | k + 1, x, y, .inl p => .inl p
  | k + 1, x, y, .inr ⟨xs, ys, a, b, c, d⟩ => .inr ⟨xs, ys, a, b, fun i h1 h2 => SM.mono g (c i h1 h2), d.imp id fun ⟨n, m, e1, e2, e3, e4⟩ => ⟨n, m, e1, e2, g _ _ e3, g _ _ e4⟩⟩
theorem SM.self {h : IH} : ∀ {k : Nat} {y : IV}, Pd k y → SM k h y y
  | 0, _, p => p.elim
  | k + 1, .tup ys, p => .inr ⟨ys, ys, rfl, p.1, fun i h1 h2 => SM.self (p.2 _ (List.getElem_mem h1)), .inl ⟨rfl, rfl⟩⟩
  | k + 1, .non, p => .inl ⟨rfl, rfl⟩
  | k + 1, .bl _, p => .inl ⟨rfl, rfl⟩
  | k + 1, .int _, p => .inl ⟨rfl, rfl⟩
  | k + 1, .str _, p => .inl ⟨rfl, rfl⟩
  | k + 1, .fl _, p => by cases p
  | k + 1, .kl _, p => by cases p
  | k + 1, .exo, p => by cases p
  | k + 1, .ref _, p => by cases p
theorem LL.sm {lo lo' : Nat} {h : IH} : ∀ {k : Nat} {x z y : IV}, LL lo h x y → LL lo' h z y → Pd k y → SM k h x z
  | 0, _, _, _, _, _, p => p.elim
  | k + 1, x, z, y, a, b, p => by
    cases a with
    | atom e =>
      cases b with
      | atom e2 => exact .inl ⟨e, rfl⟩
      | ref _ _ _ => cases e
    | ref l1 e1 c1 =>
      cases b with
      | atom e => cases e
      | ref l2 e2 c2 =>
        have n1 := c1.len
        have n2 := c2.len
        have p1 : (_ : List IV).length < 100000 := p.1
        refine .inr ⟨_, _, by omega, by omega, fun i h1 h2 => LL.sm (c1.get i h1 (by omega)) (c2.get i h2 (by omega)) (p.2 _ (List.getElem_mem _)), .inr ⟨_, _, rfl, rfl, e1, e2⟩⟩
theorem same_go {k : Nat} {x y : IV} {xs ys : List IV} {s t : Src} {h : IH} (hxy : xs.length = ys.length) (ih : ∀ i (h1 : i < xs.length) (h2 : i < ys.length), ∀ h', Gr h h' → Ok (F__law_same k [xs[i], ys[i]]) h' fun v h2 => v = .bl true ∧ Gr h' h2) (ez : zipM [x, y] h = some (.ok (SZip s t), h)) (es : ∀ h' i, Gr h h' → s h' i = some xs[i]?) (et : ∀ h' i, Gr h h' → t h' i = some ys[i]?) (hl : ys.length < 100000)
    (i1 : Isi [.lst, .tup] (Var 1) [some x, some y, none, none] h = some (.ok (.bl true), h)) {b c : Bool} (i2 : Isi [.lst] (Var 0) [some x, some y, none, none] h = some (.ok (.bl b), h)) (i3 : Isi [.lst] (Var 1) [some x, some y, none, none] h = some (.ok (.bl b), h)) (i4 : Isi [.tup] (Var 0) [some x, some y, none, none] h = some (.ok (.bl c), h)) (i5 : Isi [.tup] (Var 1) [some x, some y, none, none] h = some (.ok (.bl c), h))
    (l0 : lenM [x] h = some (.ok (.int xs.length), h)) (l1 : lenM [y] h = some (.ok (.int ys.length), h)) : Ok (F__law_same (k + 1) [x, y]) h fun v h' => v = .bl true ∧ Gr h h' := by
  obtain ⟨v, h2, q2, rfl, acc, rfl, b2, b3⟩ := lcE_ok (k := LN) (n := xs.length) (src := IterA zipM (Cons (Var 0) (Cons (Var 1) Nil))) (s := SZip s t) (h := h) (h1 := h) (p := .t [2, 3]) (vs := [2, 3]) (c := YesT) (el := CallF 2 (F__law_same k) (Cons (Var 2) (Cons (Var 3) Nil))) (env := [some x, some y, none, none])
    (fun i acc h' => acc = (List.replicate i true).map .bl ∧ h'[h.length]? = some (.lst acc) ∧ Gr h h')
    (iterA_ok (two_ok (x := x) (y := y) rfl rfl) ez) (LN_ok (by omega)) ⟨rfl, push_len, Gr.push _ _⟩
    (by
      rintro i acc h' hi ⟨rfl, b2, b3⟩
      obtain ⟨v, h3, q3, rfl, g3⟩ := ih i hi (by omega) h' b3
      have b2' := g3 _ _ b2
      refine ⟨.tup [xs[i], ys[i]'(by omega)], _, ?_, rfl, true, h', rfl, ?_⟩
      · unfold SZip
        rw [es h' i b3, et h' i b3, List.getElem?_eq_getElem hi, List.getElem?_eq_getElem (by omega)]
      · show Ok _ _ _
        refine ⟨.bl true, h3, callF_ok (two_ok (x := xs[i]) (y := ys[i]'(by omega)) rfl rfl) rfl q3, b2', by simp; omega, ?_, ?_, gr_setd (b3.trans g3)⟩
        · rw [List.replicate_succ', List.map_append]; rfl
        · rw [List.getElem?_set_self (List.getElem?_eq_some_iff.mp b2').1])
    (by
      rintro acc h' ⟨rfl, b2, b3⟩
      unfold SZip
      rw [es h' _ b3, et h' _ b3, List.getElem?_eq_none (by omega), List.getElem?_eq_none (by omega)])
  have hall := all_lst b2
  have e1 : ((List.replicate xs.length true).all id) = true := by simp
  rw [e1] at hall
  have ql : Bin eqI (CallB lenM (Cons (Var 0) Nil)) (CallB lenM (Cons (Var 1) Nil)) [some x, some y, none, none] h = some (.ok (.bl true), h) := by
    refine (bin_ok (callB_ok (one_ok (x := x) rfl) l0) (callB_ok (one_ok (x := y) rfl) l1) eqI_int).trans ?_
    rw [decide_eq_true (by omega)]
  exact ⟨.bl true, h2, fn_rt (seq_rt (ifS_tt (tru_bl i1) ((seq_nx (ifS_ff (or_ff (tst_ok (bin_ok i2 i3 (ne_bl b h))) (tst_ok (bin_ok i4 i5 (ne_bl c h)))) rfl)).trans (ret_ok (andV_tt ql rfl (callB_ok (one_ok q2) hall)))))), rfl, b3⟩
theorem same_atom (k : Nat) (y : IV) (h : IH) (a : atomI y = true) : F__law_same (k + 1) [y, y] h = some (.ok (.bl true), h) := by
  cases y with
  | non => rfl
  | bl b => cases b <;> rfl
  | int i => exact same_int k i h
  | str z =>
    have q2 : eqI (.str z) (.str z) h = some (.ok (.bl true), h) := by
      show some (Out.ok (IV.bl (decide (z = z))), h) = _
      rw [decide_eq_true rfl]
    refine fn_rt ((seq_nx (ifS_ff (tru_bl (b := false) rfl) rfl)).trans (seq_rt (ifS_tt (or_ff (tst_ok (k := false) rfl) (tru_bl (b := true) rfl)) (ret_ok (andV_tt (x := .bl true) (bin_ok (x := .str z) (y := .str z) rfl rfl q2) rfl rfl)))))
  | tup _ => cases a
  | fl _ => cases a
  | kl _ => cases a
  | ref _ => cases a
  | exo => cases a
theorem same_sm : ∀ (k : Nat) (x y : IV) (h : IH), SM k h x y → Ok (F__law_same k [x, y]) h fun v h' => v = .bl true ∧ Gr h h'
  | 0, _, _, _, p => p.elim
  | k + 1, x, y, h, .inl ⟨a, e⟩ => by
    subst e
    exact ⟨_, _, same_atom k x h a, rfl, Gr.refl h⟩
  | k + 1, x, y, h, .inr ⟨xs, ys, a, b, c, d⟩ => by
    have ih : ∀ i (h1 : i < xs.length) (h2 : i < ys.length), ∀ h', Gr h h' → Ok (F__law_same k [xs[i], ys[i]]) h' fun v h2 => v = .bl true ∧ Gr h' h2 := fun i h1 h2 h' g => same_sm k _ _ h' (SM.mono g (c i h1 h2))
    rcases d with ⟨rfl, rfl⟩ | ⟨n, m, rfl, rfl, e1, e2⟩
    · exact same_go a ih (s := SItems xs) (t := SItems ys) rfl (fun _ _ _ => rfl) (fun _ _ _ => rfl) b rfl rfl rfl rfl rfl rfl rfl
    · have l0 := isi_l (m := Var 0) (env := [some (.ref n), some (.ref m), none, none]) (h := h) rfl e1
      have l1 := isi_l (m := Var 1) (env := [some (.ref n), some (.ref m), none, none]) (h := h) rfl e2
      exact same_go a ih (zip_lst e1 e2) (fun h' i g => slive (g _ _ e1) i) (fun h' i g => slive (g _ _ e2) i) b (isi_ref (n := m) rfl e2) l0.1 l1.1 l0.2 l1.2 (len_lst e1) (len_lst e2)
end K02
set_option autoImplicit true
set_option Elab.async false
set_option linter.all false
set_option maxRecDepth 100000
set_option maxHeartbeats 600000
namespace K02
open PySem L2 Iv
/-! a loop that may return -/
theorem forL_rt {s : Src} {t : MTg} {b : Iv.Env → M Fl} {n : Nat} (I : Nat → Iv.Env → IH → Prop) (R : IV → IH → Prop)
    (hs : ∀ i env h, i < n → I i env h → ∃ x, s h i = some (some x) ∧ Ok (M.bind (t x env) b) h fun f h' => (∃ e, f = .nx e ∧ I (i + 1) e h') ∨ ∃ v, f = .rt v ∧ R v h')
    (he : ∀ env h, I n env h → s h n = some none) : ∀ (k i : Nat) (env : Iv.Env) (h : IH), i ≤ n → n - i < k → I i env h → Ok (ForL s t b k i env) h fun f h' => (∃ e, f = .nx e ∧ I n e h') ∨ ∃ v, f = .rt v ∧ R v h'
  | 0, i, env, h, a1, a2, a3 => by omega
  | k + 1, i, env, h, a1, a2, a3 => by
    by_cases c : i < n
    · obtain ⟨x, e1, f, h', e2, r⟩ := hs i env h c a3
      rcases r with ⟨e, rfl, e4⟩ | ⟨v, rfl, e4⟩
      · obtain ⟨f2, h2, e5, e6⟩ := forL_rt I R hs he k (i + 1) e h' (by omega) (by omega) e4
        refine ⟨f2, h2, ?_, e6⟩
        unfold ForL
        simp only [e1]
        unfold M.bind at e2 ⊢
        cases q : t x env h with
        | none => rw [q] at e2; cases e2
        | some oh =>
          obtain ⟨o, h1⟩ := oh
          cases o with
          | ex _ => rw [q] at e2; cases e2
          | ok env' =>
            rw [q] at e2
            simp only at e2 ⊢
            rw [e2]
            exact e5
      · refine ⟨.rt v, h', ?_, .inr ⟨v, rfl, e4⟩⟩
        unfold ForL
        simp only [e1]
        unfold M.bind at e2 ⊢
        cases q : t x env h with
        | none => rw [q] at e2; cases e2
        | some oh =>
          obtain ⟨o, h1⟩ := oh
          cases o with
          | ex _ => rw [q] at e2; cases e2
          | ok env' =>
            rw [q] at e2
            simp only at e2 ⊢
            rw [e2]
            exact rfl
    · have ei : i = n := by omega
      subst ei
      refine ⟨.nx env, h, ?_, .inl ⟨env, rfl, a3⟩⟩
      unfold ForL
      simp only [he env h a3]
theorem forS_rt {src : Iv.Env → M Src} {s : Src} {t : MTg} {b : Iv.Env → M Fl} {n k : Nat} {env : Iv.Env} {h h1 : IH} (I : Nat → Iv.Env → IH → Prop) (R : IV → IH → Prop) (e0 : src env h = some (.ok s, h1)) (hk : n < k) (h0 : I 0 env h1)
    (hs : ∀ i env h, i < n → I i env h → ∃ x, s h i = some (some x) ∧ Ok (M.bind (t x env) b) h fun f h' => (∃ e, f = .nx e ∧ I (i + 1) e h') ∨ ∃ v, f = .rt v ∧ R v h')
    (he : ∀ env h, I n env h → s h n = some none) : Ok (ForS k src t b env) h fun f h' => (∃ e, f = .nx e ∧ I n e h') ∨ ∃ v, f = .rt v ∧ R v h' := by
  unfold ForS
  obtain ⟨x, h', e, p⟩ := forL_rt I R hs he k 0 env h1 (by omega) (by omega) h0
  exact ⟨x, h', by rw [bind_ok e0]; exact e, p⟩
/-! names -/
theorem low_c {c : Nat} (e : 97 ≤ c ∧ c ≤ 122) : Unicode.isAlpha c = true ∧ Unicode.isLower c = true ∧ (Unicode.isUpper c || Unicode.isTitle c) = false := by
  have t : ∀ k : Fin 26, Unicode.isAlpha (97 + k.val) = true ∧ Unicode.isLower (97 + k.val) = true ∧ (Unicode.isUpper (97 + k.val) || Unicode.isTitle (97 + k.val)) = false := by decide +kernel
  have := t ⟨c - 97, by omega⟩
  have e2 : 97 + (c - 97) = c := by omega
  simpa [e2] using this
theorem lows_sok {s : Str} (o : lows s) : PyData.strOk s = true := by
  unfold PyData.strOk
  rw [← Array.all_toList, List.all_eq_true]
  intro c hc
  have := o c hc
  exact decide_eq_true (by omega)
theorem name_ok {s : Str} {h : IH} (m : NameOk s) : F_is_name [.str s] h = some (.ok (.bl true), h) := by
  obtain ⟨lo, q1, q2⟩ := m
  have q3 : Txt.isascii s = true := by
    unfold Txt.isascii
    rw [← Array.all_toList, List.all_eq_true]
    intro c hc
    have := lo c hc
    exact decide_eq_true (by omega)
  have q4 : Txt.isalpha s = true := by
    unfold Txt.isalpha
    rw [Bool.and_eq_true, ← Array.all_toList, List.all_eq_true]
    exact ⟨decide_eq_true (by omega), fun c hc => (low_c (lo c hc)).1⟩
  have q5 : Txt.islower s = true := by
    unfold Txt.islower
    have l1 : 0 < s.cps.toList.length := by rw [str_len] at q1; omega
    rw [Bool.and_eq_true, ← Array.any_toList, ← Array.any_toList, List.any_eq_true, Bool.not_eq_true', List.any_eq_false]
    exact ⟨⟨_, List.getElem_mem l1, (low_c (lo _ (List.getElem_mem l1))).2.1⟩, fun c hc => by rw [(low_c (lo c hc)).2.2]; exact Bool.false_ne_true⟩
  have i0 : NotT (Tru (IsiX .str (Var 0))) [some (.str s)] h = some (.ok false, h) := not_ok (tru_bl (b := true) rfl)
  refine fn_rt ((seq_nx (ifS_ff i0 rfl)).trans (ret_ok (andV_ok (h1 := h) ?_ (andV_ok (h1 := h) ?_ (andV_ok (h1 := h) ?_ ?_)))))
  · refine chain_ok (h3 := h) (h4 := h) (x := .int 1) (y := .int (s.length : Nat)) (w := .int 8) rfl (callB_ok (one_ok (x := .str s) rfl) (len_str (by omega))) ?_ rfl ?_
    · rw [le_int, show decide ((1 : Int) ≤ (s.length : Nat)) = true from decide_eq_true (by omega)]
    · rw [le_int, show decide (((s.length : Nat) : Int) ≤ 8) = true from decide_eq_true (by omega)]
  · exact mth_ok (x := .str s) (xs := []) rfl (h2 := h) rfl rfl (by show M.pure (IV.bl (Txt.isascii s)) h = _; rw [q3]; rfl)
  · exact mth_ok (x := .str s) (xs := []) rfl (h2 := h) rfl rfl (by show M.pure (IV.bl (Txt.isalpha s)) h = _; rw [q4]; rfl)
  · exact mth_ok (x := .str s) (xs := []) rfl (h2 := h) rfl rfl (by show M.pure (IV.bl (Txt.islower s)) h = _; rw [q5]; rfl)
theorem tuple_of_ok {xs : List IV} {n : Nat} {h : IH} : F_is_tuple_of [.tup xs, .int n] h = some (.ok (.bl (decide (xs.length = n))), h) := by
  refine fn_rt (ret_ok (andV_ok (h1 := h) rfl ((bin_ok (x := .int xs.length) (y := .int n) (callB_ok (one_ok (x := .tup xs) rfl) len_tup) rfl eqI_int).trans ?_)))
  have : decide ((xs.length : Int) = (n : Nat)) = decide (xs.length = n) := by
    rw [Bool.eq_iff_iff, decide_eq_true_iff, decide_eq_true_iff]; omega
  rw [this]
theorem tuple_of_lst {m : Nat} {xs : List IV} {n : Int} {h : IH} (e : h[m]? = some (.lst xs)) : F_is_tuple_of [.ref m, .int n] h = some (.ok (.bl false), h) := by
  have i : IsiX .tup (Var 0) [some (.ref m), some (.int n)] h = some (.ok (.bl false), h) := by
    show (match (match h[m]? with
      | some (.lst _) => some Ty.lst
      | some (.dic _) => some .dic
      | some (.fdc _) => none
      | none => none) with
      | some u => some (Out.ok (IV.bl (u.isA .tup)), h)
      | none => none) = _
    simp only [e]; rfl
  exact fn_rt (ret_ok ((show AndV (IsiX .tup (Var 0)) (Bin eqI (CallB lenM (Cons (Var 0) Nil)) (Var 1)) [some (.ref m), some (.int n)] h = some (.ok (.bl false), h) by
    unfold AndV
    exact (bind_ok i).trans ((bind_ok (x := false) (h1 := h) rfl).trans rfl))))
end K02
set_option autoImplicit true
set_option Elab.async false
set_option linter.all false
set_option maxRecDepth 100000
set_option maxHeartbeats 800000
namespace K02
open PySem L2 Iv
/-- each is a name, new, and behind all that it reads -/
def ordN (rows : List Row) : List Str → List Str → Bool
  | _, [] => true
  | laid, t :: l => decide (t ∈ rows.map Row.name) && (!decide (t ∈ laid) && ((rdO rows t).all (fun s => decide (s ∈ laid)) && ordN rows (laid ++ [t]) l))
theorem ordN_cons {rows : List Row} {laid l : List Str} {t : Str} : ordN rows laid (t :: l) = (decide (t ∈ rows.map Row.name) && (!decide (t ∈ laid) && ((rdO rows t).all (fun s => decide (s ∈ laid)) && ordN rows (laid ++ [t]) l))) := rfl
def chkB : Iv.Env → M Fl := SeqS (IfS (OrT (NotT (Tru (CallF 1 F_is_name (Cons (Var 3) Nil)))) (OrT (Tst (Bin (inM true) (Var 3) (Var 0))) (Tst (Bin (inM false) (Var 3) (Var 2))))) (RetS (Cst (.bl false))) NextS)
    (SeqS (IfS (NotT (Tru (CallB allI (Cons (LcE LN (Iter (Bin ixM (Var 0) (Var 3))) (.n 4) YesT (Bin (inM false) (Var 4) (Var 2)) [4]) Nil)))) (RetS (Cst (.bl false))) NextS)
    (AsgS (Cst (.bl true)) (TgSub (Var 2) (Var 3))))
theorem kvN_none {α : Type} {key : α → Str} {val : α → IV} {l : List α} {s : Str} (n : s ∉ l.map key) : valI (kvN key val l) (.inr s) = none := by
  unfold valI
  rw [List.find?_eq_none.mpr]
  · rfl
  · intro kv hk
    unfold kvN at hk
    obtain ⟨a, ha, rfl⟩ := List.mem_map.mp hk
    simp only [decide_eq_true_eq]
    intro q
    exact n (List.mem_map.mpr ⟨a, ha, Sum.inr.inj q⟩)
theorem order_chk {h : IH} {d : Nat} {rows : List Row} {th : List Str} (e : h[d]? = some (.dic (kvN Row.name rdV rows))) (nd : (rows.map Row.name).Nodup) (hl : rows.length ≤ 8) (rd : ∀ r ∈ rows, r.reads.length ≤ 8) (nm : ∀ s ∈ th, NameOk s) (tl : th.length < 1000) :
    Ok (F_is_order_of [.ref d, .tup (th.map .str)]) h fun v h' => v = .bl (decide (th.length = rows.length) && ordN rows [] th) ∧ Gr h h' := by
  have dl := (List.getElem?_eq_some_iff.mp e).1
  have kl : (kvN Row.name rdV rows).length = rows.length := by unfold kvN; rw [List.length_map]
  let env0 : Iv.Env := [some (.ref d), some (.tup (th.map .str)), none, none, none]
  have q0 : NotT (Tru (CallF 2 F_is_tuple_of (Cons (Var 1) (Cons (CallB lenM (Cons (Var 0) Nil)) Nil)))) env0 h = some (.ok (!decide (th.length = rows.length)), h) :=
    not_ok (tru_bl (callF_ok (two_ok (x := .tup (th.map .str)) (y := .int (rows.length : Nat)) rfl (callB_ok (one_ok (x := .ref d) rfl) (by rw [len_dic e, kl]))) rfl (by rw [tuple_of_ok, List.length_map])))
  by_cases hlen : th.length = rows.length
  case neg =>
    rw [decide_eq_false hlen] at q0
    rw [decide_eq_false hlen, Bool.false_and]
    exact ⟨.bl false, h, fn_rt (seq_rt (ifS_tt q0 rfl)), rfl, Gr.refl h⟩
  rw [decide_eq_true hlen] at q0
  rw [decide_eq_true hlen, Bool.true_and]
  obtain ⟨f, h2, q2, r2⟩ := forS_rt (src := Iter (Var 1)) (s := SItems (th.map .str)) (t := TgN 3) (b := chkB)
    (n := th.length) (k := LN) (env := [some (.ref d), some (.tup (th.map .str)), some (.ref h.length), none, none]) (h := h ++ [.dic []]) (h1 := h ++ [.dic []])
    (fun i env h' => ∃ o3, env = [some (.ref d), some (.tup (th.map .str)), some (.ref h.length), o3, none] ∧ Gr h h' ∧ ordN rows [] th = ordN rows (th.take i) (th.drop i) ∧ ∃ kvs, h'[h.length]? = some (.dic kvs) ∧ kvs.map (·.1) = (th.take i).map .inr ∧ ∀ s, (valI kvs (.inr s)).isSome = decide (s ∈ th.take i))
    (fun v h' => v = .bl false ∧ ordN rows [] th = false ∧ Gr h h')
    (iter_ok (x := .tup (th.map .str)) rfl rfl) (LN_ok (by omega)) ⟨none, rfl, Gr.push _ _, rfl, [], push_len, rfl, fun s => by simp [valI]⟩
    (by
      rintro i env h' hi ⟨o3, rfl, g, ei, kvs, k1, k2, k3⟩
      have e' := g _ _ e
      have hit : (th.map IV.str)[i]? = some (.str th[i]) := by rw [List.getElem?_map, List.getElem?_eq_getElem hi]; rfl
      rw [List.drop_eq_getElem_cons hi] at ei
      rw [ordN_cons] at ei
      have tk : th.take i ++ [th[i]] = th.take (i + 1) := by rw [List.take_succ, List.getElem?_eq_getElem hi]; rfl
      rw [tk] at ei
      generalize et : th[i] = t at *
      let envA : Iv.Env := [some (.ref d), some (.tup (th.map .str)), some (.ref h.length), some (.str t), none]
      refine ⟨.str t, by show some (th.map IV.str)[i]? = _; rw [hit], ?_⟩
      suffices q : Ok (chkB envA) h' fun f h2 => (∃ e, f = .nx e ∧ ∃ o3, e = [some (.ref d), some (.tup (th.map .str)), some (.ref h.length), o3, none] ∧ Gr h h2 ∧ ordN rows [] th = ordN rows (th.take (i + 1)) (th.drop (i + 1)) ∧ ∃ kvs, h2[h.length]? = some (.dic kvs) ∧ kvs.map (·.1) = (th.take (i + 1)).map .inr ∧ ∀ s, (valI kvs (.inr s)).isSome = decide (s ∈ th.take (i + 1))) ∨ ∃ v, f = .rt v ∧ v = .bl false ∧ ordN rows [] th = false ∧ Gr h h2 by
        obtain ⟨f, h2, q, r⟩ := q
        exact ⟨f, h2, (bind_ok (x := envA) (h1 := h') rfl).trans q, r⟩
      have nt : NameOk t := nm t (by rw [← et]; exact List.getElem_mem hi)
      have c1 : NotT (Tru (CallF 1 F_is_name (Cons (Var 3) Nil))) envA h' = some (.ok false, h') := not_ok (k := true) (tru_bl (callF_ok (one_ok (x := .str t) rfl) rfl (name_ok nt)))
      by_cases a1 : t ∈ rows.map Row.name
      case neg =>
        have c2 : Tst (Bin (inM true) (Var 3) (Var 0)) envA h' = some (.ok true, h') := tst_ok ((bin_ok (x := .str t) (y := .ref d) rfl rfl (nin_dic e')).trans (by rw [kvN_none a1]; rfl))
        rw [decide_eq_false a1, Bool.false_and] at ei
        exact ⟨.rt (.bl false), h', seq_rt (ifS_tt (or_ff c1 (or_tt c2)) rfl), .inr ⟨_, rfl, rfl, ei, g⟩⟩
      obtain ⟨r, hr, er⟩ := List.mem_map.mp a1
      have vr : valI (kvN Row.name rdV rows) (.inr t) = some (rdV r) := by rw [← er]; exact kvN_val nd hr
      have ro : rdO rows t = r.reads := by rw [← er]; exact rdO_at nd hr
      have c2 : Tst (Bin (inM true) (Var 3) (Var 0)) envA h' = some (.ok false, h') := tst_ok ((bin_ok (x := .str t) (y := .ref d) rfl rfl (nin_dic e')).trans (by rw [vr]; rfl))
      rw [decide_eq_true a1, Bool.true_and] at ei
      have c3 : Tst (Bin (inM false) (Var 3) (Var 2)) envA h' = some (.ok (decide (t ∈ th.take i)), h') := tst_ok ((bin_ok (x := .str t) (y := .ref h.length) rfl rfl (in_dic k1)).trans (by rw [k3]))
      by_cases a2 : t ∈ th.take i
      case pos =>
        rw [decide_eq_true a2] at c3
        rw [decide_eq_true a2, Bool.not_true, Bool.false_and] at ei
        exact ⟨.rt (.bl false), h', seq_rt (ifS_tt (or_ff c1 (or_ff c2 c3)) rfl), .inr ⟨_, rfl, rfl, ei, g⟩⟩
      rw [decide_eq_false a2] at c3
      rw [decide_eq_false a2, Bool.not_false, Bool.true_and] at ei
      have k1' : ∀ acc, (h' ++ [Iv.IO.lst acc])[h.length]? = some (.dic kvs) := fun acc => by rw [List.getElem?_append_left (List.getElem?_eq_some_iff.mp k1).1]; exact k1
      have rl := rd r hr
      have inn : LcE LN (Iter (Bin ixM (Var 0) (Var 3))) (.n 4) YesT (Bin (inM false) (Var 4) (Var 2)) [4] envA h' = some (.ok (.ref h'.length), h' ++ [Iv.IO.lst ((r.reads.map fun s => decide (s ∈ th.take i)).map IV.bl)]) := by
        refine (lcE_pure (k := LN) (s := SItems (r.reads.map .str)) (h1 := h') (r.reads.map .str) (fun _ => true) (fun x => match x with | .str s => .bl (decide (s ∈ th.take i)) | x => x) (iter_ok (x := .tup (r.reads.map .str)) (bin_ok (x := .ref d) (y := .str t) rfl rfl (ix_dic e' rfl vr)) rfl) (LN_ok (by rw [List.length_map]; omega)) (by rw [List.length_map]; omega) (fun acc i => rfl) ?_).trans ?_
        · intro x hx
          obtain ⟨s, hs2, rfl⟩ := List.mem_map.mp hx
          exact ⟨_, rfl, fun acc => ⟨rfl, fun _ => (bin_ok (x := .str s) (y := .ref h.length) rfl rfl (in_dic (k1' acc))).trans (by rw [k3])⟩⟩
        · rw [List.filter_eq_self.mpr (fun _ _ => rfl), List.map_map, List.map_map]
          rfl
      have al := all_lst (h := h' ++ [Iv.IO.lst ((r.reads.map fun s => decide (s ∈ th.take i)).map IV.bl)]) (n := h'.length) push_len
      have ea : ((r.reads.map fun s => decide (s ∈ th.take i)).all id) = (rdO rows t).all (fun s => decide (s ∈ th.take i)) := by rw [List.all_map, ro]; rfl
      rw [ea] at al
      have c4 : NotT (Tru (CallB allI (Cons (LcE LN (Iter (Bin ixM (Var 0) (Var 3))) (.n 4) YesT (Bin (inM false) (Var 4) (Var 2)) [4]) Nil))) envA h' = some (.ok (!(rdO rows t).all (fun s => decide (s ∈ th.take i))), h' ++ [Iv.IO.lst ((r.reads.map fun s => decide (s ∈ th.take i)).map IV.bl)]) := not_ok (tru_bl (callB_ok (one_ok inn) al))
      cases a3 : (rdO rows t).all (fun s => decide (s ∈ th.take i)) with
      | false =>
        rw [a3] at c4
        rw [a3, Bool.false_and] at ei
        exact ⟨.rt (.bl false), _, (seq_nx (ifS_ff (or_ff c1 (or_ff c2 c3)) rfl)).trans (seq_rt (ifS_tt c4 rfl)), .inr ⟨_, rfl, rfl, ei, g.trans (Gr.push _ _)⟩⟩
      | true =>
        rw [a3] at c4
        rw [a3, Bool.true_and] at ei
        have kvl : kvs.length = i := by
          have := congrArg List.length k2
          rw [List.length_map, List.length_map, List.length_take] at this; omega
        have st := set_dic (y := .str t) (v := .bl true) (k := .inr t) (k1' ((r.reads.map fun s => decide (s ∈ th.take i)).map IV.bl)) rfl (by omega)
        refine ⟨.nx envA, _, (seq_nx (ifS_ff (or_ff c1 (or_ff c2 c3)) rfl)).trans ((seq_nx (ifS_ff c4 rfl)).trans (asgT_ok (x := .bl true) rfl (tgSub_ok (x := .ref h.length) (y := .str t) rfl rfl st))), .inl ⟨_, rfl, some (.str t), rfl, gr_setd (g.trans (Gr.push _ _)), ei, _, List.getElem?_set_self (List.getElem?_eq_some_iff.mp (k1' _)).1, ?_, ?_⟩⟩
        · rw [put_out, k2, ← tk, List.map_append]; rfl
          rw [k2]
          intro m
          obtain ⟨s, hs, e2⟩ := List.mem_map.mp m
          exact a2 (Sum.inr.inj e2 ▸ hs)
        · intro s
          rw [valI_put, ← tk]
          by_cases c : s = t
          · subst c; rw [if_pos rfl]; exact (decide_eq_true (List.mem_append_right _ (List.mem_singleton.mpr rfl))).symm
          · rw [if_neg (by intro q; exact c (Sum.inr.inj q)), k3, Bool.eq_iff_iff, decide_eq_true_iff, decide_eq_true_iff]
            exact ⟨fun m => List.mem_append_left _ m, fun m => (List.mem_append.mp m).elim id fun m => absurd (List.mem_singleton.mp m) c⟩)
    (by
      rintro env h' ⟨o3, rfl, g⟩
      show some (th.map IV.str)[th.length]? = _
      rw [List.getElem?_eq_none (by rw [List.length_map]; omega)])
  have mid : ∀ {v : IV} {h3 : IH}, SeqS (ForS LN (Iter (Var 1)) (TgN 3) chkB) (RetS (Cst (.bl true))) [some (.ref d), some (.tup (th.map .str)), some (.ref h.length), none, none] (h ++ [Iv.IO.dic []]) = some (.ok (.rt v), h3) → F_is_order_of [.ref d, .tup (th.map .str)] h = some (.ok v, h3) := fun q => fn_rt ((seq_nx (ifS_ff q0 rfl)).trans ((seq_nx (asg_ok (x := .ref h.length) (h1 := h ++ [Iv.IO.dic []]) rfl)).trans q))
  rcases r2 with ⟨en, rfl, o3, rfl, g2, eo, _⟩ | ⟨v, rfl, rfl, eo, g2⟩
  · refine ⟨.bl true, h2, mid ((seq_nx q2).trans (ret_ok (x := .bl true) rfl)), ?_, g2⟩
    rw [eo, List.drop_length]; rfl
  · exact ⟨.bl false, h2, mid (seq_rt q2), by rw [eo], g2⟩
end K02
set_option autoImplicit true
set_option Elab.async false
set_option linter.all false
set_option maxRecDepth 100000
set_option maxHeartbeats 800000
namespace K02
open PySem L2 Iv
mutual
theorem LR.pure_eq {lo : Nat} {h : IH} : ∀ {x y : IV}, LR lo h x y → pureI x = true → x = y
  | _, _, .atom _, _ => rfl
  | _, _, .ref _ _ _, p => by simp [pureI] at p
  | _, _, .tup c, p => by
    have := LRs.pure_eq c (by simpa [pureI] using p)
    rw [this]
theorem LRs.pure_eq {lo : Nat} {h : IH} : ∀ {xs ys : List IV}, LRs lo h xs ys → pureIs xs = true → xs = ys
  | _, _, .nil, _ => rfl
  | _, _, .cons a b, p => by
    rw [pureIs, Bool.and_eq_true] at p
    rw [LR.pure_eq a p.1, LRs.pure_eq b p.2]
end
theorem callD_ok {F : List IV → M IV} {a : Iv.Env → M (List IV)} {env : Iv.Env} {h h1 : IH} {x y : IV} (e1 : a env h = some (.ok [x], h1)) (hp : pureI x = true → (∃ h', F [x] [] = some (.ok y, h')) ∧ pureI y = true) (hq : Ok (F [x]) h1 fun w h' => w = y ∧ Gr h1 h') : Ok (CallD 1 F a env) h fun w h' => w = y ∧ Gr h1 h' := by
  unfold CallD
  by_cases c : pureI x = true
  · obtain ⟨⟨h', e2⟩, e3⟩ := hp c
    have ps : pureIs [x] = true := by simp [pureIs, c]
    refine ⟨y, h1, (bind_ok e1).trans ?_, rfl, Gr.refl h1⟩
    show (if pureIs [x] = true then _ else _) = _
    rw [if_pos ps, if_pos ⟨rfl, ps⟩]
    simp only [e2]
    rw [if_pos e3]
  · obtain ⟨w, h2, e2, rfl, g⟩ := hq
    have ps : ¬ pureIs [x] = true := by simp [pureIs, c]
    refine ⟨w, h2, (bind_ok e1).trans ?_, rfl, g⟩
    show (if pureIs [x] = true then _ else _) = _
    rw [if_neg ps]
    exact noex_ok e2
/-- a block as the text needs it -/
structure Hst (rows : List Row) (live : List Str) : Prop where
  nd : (rows.map Row.name).Nodup
  hl : rows.length ≤ 8
  rd : ∀ r ∈ rows, r.reads.length ≤ 8 ∧ ∀ s ∈ r.reads, s ∈ rows.map Row.name
  asc : Asc (rows.map Row.name)
  nm : ∀ s ∈ rows.map Row.name, NameOk s
  ll : live.length ≤ 1000
  good : ∃ q : List Row, rows.Perm q ∧ Goods q
def hV (rows : List Row) (live : List Str) : IV := .tup [.tup (rows.map Row.v), .tup (live.map .str)]
theorem Hst.pd {rows : List Row} {live : List Str} (H : Hst rows live) (k : Nat) : Pd (k + 5) (hV rows live) := by
  refine ⟨by show 2 < 100000; omega, fun y hy => ?_⟩
  rcases List.mem_cons.mp hy with rfl | hy
  · refine ⟨by rw [List.length_map]; have := H.hl; omega, fun y hy => ?_⟩
    obtain ⟨r, hr, rfl⟩ := List.mem_map.mp hy
    refine ⟨by show 3 < 100000; omega, fun y hy => ?_⟩
    rcases List.mem_cons.mp hy with rfl | hy
    · exact rfl
    · rcases List.mem_cons.mp hy with rfl | hy
      · exact pd_strs (by have := (H.rd r hr).1; omega) _
      · rcases List.mem_cons.mp hy with rfl | hy
        · exact rfl
        · simp at hy
  · rcases List.mem_cons.mp hy with rfl | hy
    · exact pd_strs (by have := H.ll; omega) _
    · simp at hy
theorem hV_pure {rows : List Row} {live : List Str} : pureI (hV rows live) = true := by
  have rw_ : ∀ l : List Row, pureIs (l.map Row.v) = true := fun l => by
    induction l with
    | nil => rfl
    | cons r l ih =>
      show (pureI r.v && pureIs (l.map Row.v)) = true
      rw [ih, Bool.and_true]
      show (true && (pureIs (r.reads.map .str) && (true && true))) = true
      rw [pure_strs]; rfl
  show (pureIs (rows.map Row.v) && (pureIs (live.map .str) && true)) = true
  rw [rw_, pure_strs]; rfl
/-- how the program reads a block -/
theorem tupD_ok {h : IH} {x : IV} {rows : List Row} {live : List Str} {rest : Iv.Env} (H : Hst rows live) (l : LR 0 h x (hV rows live)) : Ok (CallD 1 (F_tupled 16) (Cons (Var 0) Nil) (some x :: rest)) h fun w h' => w = hV rows live ∧ Gr h h' :=
  callD_ok (F := F_tupled 16) (a := Cons (Var 0) Nil) (env := some x :: rest) (h := h) (h1 := h) (x := x) (y := hV rows live) (one_ok rfl) (fun c => by
    have exv := l.pure_eq c
    subst exv
    obtain ⟨w, h', q, ew, _⟩ := tupled_ok 16 _ _ [] (H.pd 11) (LR.self 16 _ (H.pd 11))
    exact ⟨⟨h', by rw [q, ew]⟩, c⟩) (tupled_ok 16 x _ h (H.pd 11) l)
def chk (rows : List Row) (th : List Str) : Bool := decide (th.length = rows.length) && ordN rows [] th
theorem is_order_ok {h : IH} {x : IV} {rows : List Row} {live th : List Str} (H : Hst rows live) (l : LR 0 h x (hV rows live)) (nm : ∀ s ∈ th, NameOk s) (tl : th.length < 1000) : Ok (F_is_order [x, .tup (th.map .str)]) h fun v h' => v = .bl (chk rows th) ∧ Gr h h' := by
  obtain ⟨w, h1, q1, rfl, g1⟩ := tupD_ok (rest := [some (.tup (th.map .str))]) H l
  obtain ⟨w, h2, q2, rfl, g2⟩ := order_chk (h := h1 ++ [.dic (kvN Row.name rdV rows)]) (d := h1.length) push_len H.nd H.hl (fun r hr => (H.rd r hr).1) nm tl
  exact ⟨_, h2, fn_rt (ret_ok (callF_ok (two_ok (callF_ok (one_ok (bin_ok (x := hV rows live) (y := .int 0) q1 rfl (ix_tup rfl))) rfl (reads_ok H.nd H.hl)) rfl) rfl q2)), rfl, (g1.trans (Gr.push _ _)).trans g2⟩
theorem is_order_lst {h : IH} {x : IV} {rows : List Row} {live : List Str} {m : Nat} {xs : List IV} (H : Hst rows live) (l : LR 0 h x (hV rows live)) (e : h[m]? = some (.lst xs)) : Ok (F_is_order [x, .ref m]) h fun v h' => v = .bl false ∧ Gr h h' := by
  obtain ⟨w, h1, q1, rfl, g1⟩ := tupD_ok (rest := [some (.ref m)]) H l
  have e2 : (h1 ++ [Iv.IO.dic (kvN Row.name rdV rows)])[m]? = some (.lst xs) := Gr.push _ _ _ _ (g1 _ _ e)
  have ed : (h1 ++ [Iv.IO.dic (kvN Row.name rdV rows)])[h1.length]? = some (.dic (kvN Row.name rdV rows)) := push_len
  have q2 : F_is_order_of [.ref h1.length, .ref m] (h1 ++ [.dic (kvN Row.name rdV rows)]) = some (.ok (.bl false), h1 ++ [.dic (kvN Row.name rdV rows)]) := by
    refine fn_rt (seq_rt (ifS_tt (not_ok (k := false) (tru_bl (callF_ok (two_ok (x := .ref m) rfl (callB_ok (one_ok (x := .ref h1.length) rfl) (len_dic ed))) rfl (tuple_of_lst e2)))) rfl))
  exact ⟨_, _, fn_rt (ret_ok (callF_ok (two_ok (callF_ok (one_ok (bin_ok (x := hV rows live) (y := .int 0) q1 rfl (ix_tup rfl))) rfl (reads_ok H.nd H.hl)) rfl) rfl q2)), rfl, g1.trans (Gr.push _ _)⟩
/-! the least order -/
def freeL (rows : List Row) (laid : List Str) : List Str := (rows.filter (freeB laid)).map Row.name
def leastL (rows : List Row) : Nat → List Str
  | 0 => []
  | k + 1 => leastL rows k ++ (freeL rows (leastL rows k)).take 1
theorem ordN_snoc {rows : List Row} {t : Str} : ∀ {l laid : List Str}, ordN rows laid (l ++ [t]) = (ordN rows laid l && ordN rows (laid ++ l) [t])
  | [], laid => by simp [ordN]
  | a :: l, laid => by
    rw [List.cons_append, ordN_cons, ordN_cons, ordN_snoc]
    simp only [List.append_assoc, List.singleton_append, Bool.and_assoc]
structure LF (rows : List Row) (k : Nat) : Prop where
  len : (leastL rows k).length = k
  nd : (leastL rows k).Nodup
  sub : ∀ s ∈ leastL rows k, s ∈ rows.map Row.name
  ord : ordN rows [] (leastL rows k) = true
theorem free_hd {rows : List Row} {live : List Str} (H : Hst rows live) {o : List Str} (l : o.length < rows.length) : ∃ t q, freeL rows o = t :: q ∧ t ∈ rows.map Row.name ∧ t ∉ o ∧ (rdO rows t).all (fun s => decide (s ∈ o)) = true := by
  obtain ⟨q, pq, gq⟩ := H.good
  have nq : (q.map Row.name).Nodup := (pq.map Row.name).nodup H.nd
  obtain ⟨r, hr, fr⟩ := free_ne (o := o) gq nq (by rw [← pq.length_eq]; exact l)
  have hm : r.name ∈ freeL rows o := List.mem_map.mpr ⟨r, List.mem_filter.mpr ⟨pq.mem_iff.mpr hr, fr⟩, rfl⟩
  cases e : freeL rows o with
  | nil => rw [e] at hm; simp at hm
  | cons t l =>
    refine ⟨t, l, rfl, ?_⟩
    have ht : t ∈ freeL rows o := by rw [e]; simp
    obtain ⟨z, hz, rfl⟩ := List.mem_map.mp ht
    obtain ⟨z1, z2⟩ := List.mem_filter.mp hz
    unfold freeB at z2
    rw [Bool.and_eq_true] at z2
    exact ⟨List.mem_map.mpr ⟨z, z1, rfl⟩, by simpa using z2.1, by rw [rdO_at H.nd z1]; exact z2.2⟩
theorem lf {rows : List Row} {live : List Str} (H : Hst rows live) : ∀ k, k ≤ rows.length → LF rows k
  | 0, _ => ⟨rfl, List.nodup_nil, by intro s hs; simp [leastL] at hs, rfl⟩
  | k + 1, hk => by
    have L := lf H k (by omega)
    obtain ⟨t, q, e, m1, m2, m3⟩ := free_hd H (o := leastL rows k) (by rw [L.len]; omega)
    have es : leastL rows (k + 1) = leastL rows k ++ [t] := by
      show leastL rows k ++ (freeL rows (leastL rows k)).take 1 = _
      rw [e]; rfl
    refine ⟨by rw [es, List.length_append, L.len]; rfl, ?_, ?_, ?_⟩
    · rw [es, List.nodup_append]
      exact ⟨L.nd, by simp, fun a ha b hb => by rw [List.mem_singleton.mp hb]; rintro rfl; exact m2 ha⟩
    · intro s hs
      rw [es] at hs
      rcases List.mem_append.mp hs with hs | hs
      · exact L.sub s hs
      · rw [List.mem_singleton.mp hs]; exact m1
    · rw [es, ordN_snoc, L.ord, Bool.true_and, List.nil_append, ordN_cons, decide_eq_true m1, decide_eq_false m2, m3]
      rfl
def freeS (rows : List Row) (o : List Str) : IV → Bool
  | .str s => !decide (s ∈ o) && (rdO rows s).all (fun t => decide (t ∈ o))
  | _ => false
theorem freeS_l {rows all : List Row} {o : List Str} (h : ∀ r ∈ rows, rdO all r.name = r.reads) : (((rows.map Row.name).map IV.str).filter (freeS all o)) = ((rows.filter (freeB o)).map Row.name).map .str := by
  induction rows with
  | nil => rfl
  | cons r l ih =>
    have e : freeS all o (.str r.name) = freeB o r := by
      show (!decide (r.name ∈ o) && (rdO all r.name).all _) = _
      rw [h r (by simp)]; rfl
    rw [List.map_cons, List.map_cons, List.filter_cons, List.filter_cons, e, ih fun z hz => h z (by simp [hz])]
    cases freeB o r <;> rfl
theorem next_ok {h : IH} {D L : Nat} {rows : List Row} {live o : List Str} {kvs : List (Key × IV)} (H : Hst rows live) (eD : h[D]? = some (.fdc (kvN Row.name rdV rows))) (eL : h[L]? = some (.dic kvs)) (kv : ∀ s, (valI kvs (.inr s)).isSome = decide (s ∈ o)) :
    Ok (F_next_names [.ref D, .ref L]) h fun v h' => (∃ n, v = .ref n ∧ h'[n]? = some (.lst ((freeL rows o).map .str))) ∧ Gr h h' := by
  have hl := H.hl
  let env : Iv.Env := [some (.ref D), some (.ref L), none, none]
  obtain ⟨v, h2, q, rfl, e2, g⟩ := lcE_gr (k := LN) (src := Iter (Var 0)) (s := SKeys D) (p := .n 2) (c := AndT (Tst (Bin (inM true) (Var 2) (Var 1))) (Tru (CallB allI (Cons (LcE LN (Iter (Bin ixM (Var 0) (Var 2))) (.n 3) YesT (Bin (inM false) (Var 3) (Var 1)) [3]) Nil)))) (el := Var 2) (vs := [2]) (env := env) (h := h) (h1 := h) ((rows.map Row.name).map .str) (freeS rows o) id
    (iter_ok (x := .ref D) rfl (src_fdc eD)) (LN_ok (by rw [List.length_map, List.length_map]; omega)) (by rw [List.length_map, List.length_map]; omega)
    (fun h' i g => by rw [skeys (g _ _ eD) kvN_keys]; simp only [List.getElem?_map])
    (fun x hx => by
      obtain ⟨s, hs, rfl⟩ := List.mem_map.mp hx
      obtain ⟨r, hr, er⟩ := List.mem_map.mp hs
      refine ⟨_, rfl, fun h' g => ?_⟩
      let env2 : Iv.Env := [some (.ref D), some (.ref L), some (.str s), none]
      have t1 : Tst (Bin (inM true) (Var 2) (Var 1)) env2 h' = some (.ok (!decide (s ∈ o)), h') := tst_ok ((bin_ok (x := .str s) (y := .ref L) rfl rfl (nin_dic (g _ _ eL))).trans (by rw [kv]))
      have ro : rdO rows s = r.reads := by rw [← er]; exact rdO_at H.nd hr
      have vr : valI (kvN Row.name rdV rows) (.inr s) = some (rdV r) := by rw [← er]; exact kvN_val H.nd hr
      by_cases c : s ∈ o
      · rw [decide_eq_true c] at t1
        refine ⟨false, h', and_ff t1, ?_, Gr.refl _, fun q => by cases q⟩
        show false = (!decide (s ∈ o) && _)
        rw [decide_eq_true c]; rfl
      · rw [decide_eq_false c] at t1
        have rl := (H.rd r hr).1
        have inn : LcE LN (Iter (Bin ixM (Var 0) (Var 2))) (.n 3) YesT (Bin (inM false) (Var 3) (Var 1)) [3] env2 h' = some (.ok (.ref h'.length), h' ++ [Iv.IO.lst ((r.reads.map fun t => decide (t ∈ o)).map IV.bl)]) := by
          refine (lcE_pure (k := LN) (s := SItems (r.reads.map .str)) (h1 := h') (r.reads.map .str) (fun _ => true) (fun x => match x with | .str t => .bl (decide (t ∈ o)) | x => x) (iter_ok (x := .tup (r.reads.map .str)) (bin_ok (x := .ref D) (y := .str s) rfl rfl (ix_fdc (g _ _ eD) rfl vr)) rfl) (LN_ok (by rw [List.length_map]; omega)) (by rw [List.length_map]; omega) (fun acc i => rfl) ?_).trans ?_
          · intro x hx
            obtain ⟨t, ht, rfl⟩ := List.mem_map.mp hx
            exact ⟨_, rfl, fun acc => ⟨rfl, fun _ => (bin_ok (x := .str t) (y := .ref L) rfl rfl (in_dic (Gr.push _ _ _ _ (g _ _ eL)))).trans (by rw [kv])⟩⟩
          · rw [List.filter_eq_self.mpr (fun _ _ => rfl), List.map_map, List.map_map]
            rfl
        have al := all_lst (h := h' ++ [Iv.IO.lst ((r.reads.map fun t => decide (t ∈ o)).map IV.bl)]) (n := h'.length) push_len
        have ea : ((r.reads.map fun t => decide (t ∈ o)).all id) = (rdO rows s).all (fun t => decide (t ∈ o)) := by rw [List.all_map, ro]; rfl
        rw [ea] at al
        refine ⟨_, _, and_tt t1 (tru_bl (callB_ok (one_ok inn) al)), ?_, Gr.push _ _, fun _ => ⟨.str s, _, rfl, rfl, Gr.refl _⟩⟩
        show _ = (!decide (s ∈ o) && _)
        rw [decide_eq_false c]; rfl)
  rw [List.map_id, freeS_l fun r hr => rdO_at H.nd hr] at e2
  have ql : lockM 0 (LcE LN (Iter (Var 0)) (.n 2) (AndT (Tst (Bin (inM true) (Var 2) (Var 1))) (Tru (CallB allI (Cons (LcE LN (Iter (Bin ixM (Var 0) (Var 2))) (.n 3) YesT (Bin (inM false) (Var 3) (Var 1)) [3]) Nil)))) (Var 2) [2]) env h = some (.ok (.ref h.length), h2) := by
    have : lockM 0 (LcE LN (Iter (Var 0)) (.n 2) (AndT (Tst (Bin (inM true) (Var 2) (Var 1))) (Tru (CallB allI (Cons (LcE LN (Iter (Bin ixM (Var 0) (Var 2))) (.n 3) YesT (Bin (inM false) (Var 3) (Var 1)) [3]) Nil)))) (Var 2) [2]) env h = LcE LN (Iter (Var 0)) (.n 2) (AndT (Tst (Bin (inM true) (Var 2) (Var 1))) (Tru (CallB allI (Cons (LcE LN (Iter (Bin ixM (Var 0) (Var 2))) (.n 3) YesT (Bin (inM false) (Var 3) (Var 1)) [3]) Nil)))) (Var 2) [2] env h := by
      unfold lockM
      simp only [env, List.getElem?_cons_zero, eD]
    rw [this]; exact q
  have fl : (freeL rows o).length ≤ 8 := by
    unfold freeL
    rw [List.length_map]
    have := List.length_filter_le (freeB o) rows
    omega
  have qs := sort_strs2 (ss := freeL rows o) e2 (by omega)
  have asc : Asc (freeL rows o) := List.Pairwise.sublist (List.Sublist.map _ List.filter_sublist) H.asc
  rw [← asc_one asc (List.Perm.refl _)] at qs
  exact ⟨_, _, fn_rt (ret_ok (callB_ok (one_ok ql) qs)), ⟨_, rfl, push_len⟩, g.trans (Gr.push _ _)⟩
end K02
set_option autoImplicit true
set_option Elab.async false
set_option linter.all false
set_option maxRecDepth 100000
set_option maxHeartbeats 800000
namespace K02
open PySem L2 Iv
theorem kvN_some {f : Str → IV} {l : List Str} {s : Str} (n : l.Nodup) : (valI (kvN id f l) (.inr s)).isSome = decide (s ∈ l) := by
  by_cases c : s ∈ l
  · have := kvN_val (key := id) (val := f) (l := l) (a := s) (by rw [List.map_id]; exact n) c
    rw [decide_eq_true c]
    have e : valI (kvN id f l) (.inr s) = some (f s) := this
    rw [e]; rfl
  · rw [decide_eq_false c, kvN_none (by rw [List.map_id]; exact c)]; rfl
def lstB : Iv.Env → M Fl := AsgS (Cst (.bl true)) (TgSub (Var 2) (Bin ixM (CallF 2 F_next_names (Cons (Var 1) (Cons (Var 2) Nil))) (Cst (.int 0))))
def tr1 : Str → IV := fun _ => .bl true
theorem least_ok {h : IH} {x : IV} {rows : List Row} {live : List Str} (H : Hst rows live) (l : LR 0 h x (hV rows live)) : Ok (F_least_order [x]) h fun v h' => v = .tup ((leastL rows rows.length).map .str) ∧ Gr h h' := by
  obtain ⟨w, h1, q1, rfl, g1⟩ := tupD_ok (rest := [none, none, none]) H l
  have hl := H.hl
  have qr := reads_ok (h := h1) H.nd H.hl
  let h3 : IH := (h1 ++ [.dic (kvN Row.name rdV rows)]) ++ [.dic []]
  have l3 : h3.length = h1.length + 2 := by simp [h3]
  have eD : h3[h1.length]? = some (.dic (kvN Row.name rdV rows)) := Gr.push _ _ _ _ push_len
  have eL : h3[h1.length + 1]? = some (.dic []) := by
    have : (h1 ++ [Iv.IO.dic (kvN Row.name rdV rows)]).length = h1.length + 1 := by simp
    rw [← this]; exact push_len
  have g3 : Gr h h3 := (g1.trans (Gr.push _ _)).trans (Gr.push _ _)
  have hlen := K02.Gr.le g1
  let env3 : Iv.Env := [some x, some (.ref h1.length), some (.ref (h1.length + 1)), none]
  have lk : Ok (lockM 1 (ForS LN (Iter (Var 1)) (TgN 3) lstB) env3) h3 fun f h4 => (∃ o3, f = .nx [some x, some (.ref h1.length), some (.ref (h1.length + 1)), o3]) ∧ Gr h h4 ∧ h4[h1.length + 1]? = some (.dic (kvN id tr1 (leastL rows rows.length))) := by
    refine lock_ok (n := h1.length) rfl eD ?_
    have eD' : (h3.set h1.length (.fdc (kvN Row.name rdV rows)))[h1.length]? = some (.fdc (kvN Row.name rdV rows)) := List.getElem?_set_self (by omega)
    have eL' : (h3.set h1.length (.fdc (kvN Row.name rdV rows)))[h1.length + 1]? = some (.dic []) := by rw [List.getElem?_set_ne (by omega)]; exact eL
    have gL : ∀ m p, m ≠ h1.length → h3[m]? = some p → (h3.set h1.length (.fdc (kvN Row.name rdV rows)))[m]? = some p := fun m p hm e => by rw [List.getElem?_set_ne (Ne.symm hm)]; exact e
    generalize h3.set h1.length (.fdc (kvN Row.name rdV rows)) = hL at *
    obtain ⟨f, h2, q2, env2, rfl, o3, rfl, g2, e2⟩ := forS_ok (src := Iter (Var 1)) (s := SKeys h1.length) (t := TgN 3) (b := lstB)
      (n := rows.length) (k := LN) (env := env3) (h := hL) (h1 := hL)
      (fun i env h' => ∃ o3, env = [some x, some (.ref h1.length), some (.ref (h1.length + 1)), o3] ∧ GrX (h1.length + 1) hL h' ∧ h'[h1.length + 1]? = some (.dic (kvN id tr1 (leastL rows i))))
      (iter_ok (x := .ref h1.length) rfl (src_fdc eD')) (LN_ok (by omega)) ⟨none, rfl, GrX.refl _ _, eL'⟩
      (by
        rintro i env h' hi ⟨o3, rfl, g, e⟩
        have L := lf H i (by omega)
        have ed := g h1.length _ (by omega) eD'
        obtain ⟨t, q, ef, m1, m2, m3⟩ := free_hd H (o := leastL rows i) (by rw [L.len]; exact hi)
        obtain ⟨v, h4, q4, ⟨n, rfl, e4⟩, g4⟩ := next_ok (o := leastL rows i) H ed e (fun s => kvN_some L.nd)
        rw [ef] at e4
        have e' := g4 _ _ e
        have st := set_dic (y := .str t) (v := .bl true) (k := .inr t) e' rfl (by unfold kvN; rw [List.length_map, L.len]; omega)
        have ep : putI (kvN id tr1 (leastL rows i)) (.inr t) (.bl true) = kvN id tr1 (leastL rows (i + 1)) := by
          have := kvN_put (key := id) (val := tr1) (l := leastL rows i) (a := t) (by rw [List.map_id]; exact m2)
          refine this.trans ?_
          show _ = kvN id tr1 (leastL rows i ++ (freeL rows (leastL rows i)).take 1)
          rw [ef]; rfl
        rw [ep] at st
        let k : Str := (rows[i]).name
        let envA : Iv.Env := [some x, some (.ref h1.length), some (.ref (h1.length + 1)), some (.str k)]
        have q5 : lstB envA h' = some (.ok (.nx envA), h4.set (h1.length + 1) (.dic (kvN id tr1 (leastL rows (i + 1))))) :=
          asgT_ok (x := .bl true) rfl (tgSub_ok (x := .ref (h1.length + 1)) (y := .str t) rfl (bin_ok (x := .ref n) (y := .int 0) (callF_ok (two_ok (x := .ref h1.length) (y := .ref (h1.length + 1)) rfl rfl) rfl q4) rfl (ix_lst e4 (by rw [atI_nn (by omega) (by rw [List.length_map, List.length_cons]; omega)]; rfl))) st)
        refine ⟨.str k, ?_, _, _, (bind_ok (x := envA) (h1 := h') rfl).trans q5, _, .inl rfl, some (.str k), rfl, ?_, List.getElem?_set_self (List.getElem?_eq_some_iff.mp e').1⟩
        · rw [skeys ed kvN_keys]
          simp only [List.getElem?_map, List.getElem?_eq_getElem hi]; rfl
        · intro m p hm em
          rw [List.getElem?_set_ne (Ne.symm hm)]
          exact g4 _ _ (g m p hm em))
      (by
        rintro env h' ⟨o3, rfl, g, e⟩
        rw [skeys (g h1.length _ (by omega) eD') kvN_keys, List.getElem?_eq_none (by rw [List.length_map]; omega)]; rfl)
    have ed := g2 h1.length _ (by omega) eD'
    refine ⟨_, h2, q2, ed, ⟨o3, rfl⟩, ?_, by rw [List.getElem?_set_ne (by omega)]; exact e2⟩
    intro m p em
    have lm := (List.getElem?_eq_some_iff.mp em).1
    rw [List.getElem?_set_ne (by omega)]
    exact g2 m p (by omega) (gL m p (by omega) (g3 _ _ em))
  obtain ⟨f, h4, q4, ⟨o3, rfl⟩, g4, e4⟩ := lk
  have qt : tupDM [.ref (h1.length + 1)] h4 = some (.ok (.tup ((leastL rows rows.length).map .str)), h4) := by
    show (match h4[h1.length + 1]? with
      | some (.dic kvs) => some (Out.ok (IV.tup (kvs.map fun (kv : Key × IV) => match kv.1 with | .inl i => IV.int i | .inr s => .str s)), h4)
      | _ => none) = _
    simp only [e4]
    unfold kvN
    rw [List.map_map]; rfl
  have d2 : DNew [some x, some (.ref h1.length), none, none] (h1 ++ [.dic (kvN Row.name rdV rows)]) = some (.ok (.ref (h1.length + 1)), h3) := by
    show some (Out.ok (IV.ref (h1 ++ [Iv.IO.dic (kvN Row.name rdV rows)]).length), _) = _
    rw [show (h1 ++ [Iv.IO.dic (kvN Row.name rdV rows)]).length = h1.length + 1 by simp]
  exact ⟨_, h4, fn_rt ((seq_nx (asg_ok (callF_ok (one_ok (bin_ok (x := hV rows live) (y := .int 0) q1 rfl (ix_tup rfl))) rfl qr))).trans ((seq_nx (asg_ok d2)).trans ((seq_nx q4).trans (ret_ok (callB_ok (one_ok (x := .ref (h1.length + 1)) rfl) qt))))), rfl, g4⟩
end K02
set_option autoImplicit true
set_option Elab.async false
set_option linter.all false
set_option maxRecDepth 100000
set_option maxHeartbeats 800000
namespace K02
open PySem L2 Iv
/-- the dict of reads, by the law -/
theorem pairs_rows : ∀ l : List Row, pairsI (l.map fun r => IV.tup [.str r.name, rdV r]) = some (kvN Row.name rdV l)
  | [] => rfl
  | r :: l => by
    show (match keyI (.str r.name), pairsI (l.map fun r => IV.tup [.str r.name, rdV r]) with
    | some k, some q => some ((k, rdV r) :: q)
    | _, _ => none) = _
    rw [pairs_rows l]; rfl
theorem merge_rows : ∀ (l p : List Row), ((p ++ l).map Row.name).Nodup → mergeI (kvN Row.name rdV p) (kvN Row.name rdV l) = kvN Row.name rdV (p ++ l)
  | [], p, _ => by rw [List.append_nil]; rfl
  | r :: l, p, n => by
    have hr : r.name ∉ p.map Row.name := by
      rw [List.map_append, List.map_cons, List.nodup_append] at n
      intro m
      exact n.2.2 _ m _ (List.mem_cons_self ..) rfl
    have := kvN_put (key := Row.name) (val := rdV) (l := p) (a := r) hr
    show mergeI (putI (kvN Row.name rdV p) (.inr r.name) (rdV r)) (kvN Row.name rdV l) = _
    rw [this, merge_rows l (p ++ [r]) (by rw [List.append_assoc]; exact n), List.append_assoc]; rfl
theorem under_ok {rs p : List Str} (ok : ∀ s ∈ rs, PyData.strOk s = true) (hl : rs.length < 100000) : ∃ h', F__law_under [.tup (rs.map .str), .tup (p.map .str)] [] = some (.ok (.bl (rs.all fun s => decide (s ∈ p))), h') := by
  have inner : LcE LN (Iter (Var 0)) (.n 2) (Tst (Bin (inM true) (Var 2) (Var 1))) (Var 2) [2] [some (.tup (rs.map .str)), some (.tup (p.map .str)), none] [] = some (.ok (.ref 0), [] ++ [.lst ((rs.filter fun s => !decide (s ∈ p)).map .str)]) := by
    refine (lcE_pure (k := LN) (s := SItems (rs.map .str)) (h1 := []) (rs.map .str) (fun x => match x with | .str s => !decide (s ∈ p) | _ => false) (fun x => x) (iter_ok (x := .tup (rs.map .str)) rfl rfl) (LN_ok (by rw [List.length_map]; exact hl)) (by rw [List.length_map]; exact hl) (fun acc i => rfl) ?_).trans ?_
    · intro x hx
      obtain ⟨s, hs, rfl⟩ := List.mem_map.mp hx
      exact ⟨_, rfl, fun acc => ⟨tst_ok (bin_ok (x := .str s) (y := .tup (p.map .str)) rfl rfl nin_tup), fun _ => rfl⟩⟩
    · rw [List.filter_map, List.map_map]
      rfl
  have ee := eqI_strs_nil (h := ([] ++ [Iv.IO.lst ((rs.filter fun s => !decide (s ∈ p)).map .str)]) ++ [.lst []]) (a := 0) (b := 1) (ss := rs.filter fun s => !decide (s ∈ p)) (fun s hs => ok s (List.mem_filter.mp hs).1) rfl rfl
  have q : (rs.filter fun s => !decide (s ∈ p)).isEmpty = rs.all fun s => decide (s ∈ p) := by
    rw [Bool.eq_iff_iff, List.isEmpty_iff, List.filter_eq_nil_iff, List.all_eq_true]
    simp
  rw [q] at ee
  exact ⟨_, fn_rt (ret_ok (bin_ok (x := .ref 0) (y := .ref 1) inner (lst_ok2 (xs := []) rfl (mkL_ok (by show 0 ≤ 100000; omega))) ee))⟩
theorem canAllI : ∀ ns : List Int, PyData.canLayAll0 (ns.map PyData.int) = true
  | [] => by simp [PyData.canLayAll0]
  | s :: ss => by
    have := canAllI ss
    simp [PyData.canLayAll0, PyData.canLay0, this]
theorem depth_int : ∀ ns : List Int, PyData.depthAll (ns.map PyData.int) = 0
  | [] => rfl
  | s :: ss => by
    have := depth_int ss
    simp [PyData.depthAll, PyData.depth, this]
theorem shaped_int {ns : List Int} : SeqAt.shaped (.list (ns.map PyData.int)) = true := by
  unfold SeqAt.shaped
  simp [PyData.canLay0, canAllI ns, PyData.depth, depth_int]
theorem eqv_nil_int (ns : List Int) : PyData.eqv (.list (ns.map PyData.int)) (.list []) = ns.isEmpty := by
  cases ns <;> simp [PyData.eqv, PyData.eqvAll]
theorem enc_int {h : IH} (k : Nat) : ∀ ns : List Int, (ns.map IV.int).mapM (encH h (k + 1)) = some (ns.map PyData.int)
  | [] => rfl
  | n :: ns => by
    show ((IV.int n :: ns.map IV.int).mapM (encH h (k + 1))) = _
    rw [List.mapM_cons, enc_int k ns]; rfl
theorem eqI_ints_nil {h : IH} {a b : Nat} {ns : List Int} (e : h[a]? = some (.lst (ns.map .int))) (e2 : h[b]? = some (.lst [])) : eqI (.ref a) (.ref b) h = some (.ok (.bl ns.isEmpty), h) := by
  have q1 : encH h 66 (.ref a) = some (.list (ns.map .int)) := by
    show (match h[a]? with
    | some (.lst xs) => (xs.mapM (encH h 65)).map PyData.list
    | _ => none) = _
    simp only [e]
    rw [enc_int 64]; rfl
  have q2 : encH h 66 (.ref b) = some (.list []) := by
    show (match h[b]? with
    | some (.lst xs) => (xs.mapM (encH h 65)).map PyData.list
    | _ => none) = _
    simp only [e2]; rfl
  show (eqG h (.ref a) (.ref b)).map _ = _
  unfold eqG
  rw [q1, q2]
  simp only
  rw [if_pos ⟨shaped_int, shaped_int (ns := [])⟩, eqv_nil_int]; rfl
/-! the law's own least order -/
theorem rows_ok {rows : List Row} {live : List Str} (H : Hst rows live) {r : Row} (hr : r ∈ rows) : ∀ s ∈ r.reads, PyData.strOk s = true := fun s hs => lows_sok (H.nm s ((H.rd r hr).2 s hs)).1
theorem freeLc_ok {h : IH} {rows : List Row} {live o : List Str} {o2 o3 : Option IV} (H : Hst rows live) : LcE LN (Iter (Bin ixM (Var 0) (Cst (.int 0)))) (.n 3) (AndT (Tst (Bin (inM true) (Bin ixM (Var 3) (Cst (.int 0))) (Var 1))) (Tru (CallD 2 F__law_under (Cons (Bin ixM (Var 3) (Cst (.int 1))) (Cons (Var 1) Nil))))) (Bin ixM (Var 3) (Cst (.int 0))) [3]
    [some (hV rows live), some (.tup (o.map .str)), o2, o3] h = some (.ok (.ref h.length), h ++ [.lst ((freeL rows o).map .str)]) := by
  have hl := H.hl
  refine (lcE_pure (k := LN) (s := SItems (rows.map Row.v)) (h1 := h) (rows.map Row.v) (freeI o) (fun x => rowI x 0) (iter_ok (x := .tup (rows.map Row.v)) (bin_ok (x := hV rows live) (y := .int 0) rfl rfl (ix_tup rfl)) rfl) (LN_ok (by rw [List.length_map]; omega)) (by rw [List.length_map]; omega) (fun acc i => rfl) ?_).trans ?_
  · intro x hx
    obtain ⟨r, hr, rfl⟩ := List.mem_map.mp hx
    refine ⟨_, rfl, fun acc => ⟨?_, fun _ => bin_ok (x := r.v) (y := .int 0) rfl rfl (ix_tup rfl)⟩⟩
    rw [freeI_v]
    unfold freeB
    refine and_ok (tst_ok (bin_ok (x := .str r.name) (y := .tup (o.map .str)) (bin_ok (x := r.v) (y := .int 0) rfl rfl (ix_tup rfl)) rfl nin_tup)) fun _ => tru_bl ?_
    exact callD_pure (xs := [.tup (r.reads.map .str), .tup (o.map .str)]) (two_ok (bin_ok (x := r.v) (y := .int 1) rfl rfl (ix_tup rfl)) rfl) (by
      show (pureIs (r.reads.map .str) && (pureIs (o.map .str) && true)) = true
      rw [pure_strs, pure_strs]; rfl) rfl (under_ok (rows_ok H hr) (by have := (H.rd r hr).1; omega)) rfl
  · rw [List.filter_map, List.map_map]
    have ef : freeI o ∘ Row.v = freeB o := by funext r; exact freeI_v o r
    rw [ef]
    unfold freeL
    rw [List.map_map]; rfl
theorem least_law {h : IH} {rows : List Row} {live : List Str} (H : Hst rows live) : Ok (F__law_least [hV rows live]) h fun v h' => v = .tup ((leastL rows rows.length).map .str) ∧ Gr h h' := by
  have hl := H.hl
  obtain ⟨f, h2, q2, env2, rfl, o2, rfl, g2⟩ := forS_ok (src := IterA rng1 (Cons (CallB lenM (Cons (Bin ixM (Var 0) (Cst (.int 0))) Nil)) Nil)) (s := SRange 0 rows.length) (t := TgN 2)
    (b := AsgS (Bin addI (Var 1) (CallB tupleM (Cons (Sl (LcE LN (Iter (Bin ixM (Var 0) (Cst (.int 0)))) (.n 3) (AndT (Tst (Bin (inM true) (Bin ixM (Var 3) (Cst (.int 0))) (Var 1))) (Tru (CallD 2 F__law_under (Cons (Bin ixM (Var 3) (Cst (.int 1))) (Cons (Var 1) Nil))))) (Bin ixM (Var 3) (Cst (.int 0))) [3]) NoO (SoO (Cst (.int 1)))) Nil))) (TgN 1))
    (n := rows.length) (k := LN) (env := [some (hV rows live), some (.tup []), none, none]) (h := h) (h1 := h)
    (fun i env h' => ∃ o2, env = [some (hV rows live), some (.tup ((leastL rows i).map .str)), o2, none] ∧ Gr h h')
    (iterA_ok (one_ok (x := .int (rows.length : Nat)) (callB_ok (one_ok (x := .tup (rows.map Row.v)) (bin_ok (x := hV rows live) (y := .int 0) rfl rfl (ix_tup rfl))) (by
      have := len_tup (xs := rows.map Row.v) (h := h)
      rw [List.length_map] at this; exact this))) (rng1_ok (by omega)))
    (LN_ok (by omega)) ⟨none, rfl, Gr.refl h⟩
    (by
      rintro i env h' hi ⟨o2, rfl, g⟩
      have L := lf H i (by omega)
      have q := freeLc_ok (h := h') (o := leastL rows i) (o2 := some (.int i)) (o3 := none) H
      have e1 := push_len (h := h') (o := Iv.IO.lst ((freeL rows (leastL rows i)).map .str))
      have fl : (freeL rows (leastL rows i)).length ≤ 8 := by
        unfold freeL
        rw [List.length_map]
        have := List.length_filter_le (freeB (leastL rows i)) rows
        omega
      have ec : cutI ((freeL rows (leastL rows i)).map IV.str) none (some (1 : Int)) = ((freeL rows (leastL rows i)).take 1).map .str := by
        have := cutI_to (xs := (freeL rows (leastL rows i)).map IV.str) (k := 1)
        rw [List.map_take]; exact this
      have q2 := sl_lst (lo := none) (hi := some (1 : Int)) e1 (by rw [ec, List.length_map, List.length_take]; omega)
      rw [ec] at q2
      have tl := tuple_lst (push_len (h := h' ++ [Iv.IO.lst ((freeL rows (leastL rows i)).map IV.str)]) (o := Iv.IO.lst (((freeL rows (leastL rows i)).take 1).map .str)))
      refine ⟨_, srange hi, _, ((h' ++ [Iv.IO.lst ((freeL rows (leastL rows i)).map .str)]) ++ [Iv.IO.lst (((freeL rows (leastL rows i)).take 1).map .str)]), (bind_ok (x := [some (hV rows live), some (.tup ((leastL rows i).map .str)), some (.int i), none]) (h1 := h') rfl).trans (asg_ok (x := .tup ((leastL rows (i + 1)).map .str)) (bin_ok (x := .tup ((leastL rows i).map .str)) rfl (callB_ok (one_ok (sl_to (x := .ref h'.length) (j := 1) q rfl q2)) tl) ?_)), _, .inl rfl, some (.int i), rfl, (g.trans (Gr.push _ _)).trans (Gr.push _ _)⟩
      rw [addI_tup (by rw [List.length_map, List.length_map, L.len, List.length_take]; omega), ← List.map_append]; rfl)
    (by
      rintro env h' ⟨o2, rfl, g⟩
      exact srange_end)
  exact ⟨_, h2, fn_rt ((seq_nx (env2 := [some (hV rows live), some (.tup []), none, none]) (h1 := h) rfl).trans ((seq_nx q2).trans (ret_ok (x := .tup ((leastL rows rows.length).map .str)) rfl))), rfl, g2⟩
/-! the law's own look -/
def fitB (rows : List Row) (o : List Str) : Bool := (List.range o.length).all fun k => (rdO rows (o.getD k "")).all fun s => decide (s ∈ o.take k)
theorem ordN_fit {rows : List Row} : ∀ {l laid : List Str}, (laid ++ l).Nodup → (∀ s ∈ l, s ∈ rows.map Row.name) → ordN rows laid l = (List.range l.length).all fun k => (rdO rows (l.getD k "")).all fun s => decide (s ∈ laid ++ l.take k)
  | [], laid, _, _ => rfl
  | t :: l, laid, n, m => by
    have n2 : ((laid ++ [t]) ++ l).Nodup := by rw [List.append_assoc]; exact n
    have nt : t ∉ laid := by
      intro h
      rw [List.nodup_append] at n
      exact n.2.2 t h t (by simp) rfl
    rw [ordN_cons, ordN_fit n2 fun s hs => m s (by simp [hs]), decide_eq_true (m t (by simp)), decide_eq_false nt, List.length_cons, List.range_succ_eq_map, List.all_cons, List.all_map]
    simp only [Bool.not_false, Bool.true_and, List.getD_cons_zero, List.take_zero, List.append_nil]
    congr 1
    apply congrArg (fun f => (List.range l.length).all f)
    funext k
    show _ = (rdO rows ((t :: l).getD (k + 1) "")).all fun s => decide (s ∈ laid ++ (t :: l).take (k + 1))
    rw [List.getD_cons_succ, List.take_succ_cons, List.append_assoc]; rfl
theorem chk_fit {rows : List Row} {o : List Str} (nd : (rows.map Row.name).Nodup) (p : o.Perm (rows.map Row.name)) : chk rows o = fitB rows o := by
  unfold chk
  rw [decide_eq_true (by rw [p.length_eq, List.length_map]), Bool.true_and, ordN_fit (laid := []) (p.symm.nodup nd) fun s hs => p.mem_iff.mp hs]
  rfl
def badK (rows : List Row) (o : List Str) (k : Nat) : Bool := !(rdO rows (o.getD k "")).all fun s => decide (s ∈ o.take k)
def fitI (rows : List Row) (o : List Str) : IV → Bool
  | .tup [.int k, _] => badK rows o k.toNat
  | _ => false
def fstI : IV → IV
  | .tup [a, _] => a
  | x => x
theorem dict2_ok {h : IH} {rows : List Row} {live : List Str} {o1 o2 o3 : Option IV} (nd : (rows.map Row.name).Nodup) (hl : rows.length ≤ 8) : CallB dictM (Cons (LcE LN (Iter (Bin ixM (Var 0) (Cst (.int 0)))) (.n 4) YesT (Tup (Cons (Bin ixM (Var 4) (Cst (.int 0))) (Cons (Bin ixM (Var 4) (Cst (.int 1))) Nil))) [4]) Nil)
    [some (hV rows live), o1, o2, o3, none] h = some (.ok (.ref (h.length + 1)), (h ++ [.lst (rows.map fun r : Row => IV.tup [.str r.name, rdV r])]) ++ [.dic (kvN Row.name rdV rows)]) := by
  have inn : LcE LN (Iter (Bin ixM (Var 0) (Cst (.int 0)))) (.n 4) YesT (Tup (Cons (Bin ixM (Var 4) (Cst (.int 0))) (Cons (Bin ixM (Var 4) (Cst (.int 1))) Nil))) [4] [some (hV rows live), o1, o2, o3, none] h = some (.ok (.ref h.length), h ++ [.lst (rows.map fun r : Row => IV.tup [.str r.name, rdV r])]) := by
    refine (lcE_pure (k := LN) (s := SItems (rows.map Row.v)) (h1 := h) (rows.map Row.v) (fun _ => true) (fun x => match x with | .tup [a, b, _] => .tup [a, b] | x => x) (iter_ok (x := .tup (rows.map Row.v)) (bin_ok (x := hV rows live) (y := .int 0) rfl rfl (ix_tup rfl)) rfl) (LN_ok (by rw [List.length_map]; omega)) (by rw [List.length_map]; omega) (fun acc i => rfl) ?_).trans ?_
    · intro x hx
      obtain ⟨r, hr, rfl⟩ := List.mem_map.mp hx
      exact ⟨_, rfl, fun acc => ⟨rfl, fun _ => tup_ok (two_ok (bin_ok (x := r.v) (y := .int 0) rfl rfl (ix_tup rfl)) (bin_ok (x := r.v) (y := .int 1) rfl rfl (ix_tup rfl))) (by show 2 ≤ 100000; omega)⟩⟩
    · rw [List.filter_eq_self.mpr (fun _ _ => rfl), List.map_map]; rfl
  refine callB_ok (one_ok inn) ?_
  have e := push_len (h := h) (o := Iv.IO.lst (rows.map fun r : Row => IV.tup [.str r.name, rdV r]))
  show (match (h ++ [Iv.IO.lst (rows.map fun r : Row => IV.tup [.str r.name, rdV r])])[h.length]? with
    | some (.lst xs) => match pairsI xs with
      | some kvs => some (Out.ok (IV.ref (h ++ [Iv.IO.lst (rows.map fun r : Row => IV.tup [.str r.name, rdV r])]).length), (h ++ [Iv.IO.lst (rows.map fun r : Row => IV.tup [.str r.name, rdV r])]) ++ [Iv.IO.dic (mergeI [] kvs)])
      | none => none
    | _ => none) = _
  simp only [e, pairs_rows]
  have := merge_rows rows [] nd
  rw [List.length_append]
  rw [show mergeI [] (kvN Row.name rdV rows) = kvN Row.name rdV rows from this]
  rfl
theorem fits_ok {rows : List Row} {live o : List Str} (H : Hst rows live) (p : o.Perm (rows.map Row.name)) : ∃ h', F__law_fits [hV rows live, .tup (o.map .str)] [] = some (.ok (.bl (fitB rows o)), h') := by
  have hl := H.hl
  have ol : o.length = rows.length := by rw [p.length_eq, List.length_map]
  have qd := dict2_ok (h := []) (live := live) (o1 := some (.tup (o.map .str))) (o2 := none) (o3 := none) H.nd H.hl
  let h1 : IH := ([] ++ [.lst (rows.map fun r : Row => IV.tup [.str r.name, rdV r])]) ++ [.dic (kvN Row.name rdV rows)]
  have ed : h1[1]? = some (.dic (kvN Row.name rdV rows)) := rfl
  let ns : List Nat := (List.range o.length).filter (badK rows o)
  let env : Iv.Env := [some (hV rows live), some (.tup (o.map .str)), some (.ref 1), none, none]
  have inn : LcE LN (IterA enumM (Cons (Var 1) Nil)) (.t [3, 4]) (NotT (Tru (CallD 2 F__law_under (Cons (Bin ixM (Var 2) (Var 4)) (Cons (Sl (Var 1) NoO (SoO (Var 3))) Nil))))) (Var 3) [3, 4] env h1 = some (.ok (.ref h1.length), h1 ++ [.lst ((ns.map fun k : Nat => (k : Int)).map .int)]) := by
    refine (lcE_pure (k := LN) (s := SEnum (SItems (o.map .str))) (h1 := h1) ((List.range o.length).map fun k : Nat => IV.tup [.int k, .str (o.getD k "")]) (fitI rows o) fstI (iterA_ok (one_ok (x := .tup (o.map .str)) rfl) rfl) (LN_ok (by rw [List.length_map, List.length_range]; omega)) (by rw [List.length_map, List.length_range]; omega) (fun acc i => ?_) ?_).trans ?_
    · show some (((o.map IV.str)[i]?).map fun x => IV.tup [.int i, x]) = _
      rw [List.getElem?_map, List.getElem?_map]
      rcases Nat.lt_or_ge i o.length with c | c
      · rw [List.getElem?_eq_getElem c, List.getElem?_eq_getElem (by rw [List.length_range]; exact c), List.getElem_range]
        have : o.getD i "" = o[i] := by rw [List.getD_eq_getElem?_getD, List.getElem?_eq_getElem c]; rfl
        show some (some (IV.tup [.int i, .str o[i]])) = some (some (IV.tup [.int i, .str (o.getD i "")]))
        rw [this]
      · rw [List.getElem?_eq_none c, List.getElem?_eq_none (by rw [List.length_range]; exact c)]; rfl
    · intro x hx
      obtain ⟨k, hk, rfl⟩ := List.mem_map.mp hx
      have hk := List.mem_range.mp hk
      have gd : o.getD k "" = o[k] := by rw [List.getD_eq_getElem?_getD, List.getElem?_eq_getElem hk]; rfl
      have hm : o.getD k "" ∈ rows.map Row.name := by rw [gd]; exact p.mem_iff.mp (List.getElem_mem hk)
      obtain ⟨r, hr, er⟩ := List.mem_map.mp hm
      refine ⟨_, rfl, fun acc => ⟨?_, fun _ => rfl⟩⟩
      have ro : rdO rows (o.getD k "") = r.reads := by rw [← er]; exact rdO_at H.nd hr
      have vr : valI (kvN Row.name rdV rows) (.inr (o.getD k "")) = some (rdV r) := by rw [← er]; exact kvN_val H.nd hr
      show NotT _ _ _ = some (.ok (badK rows o ((k : Int)).toNat), _)
      rw [Int.toNat_natCast]
      unfold badK
      rw [ro]
      refine not_ok (tru_bl (callD_pure (xs := [.tup (r.reads.map .str), .tup ((o.take k).map .str)]) (two_ok (bin_ok (x := .ref 1) (y := .str (o.getD k "")) rfl rfl (ix_dic (Gr.push _ _ _ _ ed) rfl vr)) (sl_to (x := .tup (o.map .str)) (j := (k : Nat)) rfl rfl ?_)) (by
        show (pureIs (r.reads.map .str) && (pureIs ((o.take k).map .str) && true)) = true
        rw [pure_strs, pure_strs]; rfl) rfl (under_ok (rows_ok H hr) (by have := (H.rd r hr).1; omega)) rfl))
      show some (Out.ok (IV.tup (cutI (o.map IV.str) none (some (k : Int)))), _) = _
      rw [cutI_to, List.map_take]
    · rw [List.filter_map, List.map_map, List.map_map]
      have e1 : (fitI rows o ∘ fun k : Nat => IV.tup [.int k, .str (o.getD k "")]) = badK rows o := by
        funext k
        show badK rows o ((k : Int)).toNat = _
        rw [Int.toNat_natCast]
      rw [e1]; rfl
  have ee := eqI_ints_nil (h := (h1 ++ [Iv.IO.lst ((ns.map fun k : Nat => (k : Int)).map .int)]) ++ [.lst []]) (a := h1.length) (b := (h1 ++ [Iv.IO.lst ((ns.map fun k : Nat => (k : Int)).map IV.int)]).length) (ns := ns.map fun k : Nat => (k : Int)) (by rw [List.getElem?_append_left (by simp)]; exact push_len) push_len
  have em : (ns.map fun k : Nat => (k : Int)).isEmpty = fitB rows o := by
    rw [Bool.eq_iff_iff, List.isEmpty_iff, List.map_eq_nil_iff, List.filter_eq_nil_iff]
    unfold fitB
    rw [List.all_eq_true]
    constructor
    · intro q k hk
      have := q k hk
      unfold badK at this
      simpa using this
    · intro q k hk
      have := q k hk
      unfold badK
      simp only [this]; decide
  rw [em] at ee
  exact ⟨_, fn_rt ((seq_nx (asg_ok qd)).trans (ret_ok (bin_ok (x := .ref h1.length) (y := .ref (h1 ++ [Iv.IO.lst ((ns.map fun k : Nat => (k : Int)).map IV.int)]).length) inn (lst_ok2 (xs := []) rfl (mkL_ok (by show 0 ≤ 100000; omega))) ee)))⟩
end K02
set_option autoImplicit true
set_option Elab.async false
set_option linter.all false
set_option maxRecDepth 100000
set_option maxHeartbeats 800000
namespace K02
open PySem L2 Iv
theorem Blk.hst {v : IV} {many : Nat} (B : Blk v many) (hm : many ≤ 8) : Hst B.rows B.live := ⟨B.nd, by rw [B.ln]; exact hm, fun r hr => ⟨by have := (B.rd hr).2.1; omega, (B.rd hr).2.2⟩, B.asc, fun s hs => B.ok s ((B.perm.map Row.name).mem_iff.mp hs), by have := B.lens; omega, B.q, B.perm, B.good⟩
theorem callDn_ok {F : List IV → M IV} {a : Iv.Env → M (List IV)} {env : Iv.Env} {h h1 : IH} {xs : List IV} {y : IV} {n : Nat} (e1 : a env h = some (.ok xs, h1)) (ln : xs.length = n) (hp : pureIs xs = true → (∃ h', F xs [] = some (.ok y, h')) ∧ pureI y = true) (hq : Ok (F xs) h1 fun w h' => w = y ∧ Gr h1 h') : Ok (CallD n F a env) h fun w h' => w = y ∧ Gr h1 h' := by
  by_cases c : pureIs xs = true
  · obtain ⟨e2, e3⟩ := hp c
    exact ⟨y, h1, callD_pure e1 c ln e2 e3, rfl, Gr.refl h1⟩
  · obtain ⟨w, h2, e2, rfl, g⟩ := hq
    exact ⟨w, h2, callD_ref e1 c ln e2, rfl, g⟩
/-! another name -/
def pool2 : List Str := ["zy", "xw", "vu", "ts", "rq", "po", "nm", "lk", "ji", "hg", "fe", "dc"]
theorem pool2_ok {s : Str} (h : s ∈ pool2) : NameOk s := by
  have t : (pool2.all fun s => (s.cps.toList.all fun c => decide (97 ≤ c) && decide (c ≤ 122)) && (decide (1 ≤ s.length) && decide (s.length ≤ 8))) = true := by decide +kernel
  have q := List.all_eq_true.mp t s h
  rw [Bool.and_eq_true, Bool.and_eq_true, List.all_eq_true] at q
  refine ⟨fun c hc => ?_, of_decide_eq_true q.2.1, of_decide_eq_true q.2.2⟩
  have := q.1 c hc
  rw [Bool.and_eq_true] at this
  exact ⟨of_decide_eq_true this.1, of_decide_eq_true this.2⟩
theorem nin_lst {s : Str} {p : List Str} {h : IH} {n : Nat} (e : h[n]? = some (.lst (p.map .str))) : inM true (.str s) (.ref n) h = some (.ok (.bl (!decide (s ∈ p))), h) := by
  have f : (p.map IV.str).all flatI = true := by
    rw [List.all_eq_true]
    intro x hx
    obtain ⟨a, _, rfl⟩ := List.mem_map.mp hx
    rfl
  unfold inM
  simp only [seq_lst e]
  rw [if_pos ⟨rfl, f⟩, if_pos trivial, inV_strs]
theorem other_ok {h : IH} {n : Nat} {names : List Str} (e : h[n]? = some (.lst (names.map .str))) (hl : names.length ≤ 8) : Ok (F__law_other [.ref n]) h fun v h' => (∃ s, v = .str s ∧ NameOk s ∧ s ∉ names) ∧ Gr h h' := by
  have nl := (List.getElem?_eq_some_iff.mp e).1
  let h1 : IH := h ++ [.lst (pool2.map .str)]
  have e1 : h1[n]? = some (.lst (names.map .str)) := Gr.push _ _ _ _ e
  have ep : h1[h.length]? = some (.lst (pool2.map .str)) := push_len
  have inn : LcE LN (Iter (Var 1)) (.n 2) (Tst (Bin (inM true) (Var 2) (Var 0))) (Var 2) [2] [some (.ref n), some (.ref h.length), none] h1 = some (.ok (.ref h1.length), h1 ++ [.lst ((pool2.filter fun s => !decide (s ∈ names)).map .str)]) := by
    refine (lcE_pure (k := LN) (s := SLive h.length) (h1 := h1) (pool2.map .str) (fun x => match x with | .str s => !decide (s ∈ names) | _ => false) (fun x => x) (iter_ok (x := .ref h.length) rfl (src_lst ep)) (LN_ok (by show 12 < 100000; omega)) (by show 12 < 100000; omega) (fun acc i => slive (Gr.push _ _ _ _ ep) i) ?_).trans ?_
    · intro x hx
      obtain ⟨s, hs, rfl⟩ := List.mem_map.mp hx
      exact ⟨_, rfl, fun acc => ⟨tst_ok (bin_ok (x := .str s) (y := .ref n) rfl rfl (nin_lst (Gr.push _ _ _ _ e1))), fun _ => rfl⟩⟩
    · rw [List.filter_map, List.map_map]; rfl
  have ne : (pool2.filter fun s => !decide (s ∈ names)) ≠ [] := by
    intro c
    rw [List.filter_eq_nil_iff] at c
    have : pool2.length ≤ names.length := sub_len (by decide +kernel) fun s hs => by
      have := c s hs
      simpa using this
    have l12 : pool2.length = 12 := rfl
    omega
  obtain ⟨s, q, eq⟩ := List.exists_cons_of_ne_nil ne
  have hs : s ∈ pool2.filter fun s => !decide (s ∈ names) := by rw [eq]; simp
  obtain ⟨s1, s2⟩ := List.mem_filter.mp hs
  refine ⟨.str s, h1 ++ [.lst ((pool2.filter fun s => !decide (s ∈ names)).map .str)], fn_rt ((seq_nx (asg_ok (x := .ref h.length) (h1 := h1) (lst_ok2 (xs := pool2.map .str) rfl (mkL_ok (by show 12 ≤ 100000; omega))))).trans (ret_ok (bin_ok (x := .ref h1.length) (y := .int 0) inn rfl (ix_lst push_len ?_)))), ⟨s, rfl, pool2_ok s1, by simpa using s2⟩, (Gr.push _ _).trans (Gr.push _ _)⟩
  rw [eq, atI_nn (by omega) (by rw [List.length_map, List.length_cons]; omega)]; rfl
/-! what holds of any order -/
theorem ordN_sub {rows : List Row} : ∀ {l laid : List Str}, ordN rows laid l = true → ∀ s ∈ l, s ∈ rows.map Row.name
  | [], _, _, s, h => by simp at h
  | t :: l, laid, e, s, h => by
    rw [ordN_cons, Bool.and_eq_true, Bool.and_eq_true, Bool.and_eq_true] at e
    rcases List.mem_cons.mp h with rfl | h
    · exact of_decide_eq_true e.1
    · exact ordN_sub e.2.2.2 s h
theorem chk_not {rows : List Row} {th : List Str} {s : Str} (h : s ∈ th) (n : s ∉ rows.map Row.name) : chk rows th = false := by
  cases e : chk rows th with
  | false => rfl
  | true =>
    unfold chk at e
    rw [Bool.and_eq_true] at e
    exact absurd (ordN_sub e.2 s h) n
end K02
set_option autoImplicit true
set_option Elab.async false
set_option linter.all false
set_option maxRecDepth 100000
set_option maxHeartbeats 1000000
namespace K02
open PySem L2 Iv
def testB : Iv.Env → M Fl := IfS (NotT (Tru (CallD 2 (F__law_same 16) (Cons (Lst (Cons (CallD 2 F_is_order (Cons (Var 2) (Cons (Var 8) Nil))) (Cons (CallD 2 F_is_order (Cons (Var 2) (Cons (CallB listM (Cons (Var 8) Nil)) Nil))) Nil))) (Cons (Lst (Cons (CallD 2 F__law_fits (Cons (Var 2) (Cons (Var 8) Nil))) (Cons (Cst (.bl false)) Nil))) Nil))))) (RetS (Cst (.bl false))) NextS
def swapB : Iv.Env → M Fl := IfS (AndT (Tst (Bin gtI (CallB lenM (Cons (Var 3) Nil)) (Cst (.int 1)))) (Tst (Bin eqI (CallF 2 F__law_take (Cons (Var 0) (Cons (Cst (.int 2)) Nil))) (Cst (.int 0))))) (SeqS (AsgS (CallF 2 F__law_take (Cons (Var 0) (Cons (Bin subI (CallB lenM (Cons (Var 3) Nil)) (Cst (.int 1))) Nil))) (TgN 9))
    (AsgS (Bin addI (Bin addI (Sl (Var 4) NoO (SoO (Var 9))) (Tup (Cons (Bin ixM (Var 4) (Bin addI (Var 9) (Cst (.int 1)))) (Cons (Bin ixM (Var 4) (Var 9)) Nil)))) (Sl (Var 4) (SoO (Bin addI (Var 9) (Cst (.int 2)))) NoO)) (TgN 8))) NextS
def lapB : Iv.Env → M Fl := SeqS (AsgS (CallB tupleM (Cons (CallF 2 F__law_mixed (Cons (Var 0) (Cons (Var 3) Nil))) Nil)) (TgN 8)) (SeqS swapB testB)
theorem strs_pure2 {rows : List Row} {live o : List Str} : pureIs [hV rows live, .tup (o.map .str)] = true := by
  show (pureI (hV rows live) && (pureIs (o.map .str) && true)) = true
  rw [hV_pure, pure_strs]; rfl
theorem test_ok {h : IH} {rows : List Row} {live o : List Str} {o0 o1 o3 o4 o5 o6 o7 o9 o10 o11 : Option IV} (H : Hst rows live) (p : o.Perm (rows.map Row.name)) :
    Ok (testB [o0, o1, some (hV rows live), o3, o4, o5, o6, o7, some (.tup (o.map .str)), o9, o10, o11]) h fun f h' => f = .nx [o0, o1, some (hV rows live), o3, o4, o5, o6, o7, some (.tup (o.map .str)), o9, o10, o11] ∧ Gr h h' := by
  have hl := H.hl
  have ol : o.length = rows.length := by rw [p.length_eq, List.length_map]
  have nm : ∀ s ∈ o, NameOk s := fun s hs => H.nm s (p.mem_iff.mp hs)
  let env : Iv.Env := [o0, o1, some (hV rows live), o3, o4, o5, o6, o7, some (.tup (o.map .str)), o9, o10, o11]
  have q1 : CallD 2 F_is_order (Cons (Var 2) (Cons (Var 8) Nil)) env h = some (.ok (.bl (chk rows o)), h) := callD_pure (xs := [hV rows live, .tup (o.map .str)]) (two_ok rfl rfl) strs_pure2 rfl (by
    obtain ⟨w, h', q, rfl, _⟩ := is_order_ok (h := []) (th := o) H (LR.self 16 _ (H.pd 11)) nm (by omega)
    exact ⟨h', q⟩) rfl
  have ql : listM [.tup (o.map .str)] h = some (.ok (.ref h.length), h ++ [.lst (o.map .str)]) := mkL_ok (by rw [List.length_map]; omega)
  obtain ⟨w, h2, q2, rfl, g2⟩ := is_order_lst (h := h ++ [.lst (o.map .str)]) (m := h.length) (xs := o.map .str) H (LR.self 16 _ (H.pd 11)) push_len
  have q2' : CallD 2 F_is_order (Cons (Var 2) (Cons (CallB listM (Cons (Var 8) Nil)) Nil)) env h = some (.ok (.bl false), h2) := callD_ref (xs := [hV rows live, .ref h.length]) (two_ok rfl (callB_ok (one_ok (x := .tup (o.map .str)) rfl) ql)) (by
    intro c
    rw [pureIs, Bool.and_eq_true] at c
    have := c.2
    simp [pureIs, pureI] at this) rfl q2
  have k1 := mkL_ok (xs := [.bl (chk rows o), .bl false]) (h := h2) (by show 2 ≤ 100000; omega)
  have q3 : CallD 2 F__law_fits (Cons (Var 2) (Cons (Var 8) Nil)) env (h2 ++ [.lst [.bl (chk rows o), .bl false]]) = some (.ok (.bl (fitB rows o)), h2 ++ [.lst [.bl (chk rows o), .bl false]]) := callD_pure (xs := [hV rows live, .tup (o.map .str)]) (two_ok rfl rfl) strs_pure2 rfl (fits_ok H p) rfl
  rw [← chk_fit H.nd p] at q3
  have k2 := mkL_ok (xs := [.bl (chk rows o), .bl false]) (h := h2 ++ [.lst [.bl (chk rows o), .bl false]]) (by show 2 ≤ 100000; omega)
  let h4 : IH := (h2 ++ [.lst [.bl (chk rows o), .bl false]]) ++ [.lst [.bl (chk rows o), .bl false]]
  have sm : SM 16 h4 (.ref h2.length) (.ref (h2 ++ [Iv.IO.lst [.bl (chk rows o), .bl false]]).length) := .inr ⟨[.bl (chk rows o), .bl false], [.bl (chk rows o), .bl false], rfl, by show 2 < 100000; omega, fun i h1 h2 => SM.self (by
    match i, h1 with
    | 0, _ => exact rfl
    | 1, _ => exact rfl), .inr ⟨_, _, rfl, rfl, Gr.push _ _ _ _ push_len, push_len⟩⟩
  obtain ⟨w, h5, q5, rfl, g5⟩ := same_sm 16 _ _ h4 sm
  refine ⟨_, h5, ifS_ff (not_ok (k := true) (tru_bl (callD_ref (xs := [.ref h2.length, .ref (h2 ++ [Iv.IO.lst [.bl (chk rows o), .bl false]]).length]) (two_ok (lst_ok2 (two_ok q1 q2') k1) (lst_ok2 (two_ok q3 rfl) k2)) ?_ rfl q5))) rfl, rfl, ((((Gr.push _ _).trans g2).trans (Gr.push _ _)).trans (Gr.push _ _)).trans g5⟩
  simp [pureIs, pureI]
theorem perm_swap {l : List Str} {k : Nat} (h : k + 1 < l.length) : (l.take k ++ [l[k + 1], l[k]] ++ l.drop (k + 2)).Perm l := by
  have e : l = l.take k ++ ([l[k], l[k + 1]] ++ l.drop (k + 2)) := by
    rw [List.cons_append, List.cons_append, List.nil_append, ← List.drop_eq_getElem_cons h, ← List.drop_eq_getElem_cons (by omega : k < l.length), List.take_append_drop]
  conv => rhs; rw [e]
  rw [List.append_assoc]
  exact List.Perm.append_left _ (List.Perm.append_right _ (List.Perm.swap _ _ _))
theorem gt_int {i j : Int} {h : IH} : gtI (.int i) (.int j) h = some (.ok (.bl (decide (j < i))), h) := rfl
theorem swap_ok {h : IH} {u c m : Nat} {rows : List Row} {live o far : List Str} {o1 o5 o6 o7 o9 o10 o11 : Option IV} (U : Ur h u (c + 2)) (hl : rows.length ≤ 8) (hm : h[m]? = some (.lst ((rows.map Row.name).map .str))) (p : o.Perm (rows.map Row.name)) (pf : far.Perm (rows.map Row.name)) :
    Ok (swapB [some (.ref u), o1, some (hV rows live), some (.ref m), some (.tup (far.map .str)), o5, o6, o7, some (.tup (o.map .str)), o9, o10, o11]) h fun f h' => (∃ (o9 : Option IV) (o2 : List Str), f = .nx [some (.ref u), o1, some (hV rows live), some (.ref m), some (.tup (far.map .str)), o5, o6, o7, some (.tup (o2.map .str)), o9, o10, o11] ∧ o2.Perm (rows.map Row.name)) ∧ Ur h' u c ∧ GrX u h h' := by
  have fl : far.length = rows.length := by rw [pf.length_eq, List.length_map]
  let env : Iv.Env := [some (.ref u), o1, some (hV rows live), some (.ref m), some (.tup (far.map .str)), o5, o6, o7, some (.tup (o.map .str)), o9, o10, o11]
  have ql : CallB lenM (Cons (Var 3) Nil) env h = some (.ok (.int (rows.length : Nat)), h) := callB_ok (one_ok (x := .ref m) rfl) (by
    have := len_lst hm
    rw [List.length_map, List.length_map] at this; exact this)
  have t1 : Tst (Bin gtI (CallB lenM (Cons (Var 3) Nil)) (Cst (.int 1))) env h = some (.ok (decide ((1 : Int) < (rows.length : Nat))), h) := tst_ok (bin_ok (x := .int (rows.length : Nat)) (y := .int 1) ql rfl gt_int)
  by_cases c1 : (1 : Int) < (rows.length : Nat)
  case neg =>
    rw [decide_eq_false c1] at t1
    exact ⟨_, h, ifS_ff (and_ff t1) rfl, ⟨o9, o, rfl, p⟩, U.le (by omega), GrX.refl u h⟩
  rw [decide_eq_true c1] at t1
  obtain ⟨x, h1, q1, r, rfl, r0, r1, U1, G1, L1⟩ := take_ok (c := c + 1) (n := 2) (U.le (by omega)) (by omega) (by omega)
  have t2 : Tst (Bin eqI (CallF 2 F__law_take (Cons (Var 0) (Cons (Cst (.int 2)) Nil))) (Cst (.int 0))) env h = some (.ok (decide (r = 0)), h1) := tst_ok (bin_ok (x := .int r) (y := .int 0) (callF_ok (two_ok (x := .ref u) (y := .int 2) rfl rfl) rfl q1) rfl eqI_int)
  by_cases c2 : r = 0
  case neg =>
    rw [decide_eq_false c2] at t2
    exact ⟨_, h1, ifS_ff (and_tt t1 t2) rfl, ⟨o9, o, rfl, p⟩, U1.le (by omega), G1⟩
  rw [decide_eq_true c2] at t2
  have hu := U.lt
  have um : u ≠ m := by
    rintro rfl
    obtain ⟨a, b, d, e1, _⟩ := U
    rw [hm] at e1
    have := congrArg (fun z => match z with | some (Iv.IO.lst (.str s :: _)) => true | _ => false) e1
    have l2 : 1 < (rows.map Row.name).length := by rw [List.length_map]; omega
    cases en : rows.map Row.name with
    | nil => rw [en] at l2; simp at l2
    | cons a l => rw [en] at this; simp at this
  have hm1 := G1 m _ (Ne.symm um) hm
  have ql1 : CallB lenM (Cons (Var 3) Nil) env h1 = some (.ok (.int (rows.length : Nat)), h1) := callB_ok (one_ok (x := .ref m) rfl) (by
    have := len_lst hm1
    rw [List.length_map, List.length_map] at this; exact this)
  obtain ⟨x, h2, q2, k, rfl, k0, k1, U2, G2, L2⟩ := take_ok (c := c) (n := (rows.length : Nat) - 1) U1 (by omega) (by omega)
  obtain ⟨k, rfl⟩ : ∃ j : Nat, k = j := ⟨k.toNat, (Int.toNat_of_nonneg k0).symm⟩
  have hk : k + 1 < far.length := by omega
  have ps := (perm_swap hk).trans pf
  let o2 : List Str := far.take k ++ [far[k + 1], far[k]] ++ far.drop (k + 2)
  let env2 : Iv.Env := [some (.ref u), o1, some (hV rows live), some (.ref m), some (.tup (far.map .str)), o5, o6, o7, some (.tup (o.map .str)), some (.int k), o10, o11]
  have s1 : Sl (Var 4) NoO (SoO (Var 9)) env2 h2 = some (.ok (.tup ((far.take k).map .str)), h2) := sl_to (x := .tup (far.map .str)) (j := (k : Nat)) rfl rfl (by
    show some (Out.ok (IV.tup (cutI (far.map IV.str) none (some (k : Int)))), _) = _
    rw [cutI_to, List.map_take])
  have i1 : Bin ixM (Var 4) (Bin addI (Var 9) (Cst (.int 1))) env2 h2 = some (.ok (.str far[k + 1]), h2) := bin_ok (x := .tup (far.map .str)) (y := .int ((k : Int) + 1)) rfl rfl (ix_tup (by
    rw [atI_nn (by omega) (by rw [List.length_map]; omega), show ((k : Int) + 1).toNat = k + 1 by omega, List.getElem?_map, List.getElem?_eq_getElem hk]; rfl))
  have i2 : Bin ixM (Var 4) (Var 9) env2 h2 = some (.ok (.str far[k]), h2) := bin_ok (x := .tup (far.map .str)) (y := .int (k : Int)) rfl rfl (ix_tup (by
    rw [atI_nn (by omega) (by rw [List.length_map]; omega), Int.toNat_natCast, List.getElem?_map, List.getElem?_eq_getElem (by omega)]; rfl))
  have s2 : Sl (Var 4) (SoO (Bin addI (Var 9) (Cst (.int 2)))) NoO env2 h2 = some (.ok (.tup ((far.drop (k + 2)).map .str)), h2) := sl_from (x := .tup (far.map .str)) (j := ((k + 2 : Nat) : Int)) rfl rfl (by
    show some (Out.ok (IV.tup (cutI (far.map IV.str) (some ((k + 2 : Nat) : Int)) none)), _) = _
    rw [cutI_from, List.map_drop])
  have a1 : Bin addI (Sl (Var 4) NoO (SoO (Var 9))) (Tup (Cons (Bin ixM (Var 4) (Bin addI (Var 9) (Cst (.int 1)))) (Cons (Bin ixM (Var 4) (Var 9)) Nil))) env2 h2 = some (.ok (.tup ((far.take k ++ [far[k + 1], far[k]]).map .str)), h2) := bin_ok (y := .tup [.str far[k + 1], .str far[k]]) s1 (tup_ok (two_ok i1 i2) (by show 2 ≤ 100000; omega)) (by
    rw [addI_tup (by rw [List.length_map, List.length_take]; show _ + 2 ≤ 100000; omega), List.map_append]; rfl)
  have a2 : Bin addI (Bin addI (Sl (Var 4) NoO (SoO (Var 9))) (Tup (Cons (Bin ixM (Var 4) (Bin addI (Var 9) (Cst (.int 1)))) (Cons (Bin ixM (Var 4) (Var 9)) Nil)))) (Sl (Var 4) (SoO (Bin addI (Var 9) (Cst (.int 2)))) NoO) env2 h2 = some (.ok (.tup (o2.map .str)), h2) := bin_ok a1 s2 (by
    rw [addI_tup (by
      have := ps.length_eq
      rw [List.length_append] at this
      rw [List.length_map, List.length_map, this, List.length_map]; omega), ← List.map_append])
  refine ⟨_, h2, ifS_tt (and_tt t1 t2) ((seq_nx (asg_ok (x := .int k) (h1 := h2) (callF_ok (two_ok (x := .ref u) (y := .int ((rows.length : Nat) - 1)) rfl (bin_ok (x := .int (rows.length : Nat)) (y := .int 1) ql1 rfl rfl)) rfl q2))).trans (asg_ok a2)), ⟨some (.int k), o2, rfl, ps⟩, U2, G1.trans G2⟩
theorem lap_ok {h : IH} {u c m : Nat} {rows : List Row} {live far : List Str} {o1 o5 o6 o7 o8 o9 o10 o11 : Option IV} (U : Ur h u (c + 10)) (H : Hst rows live) (um : u ≠ m) (hm : h[m]? = some (.lst ((rows.map Row.name).map .str))) (pf : far.Perm (rows.map Row.name)) :
    Ok (lapB [some (.ref u), o1, some (hV rows live), some (.ref m), some (.tup (far.map .str)), o5, o6, o7, o8, o9, o10, o11]) h fun f h' => (∃ o8 o9, f = .nx [some (.ref u), o1, some (hV rows live), some (.ref m), some (.tup (far.map .str)), o5, o6, o7, o8, o9, o10, o11]) ∧ Ur h' u c ∧ GrX u h h' := by
  have hl := H.hl
  obtain ⟨v, h1, q1, m1, ys, rfl, b1, b2, b3, U1, G1⟩ := mixed_ok (c := c + 2) (xs := (rows.map Row.name).map .str) (l := m) um (by rw [List.length_map, List.length_map]; exact U.le (by omega)) hm (by rw [List.length_map, List.length_map]; omega)
  obtain ⟨zs, rfl, p⟩ := perm_strs b3
  have hm1 := G1 m _ (Ne.symm um) hm
  obtain ⟨f, h2, q2, ⟨o9', o2, rfl, p2⟩, U2, G2⟩ := swap_ok (live := live) (o1 := o1) (o5 := o5) (o6 := o6) (o7 := o7) (o9 := o9) (o10 := o10) (o11 := o11) U1 hl hm1 p pf
  obtain ⟨f, h3, q3, rfl, g3⟩ := test_ok (h := h2) (o0 := some (.ref u)) (o1 := o1) (o3 := some (.ref m)) (o4 := some (.tup (far.map .str))) (o5 := o5) (o6 := o6) (o7 := o7) (o9 := o9') (o10 := o10) (o11 := o11) H p2
  exact ⟨_, h3, (seq_nx (asg_ok (x := .tup (zs.map .str)) (h1 := h1) (callB_ok (one_ok (callF_ok (two_ok (x := .ref u) (y := .ref m) rfl rfl) rfl q1)) (tuple_lst b2)))).trans ((seq_nx q2).trans q3), ⟨_, _, rfl⟩, U2.gr g3, (G1.trans G2).trans g3.x⟩
end K02
set_option autoImplicit true
set_option Elab.async false
set_option linter.all false
set_option maxRecDepth 100000
set_option maxHeartbeats 1000000
namespace K02
open PySem L2 Iv
def getL : Iv.Env → M IV := Lst (Cons (CallD 1 F_least_order (Cons (Var 2) Nil)) (Cons (CallD 1 F_least_order (Cons (Var 5) Nil)) (Cons (CallD 2 F_is_order (Cons (Var 5) (Cons (Var 4) Nil))) (Cons (CallD 1 F_least_order (Cons (Var 5) Nil)) (Cons (Var 5) Nil)))))
def sameB : Iv.Env → M Fl := IfS (NotT (Tru (CallD 2 (F__law_same 16) (Cons (Var 6) (Cons (Lst (Cons (Var 4) (Cons (Var 4) (Cons (Cst (.bl true)) (Cons (Var 4) (Cons (CallF 1 (F__law_lists 16) (Cons (Var 2) Nil)) Nil)))))) Nil))))) (RetS (Cst (.bl false))) NextS
def oddL : Iv.Env → M IV := Lst (Cons (Bin addI (Var 4) (Tup (Cons (CallF 1 F__law_other (Cons (Var 3) Nil)) Nil))) (Cons (Bin addI (Sl (Var 4) (SoO (Cst (.int 1))) NoO) (Tup (Cons (CallF 1 F__law_other (Cons (Var 3) Nil)) Nil))) Nil))
def noneB : Iv.Env → M Fl := IfS (Tst (Bin neI (LcE LN (Iter (Var 10)) (.n 11) (Tru (CallD 2 F_is_order (Cons (CallF 1 (F__law_lists 16) (Cons (Var 2) Nil)) (Cons (Var 11) Nil)))) (Var 11) [11]) (Lst Nil))) (RetS (Cst (.bl false))) NextS
def lapsB : Iv.Env → M Fl := ForS LN (IterA rng1 (Cons (Cst (.int 4)) Nil)) (TgN 7) lapB
def turnB : Iv.Env → M Fl := SeqS (AsgS (CallF 2 F__law_block (Cons (Var 0) (Cons (CallF 2 F__law_take (Cons (Var 0) (Cons (Cst (.int 7)) Nil))) Nil))) (TgN 2))
    (SeqS (AsgS (LcE LN (Iter (Bin ixM (Var 2) (Cst (.int 0)))) (.n 11) YesT (Bin ixM (Var 11) (Cst (.int 0))) [11]) (TgN 3))
    (SeqS (AsgS (CallD 1 F__law_least (Cons (Var 2) Nil)) (TgN 4))
    (SeqS (AsgS (CallF 1 (F__law_lists 16) (Cons (Var 2) Nil)) (TgN 5))
    (SeqS (AsgS getL (TgN 6))
    (SeqS sameB
    (SeqS lapsB
    (SeqS (AsgS oddL (TgN 10))
    noneB)))))))
theorem far_perm {rows : List Row} {live : List Str} (H : Hst rows live) : (leastL rows rows.length).Perm (rows.map Row.name) := by
  have L := lf H rows.length (Nat.le_refl _)
  refine perm_nodup L.nd H.nd fun x => ⟨L.sub x, fun hx => ?_⟩
  apply Classical.byContradiction
  intro nx
  have : (x :: leastL rows rows.length).length ≤ (rows.map Row.name).length := sub_len (List.nodup_cons.mpr ⟨nx, L.nd⟩) fun y hy => by
    rcases List.mem_cons.mp hy with rfl | hy
    · exact hx
    · exact L.sub y hy
  rw [List.length_cons, List.length_map, L.len] at this
  omega
theorem far_chk {rows : List Row} {live : List Str} (H : Hst rows live) : chk rows (leastL rows rows.length) = true := by
  have L := lf H rows.length (Nat.le_refl _)
  unfold chk
  rw [L.ord, L.len, decide_eq_true rfl]; rfl
theorem LL.zero {lo : Nat} {h : IH} {x y : IV} (l : LL lo h x y) : LR 0 h x y := LR.mono (Nat.zero_le _) (fun _ _ _ e => e) l.lr
/-- is_order of the block in lists -/
theorem soft_order {h : IH} {z : IV} {rows : List Row} {live th : List Str} {a : Iv.Env → M (List IV)} {env : Iv.Env} {h0 : IH} (H : Hst rows live) (l : LR 0 h z (hV rows live)) (nm : ∀ s ∈ th, NameOk s) (tl : th.length < 1000) (e1 : a env h0 = some (.ok [z, .tup (th.map .str)], h)) : Ok (CallD 2 F_is_order a env) h0 fun w h' => w = .bl (chk rows th) ∧ Gr h h' :=
  callDn_ok e1 rfl (fun c => by
    rw [pureIs, Bool.and_eq_true] at c
    have ez := l.pure_eq c.1
    subst ez
    obtain ⟨w, h', q, rfl, _⟩ := is_order_ok (h := []) (th := th) H (LR.self 16 _ (H.pd 11)) nm tl
    exact ⟨⟨h', q⟩, rfl⟩) (is_order_ok H l nm tl)
theorem soft_least {h : IH} {z : IV} {rows : List Row} {live : List Str} {a : Iv.Env → M (List IV)} {env : Iv.Env} {h0 : IH} (H : Hst rows live) (l : LR 0 h z (hV rows live)) (e1 : a env h0 = some (.ok [z], h)) : Ok (CallD 1 F_least_order a env) h0 fun w h' => w = .tup ((leastL rows rows.length).map .str) ∧ Gr h h' :=
  callDn_ok e1 rfl (fun c => by
    rw [pureIs, Bool.and_eq_true] at c
    have ez := l.pure_eq c.1
    subst ez
    obtain ⟨w, h', q, rfl, _⟩ := least_ok (h := []) H (LR.self 16 _ (H.pd 11))
    exact ⟨⟨h', q⟩, by show pureIs _ = true; exact pure_strs _⟩) (least_ok H l)
theorem get_ok {h : IH} {z : IV} {rows : List Row} {live : List Str} {o0 o1 o3 o6 o7 o8 o9 o10 o11 : Option IV} (H : Hst rows live) (l : LL 0 h z (hV rows live)) :
    Ok (SeqS (AsgS getL (TgN 6)) sameB [o0, o1, some (hV rows live), o3, some (.tup ((leastL rows rows.length).map .str)), some z, o6, o7, o8, o9, o10, o11]) h fun f h' => (∃ o6, f = .nx [o0, o1, some (hV rows live), o3, some (.tup ((leastL rows rows.length).map .str)), some z, o6, o7, o8, o9, o10, o11]) ∧ Gr h h' := by
  have L := lf H rows.length (Nat.le_refl _)
  have hl := H.hl
  have fc := far_chk H
  have fnm : ∀ s ∈ leastL rows rows.length, NameOk s := fun s hs => H.nm s (L.sub s hs)
  have fln : (leastL rows rows.length).length < 1000 := by rw [L.len]; omega
  generalize ef : leastL rows rows.length = far at *
  let env : Iv.Env := [o0, o1, some (hV rows live), o3, some (.tup (far.map .str)), some z, o6, o7, o8, o9, o10, o11]
  obtain ⟨w, h1, q1, rfl, g1⟩ := soft_least (a := Cons (Var 2) Nil) (env := env) (h0 := h) H (LR.self 16 _ (H.pd 11)) (one_ok rfl)
  obtain ⟨w, h2, q2, rfl, g2⟩ := soft_least (a := Cons (Var 5) Nil) (env := env) (h0 := h1) H (LR.mono (Nat.le_refl _) (fun n o _ e => g1 n o e) l.zero) (one_ok rfl)
  obtain ⟨w, h3, q3, rfl, g3⟩ := soft_order (th := far) (a := Cons (Var 5) (Cons (Var 4) Nil)) (env := env) (h0 := h2) H (LR.mono (Nat.le_refl _) (fun n o _ e => g2 n o (g1 n o e)) l.zero) fnm fln (two_ok rfl rfl)
  obtain ⟨w, h4, q4, rfl, g4⟩ := soft_least (a := Cons (Var 5) Nil) (env := env) (h0 := h3) H (LR.mono (Nat.le_refl _) (fun n o _ e => g3 n o (g2 n o (g1 n o e))) l.zero) (one_ok rfl)
  rw [ef] at q1 q2 q4
  rw [fc] at q3
  have k1 := mkL_ok (xs := [.tup (far.map .str), .tup (far.map .str), .bl true, .tup (far.map .str), z]) (h := h4) (by show 5 ≤ 100000; omega)
  let h5 : IH := h4 ++ [.lst [.tup (far.map .str), .tup (far.map .str), .bl true, .tup (far.map .str), z]]
  have qg : getL env h = some (.ok (.ref h4.length), h5) := lst_ok2 (cons_ok q1 (cons_ok q2 (cons_ok q3 (two_ok q4 (y := z) rfl)))) k1
  have g5 : Gr h h5 := (((g1.trans g2).trans g3).trans g4).trans (Gr.push _ _)
  let env6 : Iv.Env := [o0, o1, some (hV rows live), o3, some (.tup (far.map .str)), some z, some (.ref h4.length), o7, o8, o9, o10, o11]
  obtain ⟨z2, h6, q6, l6, g6⟩ := lists_ll 16 (hV rows live) h5 (H.pd 11)
  have k2 := mkL_ok (xs := [.tup (far.map .str), .tup (far.map .str), .bl true, .tup (far.map .str), z2]) (h := h6) (by show 5 ≤ 100000; omega)
  let h7 : IH := h6 ++ [.lst [.tup (far.map .str), .tup (far.map .str), .bl true, .tup (far.map .str), z2]]
  have pf : Pd 15 (.tup (far.map .str)) := pd_strs (by omega) 13
  have l1 : LL 0 h7 z (hV rows live) := LL.mono (Nat.le_refl _) (fun n o _ e => Gr.push _ _ _ _ (g6 _ _ (g5 n o e))) l
  have l2 : LL 0 h7 z2 (hV rows live) := LL.mono (Nat.zero_le _) (fun n o _ e => Gr.push _ _ _ _ e) l6
  have sm : SM 16 h7 (.ref h4.length) (.ref h6.length) := .inr ⟨[.tup (far.map .str), .tup (far.map .str), .bl true, .tup (far.map .str), z], [.tup (far.map .str), .tup (far.map .str), .bl true, .tup (far.map .str), z2], rfl, by show 5 < 100000; omega, fun i i1 i2 => by
    match i, i1, i2 with
    | 0, _, _ => exact SM.self pf
    | 1, _, _ => exact SM.self pf
    | 2, _, _ => exact .inl ⟨rfl, rfl⟩
    | 3, _, _ => exact SM.self pf
    | 4, _, _ => exact LL.sm l1 l2 (H.pd 10), .inr ⟨_, _, rfl, rfl, Gr.push _ _ _ _ (g6 _ _ push_len), push_len⟩⟩
  obtain ⟨w, h8, q8, rfl, g8⟩ := same_sm 16 _ _ h7 sm
  have qs : sameB env6 h5 = some (.ok (.nx env6), h8) := ifS_ff (not_ok (k := true) (tru_bl (callD_ref (xs := [.ref h4.length, .ref h6.length]) (two_ok (x := .ref h4.length) rfl (lst_ok2 (cons_ok (x := .tup (far.map .str)) rfl (cons_ok (x := .tup (far.map .str)) rfl (cons_ok (x := .bl true) rfl (two_ok (x := .tup (far.map .str)) rfl (callF_ok (one_ok (x := hV rows live) rfl) rfl q6))))) k2)) (by simp [pureIs, pureI]) rfl q8))) rfl
  exact ⟨_, h8, (seq_nx (asg_ok qg)).trans qs, ⟨_, rfl⟩, ((g5.trans g6).trans (Gr.push _ _)).trans g8⟩
theorem laps_ok {h : IH} {u c m : Nat} {rows : List Row} {live far : List Str} {o1 o5 o6 o7 o8 o9 o10 o11 : Option IV} (U : Ur h u (c + 40)) (H : Hst rows live) (um : u ≠ m) (hm : h[m]? = some (.lst ((rows.map Row.name).map .str))) (pf : far.Perm (rows.map Row.name)) :
    Ok (lapsB [some (.ref u), o1, some (hV rows live), some (.ref m), some (.tup (far.map .str)), o5, o6, o7, o8, o9, o10, o11]) h fun f h' => (∃ o7 o8 o9, f = .nx [some (.ref u), o1, some (hV rows live), some (.ref m), some (.tup (far.map .str)), o5, o6, o7, o8, o9, o10, o11]) ∧ Ur h' u c ∧ GrX u h h' := by
  obtain ⟨f, h2, q2, env2, rfl, o7', o8', o9', rfl, U2, G2⟩ := forS_ok (src := IterA rng1 (Cons (Cst (.int 4)) Nil)) (s := SRange 0 4) (t := TgN 7) (b := lapB)
    (n := 4) (k := LN) (env := [some (.ref u), o1, some (hV rows live), some (.ref m), some (.tup (far.map .str)), o5, o6, o7, o8, o9, o10, o11]) (h := h) (h1 := h)
    (fun t env h' => ∃ o7 o8 o9, env = [some (.ref u), o1, some (hV rows live), some (.ref m), some (.tup (far.map .str)), o5, o6, o7, o8, o9, o10, o11] ∧ Ur h' u (c + 10 * (4 - t)) ∧ GrX u h h')
    (iterA_ok (one_ok (x := .int (4 : Nat)) rfl) (rng1_ok (by omega))) (LN_ok (by omega)) ⟨o7, o8, o9, rfl, U, GrX.refl u h⟩
    (by
      rintro t env h' ht ⟨o7, o8, o9, rfl, U1, G1⟩
      obtain ⟨f, h3, q3, ⟨o8', o9', rfl⟩, U3, G3⟩ := lap_ok (c := c + 10 * (4 - (t + 1))) (o1 := o1) (o5 := o5) (o6 := o6) (o7 := some (.int t)) (o8 := o8) (o9 := o9) (o10 := o10) (o11 := o11) (U1.le (by omega)) H um (G1 m _ (Ne.symm um) hm) pf
      refine ⟨.int t, srange ht, ⟨_, h3, ?_, _, .inl rfl, some (.int t), o8', o9', rfl, U3, G1.trans G3⟩⟩
      have e1 : TgN 7 (.int t) [some (.ref u), o1, some (hV rows live), some (.ref m), some (.tup (far.map .str)), o5, o6, o7, o8, o9, o10, o11] h' = some (.ok [some (.ref u), o1, some (hV rows live), some (.ref m), some (.tup (far.map .str)), o5, o6, some (.int t), o8, o9, o10, o11], h') := rfl
      generalize lapB = B at q3 ⊢
      rw [bind_ok e1]; exact q3)
    (fun env h' _ => srange_end)
  exact ⟨_, h2, q2, ⟨_, _, _, rfl⟩, U2.le (by omega), G2⟩
theorem odd_ok {h : IH} {m : Nat} {rows : List Row} {live far : List Str} {o0 o1 o5 o6 o7 o8 o9 o10 o11 : Option IV} (H : Hst rows live) (hm : h[m]? = some (.lst ((rows.map Row.name).map .str))) (pf : far.Perm (rows.map Row.name)) :
    Ok (SeqS (AsgS oddL (TgN 10)) noneB [o0, o1, some (hV rows live), some (.ref m), some (.tup (far.map .str)), o5, o6, o7, o8, o9, o10, o11]) h fun f h' => (∃ o10, f = .nx [o0, o1, some (hV rows live), some (.ref m), some (.tup (far.map .str)), o5, o6, o7, o8, o9, o10, o11]) ∧ Gr h h' := by
  have hl := H.hl
  have fl : far.length = rows.length := by rw [pf.length_eq, List.length_map]
  have fnm : ∀ s ∈ far, NameOk s := fun s hs => H.nm s (pf.mem_iff.mp hs)
  let env : Iv.Env := [o0, o1, some (hV rows live), some (.ref m), some (.tup (far.map .str)), o5, o6, o7, o8, o9, o10, o11]
  obtain ⟨w, h1, q1, ⟨s1, rfl, n1, m1⟩, g1⟩ := other_ok hm (by rw [List.length_map]; exact hl)
  obtain ⟨w, h2, q2, ⟨s2, rfl, n2, m2⟩, g2⟩ := other_ok (g1 _ _ hm) (by rw [List.length_map]; exact hl)
  let t1 : List Str := far ++ [s1]
  let t2 : List Str := far.drop 1 ++ [s2]
  have k1 := mkL_ok (xs := [.tup (t1.map .str), .tup (t2.map .str)]) (h := h2) (by show 2 ≤ 100000; omega)
  let h3 : IH := h2 ++ [.lst [.tup (t1.map .str), .tup (t2.map .str)]]
  have a1 : Bin addI (Var 4) (Tup (Cons (CallF 1 F__law_other (Cons (Var 3) Nil)) Nil)) env h = some (.ok (.tup (t1.map .str)), h1) := bin_ok (x := .tup (far.map .str)) (y := .tup [.str s1]) rfl (tup_ok (one_ok (callF_ok (one_ok (x := .ref m) rfl) rfl q1)) (by show 1 ≤ 100000; omega)) (by
    rw [addI_tup (by rw [List.length_map]; show _ + 1 ≤ 100000; omega), List.map_append]; rfl)
  have sl : Sl (Var 4) (SoO (Cst (.int 1))) NoO env h1 = some (.ok (.tup ((far.drop 1).map .str)), h1) := sl_from (x := .tup (far.map .str)) (j := ((1 : Nat) : Int)) rfl rfl (by
    show some (Out.ok (IV.tup (cutI (far.map IV.str) (some ((1 : Nat) : Int)) none)), _) = _
    rw [cutI_from, List.map_drop])
  have a2 : Bin addI (Sl (Var 4) (SoO (Cst (.int 1))) NoO) (Tup (Cons (CallF 1 F__law_other (Cons (Var 3) Nil)) Nil)) env h1 = some (.ok (.tup (t2.map .str)), h2) := bin_ok (x := .tup ((far.drop 1).map .str)) (y := .tup [.str s2]) sl (tup_ok (one_ok (callF_ok (one_ok (x := .ref m) rfl) rfl q2)) (by show 1 ≤ 100000; omega)) (by
    rw [addI_tup (by rw [List.length_map, List.length_drop]; show _ + 1 ≤ 100000; omega), List.map_append]; rfl)
  have qo : oddL env h = some (.ok (.ref h2.length), h3) := lst_ok2 (two_ok a1 a2) k1
  have e3 : h3[h2.length]? = some (.lst ([t1, t2].map fun t => .tup (t.map .str))) := push_len
  let env10 : Iv.Env := [o0, o1, some (hV rows live), some (.ref m), some (.tup (far.map .str)), o5, o6, o7, o8, o9, some (.ref h2.length), o11]
  have each : ∀ t ∈ [t1, t2], (∀ s ∈ t, NameOk s) ∧ t.length < 1000 ∧ chk rows t = false := by
    intro t ht
    rcases List.mem_cons.mp ht with rfl | ht
    · refine ⟨fun s hs => ?_, by show (far ++ [s1]).length < 1000; rw [List.length_append, fl]; show _ + 1 < 1000; omega, chk_not (s := s1) (by show s1 ∈ far ++ [s1]; simp) m1⟩
      rcases List.mem_append.mp hs with hs | hs
      · exact fnm s hs
      · rw [List.mem_singleton.mp hs]; exact n1
    · rw [List.mem_singleton] at ht
      subst ht
      refine ⟨fun s hs => ?_, by show (far.drop 1 ++ [s2]).length < 1000; rw [List.length_append, List.length_drop, fl]; show _ + 1 < 1000; omega, chk_not (s := s2) (by show s2 ∈ far.drop 1 ++ [s2]; simp) m2⟩
      rcases List.mem_append.mp hs with hs | hs
      · exact fnm s (List.mem_of_mem_drop hs)
      · rw [List.mem_singleton.mp hs]; exact n2
  obtain ⟨w, h4, q4, rfl, e4, g4⟩ := lcE_gr (k := LN) (src := Iter (Var 10)) (s := SLive h2.length) (p := .n 11) (c := Tru (CallD 2 F_is_order (Cons (CallF 1 (F__law_lists 16) (Cons (Var 2) Nil)) (Cons (Var 11) Nil)))) (el := Var 11) (vs := [11]) (env := env10) (h := h3) (h1 := h3) ([t1, t2].map fun t => .tup (t.map .str)) (fun _ => false) id
    (iter_ok (x := .ref h2.length) rfl (src_lst e3)) (LN_ok (by show 2 < 100000; omega)) (by show 2 < 100000; omega)
    (fun h' i g => slive (g _ _ e3) i)
    (fun x hx => by
      obtain ⟨t, ht, rfl⟩ := List.mem_map.mp hx
      obtain ⟨c1, c2, c3⟩ := each t ht
      refine ⟨_, rfl, fun h' g => ?_⟩
      obtain ⟨z, h5, q5, l5, g5⟩ := lists_ll 16 (hV rows live) h' (H.pd 11)
      let envE : Iv.Env := [o0, o1, some (hV rows live), some (.ref m), some (.tup (far.map .str)), o5, o6, o7, o8, o9, some (.ref h2.length), some (.tup (t.map .str))]
      obtain ⟨w, h6, q6, rfl, g6⟩ := soft_order (th := t) (a := Cons (CallF 1 (F__law_lists 16) (Cons (Var 2) Nil)) (Cons (Var 11) Nil)) (env := envE) (h0 := h') H l5.zero c1 c2 (two_ok (callF_ok (one_ok (x := hV rows live) rfl) rfl q5) rfl)
      rw [c3] at q6
      exact ⟨false, h6, tru_bl q6, rfl, g5.trans g6, fun q => by cases q⟩)
  have ef : (([t1, t2].map fun t : List Str => IV.tup (t.map .str)).filter fun _ => false).map id = (([] : List Str).map IV.str) := by rw [List.filter_eq_nil_iff.mpr (fun _ _ => Bool.false_ne_true)]; rfl
  rw [ef] at e4
  have qn := neI_strs_nil (h := h4 ++ [.lst []]) (a := h3.length) (b := h4.length) (ss := []) (by simp) (Gr.push _ _ _ _ e4) push_len
  have qb : noneB env10 h3 = some (.ok (.nx env10), h4 ++ [.lst []]) := ifS_ff (tst_ok (k := false) (bin_ok (x := .ref h3.length) (y := .ref h4.length) q4 (lst_ok2 (xs := []) rfl (mkL_ok (by show 0 ≤ 100000; omega))) qn)) rfl
  exact ⟨_, _, (seq_nx (asg_ok qo)).trans qb, ⟨_, rfl⟩, (((g1.trans g2).trans (Gr.push _ _)).trans g4).trans (Gr.push _ _)⟩
end K02
set_option autoImplicit true
set_option Elab.async false
set_option linter.all false
set_option maxRecDepth 100000
set_option maxHeartbeats 1000000
namespace K02
open PySem L2 Iv
theorem seq_as3 (a b c : Iv.Env → M Fl) : SeqS a (SeqS b c) = SeqS (SeqS a b) c := by
  funext env h
  unfold SeqS M.bind
  cases a env h with
  | none => rfl
  | some o =>
    obtain ⟨o, h1⟩ := o
    cases o with
    | ex e => rfl
    | ok f => cases f <;> rfl
theorem turn_ok {h : IH} {u c : Nat} {o1 o2 o3 o4 o5 o6 o7 o8 o9 o10 : Option IV} (U : Ur h u (c + 200)) :
    Ok (turnB [some (.ref u), o1, o2, o3, o4, o5, o6, o7, o8, o9, o10, none]) h fun f h' => (∃ o2 o3 o4 o5 o6 o7 o8 o9 o10, f = .nx [some (.ref u), o1, o2, o3, o4, o5, o6, o7, o8, o9, o10, none]) ∧ Ur h' u c ∧ GrX u h h' := by
  obtain ⟨x, h1, q1, r, rfl, r0, r1, U1, G1, L1⟩ := take_ok (c := c + 199) (n := 7) U (by omega) (by omega)
  obtain ⟨many, rfl⟩ : ∃ many : Nat, r = many := ⟨r.toNat, (Int.toNat_of_nonneg r0).symm⟩
  have hm : many ≤ 6 := by omega
  obtain ⟨v, h2, q2, ⟨B⟩, U2, G2⟩ := block_ok (c := c + 40) (many := many) (U1.le (by omega)) (by omega)
  obtain ⟨rows, live, H, ev⟩ : ∃ rows live, Hst rows live ∧ v = hV rows live := ⟨_, _, B.hst (by omega), B.eq⟩
  clear B
  subst ev
  have hl := H.hl
  have ul := U2.lt
  let env2 : Iv.Env := [some (.ref u), o1, some (hV rows live), o3, o4, o5, o6, o7, o8, o9, o10, none]
  let h3 : IH := h2 ++ [.lst ((rows.map Row.name).map .str)]
  have q3 : LcE LN (Iter (Bin ixM (Var 2) (Cst (.int 0)))) (.n 11) YesT (Bin ixM (Var 11) (Cst (.int 0))) [11] env2 h2 = some (.ok (.ref h2.length), h3) := by
    refine (lcE_pure (k := LN) (s := SItems (rows.map Row.v)) (h1 := h2) (rows.map Row.v) (fun _ => true) (fun x => rowI x 0) (iter_ok (x := .tup (rows.map Row.v)) (bin_ok (x := hV rows live) (y := .int 0) rfl rfl (ix_tup rfl)) rfl) (LN_ok (by rw [List.length_map]; omega)) (by rw [List.length_map]; omega) (fun acc i => rfl) ?_).trans ?_
    · intro x hx
      obtain ⟨r, hr, rfl⟩ := List.mem_map.mp hx
      exact ⟨_, rfl, fun acc => ⟨rfl, fun _ => bin_ok (x := r.v) (y := .int 0) rfl rfl (ix_tup rfl)⟩⟩
    · rw [List.filter_eq_self.mpr (fun _ _ => rfl), List.map_map]
      show some (Out.ok (IV.ref h2.length), h2 ++ [Iv.IO.lst (rows.map ((fun x => rowI x 0) ∘ Row.v))]) = some (Out.ok (IV.ref h2.length), h2 ++ [.lst ((rows.map Row.name).map .str)])
      rw [List.map_map]; rfl
  have e3 : h3[h2.length]? = some (.lst ((rows.map Row.name).map .str)) := push_len
  have g3 : Gr h2 h3 := Gr.push _ _
  let far := leastL rows rows.length
  let env3 : Iv.Env := [some (.ref u), o1, some (hV rows live), some (.ref h2.length), o4, o5, o6, o7, o8, o9, o10, none]
  have q4 : CallD 1 F__law_least (Cons (Var 2) Nil) env3 h3 = some (.ok (.tup (far.map .str)), h3) := callD_pure (xs := [hV rows live]) (one_ok rfl) (by
    show (pureI (hV rows live) && true) = true
    rw [hV_pure]; rfl) rfl (by
    obtain ⟨w, h', q, rfl, _⟩ := least_law (h := []) H
    exact ⟨h', q⟩) (by show pureIs _ = true; exact pure_strs _)
  obtain ⟨z, h5, q5, l5, g5⟩ := lists_ll 16 (hV rows live) h3 (H.pd 11)
  have l0 : LL 0 h5 z (hV rows live) := LL.mono (Nat.zero_le _) (fun _ _ _ e => e) l5
  obtain ⟨f, h6, q6, ⟨o6', rfl⟩, g6⟩ := get_ok (o0 := some (.ref u)) (o1 := o1) (o3 := some (.ref h2.length)) (o6 := o6) (o7 := o7) (o8 := o8) (o9 := o9) (o10 := o10) (o11 := none) H l0
  have um : u ≠ h2.length := by omega
  have G26 : Gr h2 h6 := (g3.trans g5).trans g6
  obtain ⟨f, h7, q7, ⟨o7', o8', o9', rfl⟩, U7, G7⟩ := laps_ok (c := c) (far := far) (o1 := o1) (o5 := some z) (o6 := o6') (o7 := o7) (o8 := o8) (o9 := o9) (o10 := o10) (o11 := none) (U2.gr G26) H um (g6 _ _ (g5 _ _ e3)) (far_perm H)
  obtain ⟨f, h8, q8, ⟨o10', rfl⟩, g8⟩ := odd_ok (far := far) (o0 := some (.ref u)) (o1 := o1) (o5 := some z) (o6 := o6') (o7 := o7') (o8 := o8') (o9 := o9') (o10 := o10) (o11 := none) H (G7 _ _ (Ne.symm um) (g6 _ _ (g5 _ _ e3))) (far_perm H)
  refine ⟨.nx [some (.ref u), o1, some (hV rows live), some (.ref h2.length), some (.tup (far.map .str)), some z, o6', o7', o8', o9', o10', none], h8, ?_, ⟨_, _, _, _, _, _, _, _, _, rfl⟩, U7.gr g8, (((G1.trans G2).trans G26.x).trans G7).trans g8.x⟩
  unfold turnB
  refine (seq_nx (asg_ok (x := hV rows live) (h1 := h2) (callF_ok (two_ok (x := .ref u) (y := .int many) rfl (callF_ok (two_ok (x := .ref u) (y := .int 7) rfl rfl) rfl q1)) rfl q2))).trans ((seq_nx (asg_ok q3)).trans ((seq_nx (asg_ok q4)).trans ((seq_nx (asg_ok (callF_ok (one_ok (x := hV rows live) rfl) rfl q5))).trans ?_)))
  rw [seq_as3]
  exact (seq_nx q6).trans ((seq_nx q7).trans q8)
theorem right_ok {h : IH} {u : Nat} (U : Ur h u 900000000) : Ok (F__law_right [.ref u]) h fun v h' => v = .bl true ∧ GrX u h h' := by
  have U0 : Ur h u (200 * (8 - 0)) := U.le (by omega)
  obtain ⟨f, h2, q2, env2, rfl, o1, o2, o3, o4, o5, o6, o7, o8, o9, o10, rfl, _, G2⟩ := forS_ok (src := IterA rng1 (Cons (Cst (.int 8)) Nil)) (s := SRange 0 8) (t := TgN 1) (b := turnB)
    (n := 8) (k := LN) (env := [some (.ref u), none, none, none, none, none, none, none, none, none, none, none]) (h := h) (h1 := h)
    (fun t env h' => ∃ o1 o2 o3 o4 o5 o6 o7 o8 o9 o10, env = [some (.ref u), o1, o2, o3, o4, o5, o6, o7, o8, o9, o10, none] ∧ Ur h' u (200 * (8 - t)) ∧ GrX u h h')
    (iterA_ok (one_ok (x := .int (8 : Nat)) rfl) (rng1_ok (by omega))) (LN_ok (by omega))
    ⟨none, none, none, none, none, none, none, none, none, none, rfl, U0, GrX.refl u h⟩
    (by
      rintro t env h' ht ⟨o1, o2, o3, o4, o5, o6, o7, o8, o9, o10, rfl, U1, G1⟩
      obtain ⟨f, h3, q3, ⟨p2, p3, p4, p5, p6, p7, p8, p9, p10, rfl⟩, U3, G3⟩ := turn_ok (c := 200 * (8 - (t + 1))) (o1 := some (.int t)) (o2 := o2) (o3 := o3) (o4 := o4) (o5 := o5) (o6 := o6) (o7 := o7) (o8 := o8) (o9 := o9) (o10 := o10) (U1.le (by omega))
      refine ⟨.int t, srange ht, ⟨_, h3, ?_, _, .inl rfl, some (.int t), p2, p3, p4, p5, p6, p7, p8, p9, p10, rfl, U3, G1.trans G3⟩⟩
      have e1 : TgN 1 (.int t) [some (.ref u), o1, o2, o3, o4, o5, o6, o7, o8, o9, o10, none] h' = some (.ok [some (.ref u), some (.int t), o2, o3, o4, o5, o6, o7, o8, o9, o10, none], h') := rfl
      generalize turnB = B at q3 ⊢
      rw [bind_ok e1]; exact q3)
    (fun env h' _ => srange_end)
  have body : b__law_right = SeqS (ForS LN (IterA rng1 (Cons (Cst (.int 8)) Nil)) (TgN 1) turnB) (RetS (Cst (.bl true))) := rfl
  exact ⟨.bl true, h2, by
    unfold F__law_right
    rw [body]
    exact fn_rt ((seq_nx q2).trans (ret_ok rfl)), rfl, G2⟩
theorem law_from (bh : ∃ h', F__law_by_hand_right [] [] = some (.ok (.bl true), h')) {ns : List Int} {x : IV} (hn : ns.length ≤ 63) (hx : x = .fl (ns.map .int) ∨ x = .kl (ns.map .int)) : ∃ h', F_law [x] [] = some (.ok (.bl true), h') := by
  obtain ⟨v, h1, q1, m, cs, rfl, e1, c0, c3⟩ := cells_ok (h := []) hn hx
  have ml := (List.getElem?_eq_some_iff.mp e1).1
  obtain ⟨v, h2, q2, rfl, acc, rfl, b2, b3⟩ := lcE_ok (k := LN) (n := cs.length) (src := IterA rng1 (Cons (CallB lenM (Cons (Var 1) Nil)) Nil)) (s := SRange 0 cs.length) (h := h1) (h1 := h1) (p := .n 2) (vs := [2]) (c := YesT) (el := CallF 1 F__law_right (Cons (CallF 2 F__law_box (Cons (Var 1) (Cons (Var 2) Nil))) Nil)) (env := [some x, some (.ref m), none])
    (fun i acc h' => acc = (List.replicate i true).map .bl ∧ h'[h1.length]? = some (.lst acc) ∧ h'[m]? = some (.lst (cs.map .int)))
    (iterA_ok (one_ok (x := .int (cs.length : Nat)) (callB_ok (one_ok (x := .ref m) rfl) (by rw [len_lst e1, List.length_map]))) (rng1_ok (by omega))) (LN_ok (by omega)) ⟨rfl, push_len, by rw [List.getElem?_append_left ml]; exact e1⟩
    (by
      rintro i acc h' hi ⟨rfl, b2, b3⟩
      obtain ⟨w, h3, q3, rfl, U3, g3⟩ := box_ok (m := m) (k := i) b3 hi (by omega)
      obtain ⟨w, h4, q4, rfl, g4⟩ := right_ok U3
      refine ⟨.int i, _, srange hi, rfl, true, h', rfl, ?_⟩
      show Ok _ _ _
      have l2 := (List.getElem?_eq_some_iff.mp b2).1
      have l3 := (List.getElem?_eq_some_iff.mp b3).1
      have b2' := g4 _ _ (by omega) (g3 _ _ b2)
      have b3' := g4 m _ (by omega) (g3 _ _ b3)
      refine ⟨.bl true, h4, callF_ok (one_ok (callF_ok (two_ok (x := .ref m) (y := .int i) rfl rfl) rfl q3)) rfl q4, b2', by simp; omega, ?_, ?_, ?_⟩
      · rw [List.replicate_succ']; simp
      · rw [List.getElem?_set_self (List.getElem?_eq_some_iff.mp b2').1]
      · rw [List.getElem?_set_ne (by omega)]; exact b3')
    (by rintro acc h' _; exact srange_end)
  have al := all_lst b2
  have at_ : (List.replicate cs.length true).all id = true := by simp
  rw [at_] at al
  exact ⟨h2, fn_rt ((seq_nx (asg_ok (x := .ref m) (h1 := h1) (callF_ok (two_ok (x := x) (y := .int 3) rfl rfl) rfl q1))).trans (ret_ok (andV_tt (x := .bl true) (h1 := h1) (callP_ok (xs := []) rfl rfl rfl bh rfl) rfl (callB_ok (one_ok q2) al))))⟩
theorem law_pure (ns : List Int) (x : IV) (hn : ns.length ≤ 63) (hx : x = .fl (ns.map .int) ∨ x = .kl (ns.map .int)) : ∃ h', F_law [x] [] = some (.ok (.bl true), h') := law_from hand_ok hn hx
end K02
set_option autoImplicit true
namespace K02
open PySem L2 Iv
abbrev Kof {K : PySem.W.Frag} {h : Heap} (_ : K.In h) : PySem.W.Frag := K
theorem all_mk [KL] {l : PySem.W.OpenLaw} {w : World} {K : PySem.W.Frag} {mg : Str → Option Value} {fa : Addr} (hkl : KLOk K) (hKL : ∀ a vs, (∀ H, SqL K H a vs) → KL.p a vs) (hfa : mg "law" = some (.ref fa)) (Z : Exs K mg) (B : Blt mg) (T : Tops K mg)
    (pureT : ∀ (ns : List Int) (x : IV), ns.length ≤ 63 → x = .fl (ns.map IV.int) ∨ x = .kl (ns.map IV.int) → ∃ h', F_law [x] [] = some (.ok (.bl true), h')) :
    ∃ fd : FuncData, (∀ (s : Shared) (v : Value), BindsTo s fd ⟨[v], []⟩ [("_law_script", v)]) ∧ ∀ base : Heap, K.In base → base.Ns mainGlobals mg → FnOk l.prog w K mg base CX0 20 fa fd ["_law_script"] (Iv.spLaw K) := by
  obtain ⟨f, fd, F, m, b⟩ := T.law
  have e := hfa.symm.trans m
  cases e
  obtain ⟨oc, od, kV, doc, pm, an, cdv, ct, osl, rfl, lk, hcd⟩ := id F.ex
  exact ⟨_, fun s v => .of_eq rfl, fun base _ _ => (law_fn hkl Z B T F).imp (law_imp hKL pureT)⟩
theorem all_mk2 {l : PySem.W.OpenLaw} {w : World} {K : PySem.W.Frag} {mg : Str → Option Value} {fa : Addr} (hfa : mg "law" = some (.ref fa)) (Z : Exs K mg) (B : Blt mg) (T : Tops K mg)
    (pureT : ∀ (ns : List Int) (x : IV), ns.length ≤ 63 → x = .fl (ns.map IV.int) ∨ x = .kl (ns.map IV.int) → ∃ h', F_law [x] [] = some (.ok (.bl true), h')) :
    ∃ fd : FuncData, (∀ (s : Shared) (v : Value), BindsTo s fd ⟨[v], []⟩ [("_law_script", v)]) ∧ ∀ base : Heap, K.In base → base.Ns mainGlobals mg → FnOk l.prog w K mg base CX0 20 fa fd ["_law_script"] (Iv.spLaw K) := by
  letI : Iv.KL := ⟨fun a vs => ∀ H, SqL K H a vs, fun D => ExF K D⟩
  exact all_mk ⟨fun a vs H p => p H, fun _ => Iff.rfl⟩ (fun a vs p => p) hfa Z B T pureT
theorem walk {l : PySem.W.OpenLaw} {q : Program} {loose : List Str} {XP : (Str → Option Value) → Heap → Prop} {YP : World → Heap → Prop} {d : DefRec} {K : Params → PySem.W.Frag} (hn : l.most = some 63) (hdf : d.params.defaults = [])
    (hY : ∀ (w : World) (h : Heap), YP w h → (K w.params).In h)
    (F : ∀ (w : World) (mg : Str → Option Value) (fa : Addr) (h : Heap), (K w.params).In h → h.Ns mainGlobals mg → mg d.name = some (.ref fa) →
      ∃ fd : FuncData, (∀ (s : Shared) (u : Value), BindsTo s fd ⟨[u], []⟩ [("_law_script", u)]) ∧ ∀ base : Heap, (K w.params).In base → base.Ns mainGlobals mg → FnOk l.prog w (K w.params) mg base CX0 20 fa fd ["_law_script"] (Iv.spLaw (K w.params))) :
    PySem.W.WalkO q loose XP YP l.row.toRowW d [] (fun f vs => PySem.call f vs) :=
  L2.walk_of (n := 63) (k := 20) (x := "_law_script") (CX := fun _ => CX0) (sp := fun w => Iv.spLaw (K w.params)) hn (by decide) hdf ⟨rfl, by decide, by decide⟩ hY F (fun _ H a ns hl hO hS => ⟨a, ns, rfl, hS, hl, hO, fun _ => rfl⟩) fun _ _ _ _ _ z => z
end K02
open PySem PySem.W PyProof.Rows in
set_option maxRecDepth 100000 in
set_option maxHeartbeats 0 in
theorem PySem.Challenge.cw_anylatency_k02_orders_or_not_holds : PySem.Challenge.rw_anylatency_k02_orders_or_not.Holds := by
  w_on; o_law; k_head; (case hw => w_witness2)
  k_fill
  refine K02.walk (l := PySem.Challenge.rw_anylatency_k02_orders_or_not) rfl rfl (fun w h Y => PySem.W.kIn_of Y) ?F
  case F =>
    intro w mg fa h KX G hmg
    letI : Iv.KL := ⟨fun _ _ => False, fun _ => False⟩
    have b_abs : mg "abs" = none := by
      refine PySem.W.mg_none_of KX G ?z
      (case z => k_is)
    have b_all : mg "all" = none := by
      refine PySem.W.mg_none_of KX G ?z
      (case z => k_is)
    have b_bool : mg "bool" = none := by
      refine PySem.W.mg_none_of KX G ?z
      (case z => k_is)
    have b_dict : mg "dict" = none := by
      refine PySem.W.mg_none_of KX G ?z
      (case z => k_is)
    have b_enumerate : mg "enumerate" = none := by
      refine PySem.W.mg_none_of KX G ?z
      (case z => k_is)
    have b_int : mg "int" = none := by
      refine PySem.W.mg_none_of KX G ?z
      (case z => k_is)
    have b_isinstance : mg "isinstance" = none := by
      refine PySem.W.mg_none_of KX G ?z
      (case z => k_is)
    have b_len : mg "len" = none := by
      refine PySem.W.mg_none_of KX G ?z
      (case z => k_is)
    have b_list : mg "list" = none := by
      refine PySem.W.mg_none_of KX G ?z
      (case z => k_is)
    have b_max : mg "max" = none := by
      refine PySem.W.mg_none_of KX G ?z
      (case z => k_is)
    have b_range : mg "range" = none := by
      refine PySem.W.mg_none_of KX G ?z
      (case z => k_is)
    have b_sorted : mg "sorted" = none := by
      refine PySem.W.mg_none_of KX G ?z
      (case z => k_is)
    have b_str : mg "str" = none := by
      refine PySem.W.mg_none_of KX G ?z
      (case z => k_is)
    have b_tuple : mg "tuple" = none := by
      refine PySem.W.mg_none_of KX G ?z
      (case z => k_is)
    have b_zip : mg "zip" = none := by
      refine PySem.W.mg_none_of KX G ?z
      (case z => k_is)
    have z_NoOrder : Iv.OwnX (K02.Kof KX) mg "NoOrder" := by
      refine' Iv.own_of KX G ?a ?xc ?kp ?sb ?ty ?su ?hg ?hk ?hd ?ha ?hn ?ht ?hm ?ve
      (case a => k_is); (case xc => k_exc); (case kp => k_is); (case sb => k_is); (case ty => k_is); (case su => first | rfl | k_is); (case hg => k_is); (case hk => k_is); (case hd => k_is); (case ha => k_is); (case hn => k_is); (case ht => k_is); (case hm => k_is); (case ve => k_is)
    have v_NoOrder : Iv.OwnV (K02.Kof KX) mg "NoOrder" := by
      refine' Iv.ownV_mk KX G z_NoOrder ?a ?tu ?st
      (case a => k_is); (case tu => k_is); (case st => k_is)
    have t_tupled : Iv.TopFn (K02.Kof KX) mg "tupled" K02.s_tupled ["value"] := by
      refine' Iv.topFn_of KX G ?a ?l ?c ?k (fun _ _ _ _ _ _ us hl => match us, hl with | [_], _ => rfl)
      (case a => k_is)
      (case l => k_is)
      (case c => k_is)
      (case k => k_is)
    have t_is_name : Iv.TopFn (K02.Kof KX) mg "is_name" K02.s_is_name ["thing"] := by
      refine' Iv.topFn_of KX G ?a ?l ?c ?k (fun _ _ _ _ _ _ us hl => match us, hl with | [_], _ => rfl)
      (case a => k_is)
      (case l => k_is)
      (case c => k_is)
      (case k => k_is)
    have t_is_tuple_of : Iv.TopFn (K02.Kof KX) mg "is_tuple_of" K02.s_is_tuple_of ["thing", "many"] := by
      refine' Iv.topFn_of KX G ?a ?l ?c ?k (fun _ _ _ _ _ _ us hl => match us, hl with | [_, _], _ => rfl)
      (case a => k_is)
      (case l => k_is)
      (case c => k_is)
      (case k => k_is)
    have t_reads_by_name : Iv.TopFn (K02.Kof KX) mg "reads_by_name" K02.s_reads_by_name ["rows"] := by
      refine' Iv.topFn_of KX G ?a ?l ?c ?k (fun _ _ _ _ _ _ us hl => match us, hl with | [_], _ => rfl)
      (case a => k_is)
      (case l => k_is)
      (case c => k_is)
      (case k => k_is)
    have t_next_names : Iv.TopFn (K02.Kof KX) mg "next_names" K02.s_next_names ["reads", "laid"] := by
      refine' Iv.topFn_of KX G ?a ?l ?c ?k (fun _ _ _ _ _ _ us hl => match us, hl with | [_, _], _ => rfl)
      (case a => k_is)
      (case l => k_is)
      (case c => k_is)
      (case k => k_is)
    have t_is_order_of : Iv.TopFn (K02.Kof KX) mg "is_order_of" K02.s_is_order_of ["reads", "thing"] := by
      refine' Iv.topFn_of KX G ?a ?l ?c ?k (fun _ _ _ _ _ _ us hl => match us, hl with | [_, _], _ => rfl)
      (case a => k_is)
      (case l => k_is)
      (case c => k_is)
      (case k => k_is)
    have t_is_order : Iv.TopFn (K02.Kof KX) mg "is_order" K02.s_is_order ["block", "thing"] := by
      refine' Iv.topFn_of KX G ?a ?l ?c ?k (fun _ _ _ _ _ _ us hl => match us, hl with | [_, _], _ => rfl)
      (case a => k_is)
      (case l => k_is)
      (case c => k_is)
      (case k => k_is)
    have t_least_order : Iv.TopFn (K02.Kof KX) mg "least_order" K02.s_least_order ["block"] := by
      refine' Iv.topFn_of KX G ?a ?l ?c ?k (fun _ _ _ _ _ _ us hl => match us, hl with | [_], _ => rfl)
      (case a => k_is)
      (case l => k_is)
      (case c => k_is)
      (case k => k_is)
    have t__law_box : Iv.TopFn (K02.Kof KX) mg "_law_box" K02.s__law_box ["_law_script", "_law_k"] := by
      refine' Iv.topFn_of KX G ?a ?l ?c ?k (fun _ _ _ _ _ _ us hl => match us, hl with | [_, _], _ => rfl)
      (case a => k_is)
      (case l => k_is)
      (case c => k_is)
      (case k => k_is)
    have t__law_take : Iv.TopFn (K02.Kof KX) mg "_law_take" K02.s__law_take ["_law_urn", "_law_low_so"] := by
      refine' Iv.topFn_of KX G ?a ?l ?c ?k (fun _ _ _ _ _ _ us hl => match us, hl with | [_, _], _ => rfl)
      (case a => k_is)
      (case l => k_is)
      (case c => k_is)
      (case k => k_is)
    have t__law_cells : Iv.TopFn (K02.Kof KX) mg "_law_cells" K02.s__law_cells ["_law_script", "_law_top"] := by
      refine' Iv.topFn_of KX G ?a ?l ?c ?k (fun _ _ _ _ _ _ us hl => match us, hl with | [_, _], _ => rfl)
      (case a => k_is)
      (case l => k_is)
      (case c => k_is)
      (case k => k_is)
    have t__law_of : Iv.TopFn (K02.Kof KX) mg "_law_of" K02.s__law_of ["_law_urn", "_law_some_so"] := by
      refine' Iv.topFn_of KX G ?a ?l ?c ?k (fun _ _ _ _ _ _ us hl => match us, hl with | [_, _], _ => rfl)
      (case a => k_is)
      (case l => k_is)
      (case c => k_is)
      (case k => k_is)
    have t__law_same : Iv.TopFn (K02.Kof KX) mg "_law_same" K02.s__law_same ["_law_got", "_law_goal"] := by
      refine' Iv.topFn_of KX G ?a ?l ?c ?k (fun _ _ _ _ _ _ us hl => match us, hl with | [_, _], _ => rfl)
      (case a => k_is)
      (case l => k_is)
      (case c => k_is)
      (case k => k_is)
    have t__law_lists : Iv.TopFn (K02.Kof KX) mg "_law_lists" K02.s__law_lists ["_law_thing_so"] := by
      refine' Iv.topFn_of KX G ?a ?l ?c ?k (fun _ _ _ _ _ _ us hl => match us, hl with | [_], _ => rfl)
      (case a => k_is)
      (case l => k_is)
      (case c => k_is)
      (case k => k_is)
    have t__law_mixed : Iv.TopFn (K02.Kof KX) mg "_law_mixed" K02.s__law_mixed ["_law_urn", "_law_pool"] := by
      refine' Iv.topFn_of KX G ?a ?l ?c ?k (fun _ _ _ _ _ _ us hl => match us, hl with | [_, _], _ => rfl)
      (case a => k_is)
      (case l => k_is)
      (case c => k_is)
      (case k => k_is)
    have t__law_tags : Iv.TopFn (K02.Kof KX) mg "_law_tags" K02.s__law_tags ["_law_urn", "_law_many_so"] := by
      refine' Iv.topFn_of KX G ?a ?l ?c ?k (fun _ _ _ _ _ _ us hl => match us, hl with | [_, _], _ => rfl)
      (case a => k_is)
      (case l => k_is)
      (case c => k_is)
      (case k => k_is)
    have t__law_names : Iv.TopFn (K02.Kof KX) mg "_law_names" K02.s__law_names ["_law_urn", "_law_many_so"] := by
      refine' Iv.topFn_of KX G ?a ?l ?c ?k (fun _ _ _ _ _ _ us hl => match us, hl with | [_, _], _ => rfl)
      (case a => k_is)
      (case l => k_is)
      (case c => k_is)
      (case k => k_is)
    have t__law_other : Iv.TopFn (K02.Kof KX) mg "_law_other" K02.s__law_other ["_law_tags_here"] := by
      refine' Iv.topFn_of KX G ?a ?l ?c ?k (fun _ _ _ _ _ _ us hl => match us, hl with | [_], _ => rfl)
      (case a => k_is)
      (case l => k_is)
      (case c => k_is)
      (case k => k_is)
    have t__law_under : Iv.TopFn (K02.Kof KX) mg "_law_under" K02.s__law_under ["_law_near", "_law_far"] := by
      refine' Iv.topFn_of KX G ?a ?l ?c ?k (fun _ _ _ _ _ _ us hl => match us, hl with | [_, _], _ => rfl)
      (case a => k_is)
      (case l => k_is)
      (case c => k_is)
      (case k => k_is)
    have t__law_block : Iv.TopFn (K02.Kof KX) mg "_law_block" K02.s__law_block ["_law_urn", "_law_many_so"] := by
      refine' Iv.topFn_of KX G ?a ?l ?c ?k (fun _ _ _ _ _ _ us hl => match us, hl with | [_, _], _ => rfl)
      (case a => k_is)
      (case l => k_is)
      (case c => k_is)
      (case k => k_is)
    have t__law_host : Iv.TopFn (K02.Kof KX) mg "_law_host" K02.s__law_host ["_law_flat"] := by
      refine' Iv.topFn_of KX G ?a ?l ?c ?k (fun _ _ _ _ _ _ us hl => match us, hl with | [_], _ => rfl)
      (case a => k_is)
      (case l => k_is)
      (case c => k_is)
      (case k => k_is)
    have t__law_fits : Iv.TopFn (K02.Kof KX) mg "_law_fits" K02.s__law_fits ["_law_host_here", "_law_row_so"] := by
      refine' Iv.topFn_of KX G ?a ?l ?c ?k (fun _ _ _ _ _ _ us hl => match us, hl with | [_, _], _ => rfl)
      (case a => k_is)
      (case l => k_is)
      (case c => k_is)
      (case k => k_is)
    have t__law_least : Iv.TopFn (K02.Kof KX) mg "_law_least" K02.s__law_least ["_law_host_here"] := by
      refine' Iv.topFn_of KX G ?a ?l ?c ?k (fun _ _ _ _ _ _ us hl => match us, hl with | [_], _ => rfl)
      (case a => k_is)
      (case l => k_is)
      (case c => k_is)
      (case k => k_is)
    have t__law_by_hand_right : Iv.TopFn (K02.Kof KX) mg "_law_by_hand_right" K02.s__law_by_hand_right [] := by
      refine' Iv.topFn_of KX G ?a ?l ?c ?k (fun _ _ _ _ _ _ us hl => match us, hl with | [], _ => rfl)
      (case a => k_is)
      (case l => k_is)
      (case c => k_is)
      (case k => k_is)
    have t__law_right : Iv.TopFn (K02.Kof KX) mg "_law_right" K02.s__law_right ["_law_urn"] := by
      refine' Iv.topFn_of KX G ?a ?l ?c ?k (fun _ _ _ _ _ _ us hl => match us, hl with | [_], _ => rfl)
      (case a => k_is)
      (case l => k_is)
      (case c => k_is)
      (case k => k_is)
    have t_law : Iv.TopFn (K02.Kof KX) mg "law" K02.s_law ["_law_script"] := by
      refine' Iv.topFn_of KX G ?a ?l ?c ?k (fun _ _ _ _ _ _ us hl => match us, hl with | [_], _ => rfl)
      (case a => k_is)
      (case l => k_is)
      (case c => k_is)
      (case k => k_is)
    exact K02.all_mk2 hmg ⟨v_NoOrder⟩ ⟨b_abs, b_all, b_bool, b_dict, b_enumerate, b_int, b_isinstance, b_len, b_list, b_max, b_range, b_sorted, b_str, b_tuple, b_zip⟩ ⟨t_tupled, t_is_name, t_is_tuple_of, t_reads_by_name, t_next_names, t_is_order_of, t_is_order, t_least_order, t__law_box, t__law_take, t__law_cells, t__law_of, t__law_same, t__law_lists, t__law_mixed, t__law_tags, t__law_names, t__law_other, t__law_under, t__law_block, t__law_host, t__law_fits, t__law_least, t__law_by_hand_right, t__law_right, t_law⟩ K02.law_pure
